/- Layer 13: how many ticks are left, in the reference. -/
import Derived.Test.YtkmooakeilkdiaaOgE
namespace Go.Proofs.Ytkmooakeilkdiaa
open Go Go.RowKit
set_option linter.unusedVariables false
set_option linter.unusedSimpArgs false
theorem nN_bounds {p g v q l s k : Int} (h : DOk p g v q l s k) : 0 ≤ nN p g v q l s k ∧ nN p g v q l s k ≤ 70000 ∧ (q ≠ 0 → 1 ≤ nN p g v q l s k) := by
  have h' := h
  obtain ⟨a1, a2, a3, a4, a5, a6, a7, a8, a9, b1, b2, b3, h⟩ := h
  unfold nN
  rcases h with h | h | h | h
  · rw [if_pos h.1]; omega
  all_goals rw [if_neg (by omega)]
  · rw [if_neg (by omega)]
    obtain ⟨r1, r2, r3⟩ := rides_of h' (.inl h.1)
    obtain ⟨w, hw⟩ := nextV_ex a7 r1.v0 r1.vL r1.stop (by omega)
    have := (r1.next a7 (by omega) hw).2.1
    have b := rD_bound (L := s) (n := tD p g + rT v) a7 r3
    have c := rT_bound (v := v) a5 (by omega)
    have d : tD p g ≤ 63000 := by unfold tD; omega
    omega
  · rw [if_neg (by omega)]
    obtain ⟨r1, r2, r3⟩ := rides_of h' (.inr h.1)
    obtain ⟨w, hw⟩ := nextV_ex a7 r1.v0 r1.vL r1.stop (by omega)
    have := (r1.next a7 (by omega) hw).2.1
    have b := rD_bound (L := s) (n := tD p g + rT v) a7 r3
    have c := rT_bound (v := v) a5 (by omega)
    have d : tD p g ≤ 63000 := by unfold tD; omega
    omega
  · rw [if_pos h.1]; omega
theorem rN_go {P0 V0 Q0 L0 g s k : Int} : ∀ (n : Nat) {t p v q l : Int}, DOk p g v q l s k → nN p g v q l s k = n → 0 ≤ t → t + n ≤ 1000000 → ∃ z1 z2 z3 z4, rN_f P0 g V0 Q0 L0 s k (n + 1) t p v q l = some (0, (t + n, z1, z2, z3, z4))
  | 0, t, p, v, q, l, h, hn, ht, hb => by
    have hq : q = 0 := by
      have := (nN_bounds h).2.2
      rcases (by omega : q = 0 ∨ q ≠ 0) with e | e
      · exact e
      · have := this e; omega
    have h' := h
    unfold DOk at h'
    refine ⟨p, v, q, l, ?_⟩
    rw [rN_fs, decide_eq_true ⟨ht, by omega, h'⟩, cond_true, show (q != 0) = false by rw [hq]; rfl, cond_false]
    simp
  | n + 1, t, p, v, q, l, h, hn, ht, hb => by
    have hq : q ≠ 0 := by
      intro e; unfold nN at hn; rw [if_pos e] at hn; omega
    obtain ⟨h1, h2⟩ := tick_ok h hq
    obtain ⟨z1, z2, z3, z4, hf⟩ := rN_go (P0 := P0) (V0 := V0) (Q0 := Q0) (L0 := L0) n (t := t + 1) h1 (by omega) (by omega) (by omega)
    have h' := h
    unfold DOk at h'
    refine ⟨z1, z2, z3, z4, ?_⟩
    rw [rN_fs, decide_eq_true ⟨ht, by omega, h'⟩, cond_true, show (q != 0) = true by simpa using hq, cond_true, w8 (v := t + 1) (by omega), hf]
    simp; omega
theorem rNeeds_is {p g v q l s k : Int} (h : DOk p g v q l s k) : Known Try.prog [] 29 [.agg #[.int .i64 p, .int .i64 g, .int .i64 v, .int .i64 q, .int .i64 l], .int .i64 s, .int .i64 k] (.tuple #[.int .i64 (nN p g v q l s k), .int .i64 0]) := by
  have hb := nN_bounds h
  obtain ⟨n, hn⟩ : ∃ n : Nat, nN p g v q l s k = n := ⟨(nN p g v q l s k).toNat, by omega⟩
  obtain ⟨z1, z2, z3, z4, hf⟩ := rN_go (P0 := p) (V0 := v) (Q0 := q) (L0 := l) n (t := 0) h hn (by omega) (by omega)
  have h' := h
  unfold DOk at h'
  obtain ⟨j, hj⟩ := rN_run p g v q l s k h' _ _ _ hf
  obtain ⟨a1, a2, a3, a4, a5, a6, a7, a8, a9, b1, b2, b3, c⟩ := h'
  have r := rNK p g v q l s k (0 + n) z1 z2 z3 z4 j (decide_eq_true ⟨a1, a2, a3, a4, a5, by omega, by decide, by decide, by decide, by decide, b2, by omega, c⟩) (decide_eq_true (by omega)) (by rw [decide_eq_true (by omega)]; rfl) (decide_eq_true (by omega)) (by rw [decide_eq_true (by omega)]; rfl) (decide_eq_true (by omega)) (by rw [decide_eq_true (by omega)]; rfl) hj
  simp only [rNK_c0, Int.zero_add] at r
  rw [hn]
  exact r
end Go.Proofs.Ytkmooakeilkdiaa
