/- Layer 13: ticks, travels, and when a run ends. -/
import Derived.Test.YtkmooakeilkdiaaOgX
namespace Go.Proofs.Ytkmooakeilkdiaa
open Go Go.RowKit
set_option linter.unusedVariables false
theorem fr_b (a : Int) : 0 ≤ frO a ∧ frO a ≤ 399 := by unfold frO; omega
theorem sp_b (n : Int) : 1 ≤ spO n ∧ spO n ≤ 20 := by unfold spO; omega
theorem br_b (n : Int) : 0 ≤ brO n ∧ brO n ≤ 5 := by unfold brO; omega
noncomputable def tkO (a b s k : Int) : Int := if a = b then 0 else rD s (tD a b) + 2 * k
noncomputable def tkG (a b s k : Int) : Bool := decide (0 ≤ a ∧ a ≤ 63000 ∧ 0 ≤ b ∧ b ≤ 63000 ∧ 1 ≤ s ∧ s ≤ 20 ∧ 0 ≤ k ∧ k ≤ 5)
noncomputable def trO (n m : Int) : Int := rD m n
noncomputable def trG (n m : Int) : Bool := decide (0 ≤ n ∧ n ≤ 63000 ∧ 1 ≤ m ∧ m ≤ 20)
theorem tD_sym (a b : Int) : tD b a = tD a b := by unfold tD; omega
theorem tk_k {a b s k : Int} (h : tkG a b s k = true) : Known Try.prog [] 10 [.int .i64 a, .int .i64 b, .int .i64 s, .int .i64 k] (.tuple #[.int .i64 (tkO a b s k), .int .i64 0]) := by
  have hh := of_decide_eq_true h
  have r := tkP a b s k hh
  have b2 : 0 ≤ tD a b ∧ tD a b ≤ 63000 := by unfold tD; omega
  have b1 := rD_bound (L := s) (n := tD a b) hh.2.2.2.2.1 b2.1
  have e : tkP_c0 a b s k = tkO a b s k := by
    unfold tkP_c0 tkO
    rw [dist1 (p := b) (g := a) ⟨hh.2.2.1, hh.2.2.2.1⟩ ⟨hh.1, hh.2.1⟩, tD_sym, w8 (v := 2 * k) (by omega), w8 (by omega)]
    by_cases c : a = b
    · rw [if_pos c, show (a == b) = true by simpa using c]; rfl
    · rw [if_neg c, show (a == b) = false by simpa using c]; rfl
  rw [e] at r
  exact r
theorem tr_k {n m : Int} (h : trG n m = true) : Known Try.prog [] 21 [.int .i64 n, .int .i64 m] (.tuple #[.int .i64 (trO n m), .int .i64 0]) := trP n m (of_decide_eq_true h)
theorem nN_bd {p g v q l s k : Int} (h : DOk p g v q l s k) : 0 ≤ nN p g v q l s k ∧ nN p g v q l s k ≤ 70000 ∧ (q ≠ 0 → 1 ≤ nN p g v q l s k) := by
  have h' := h
  obtain ⟨a1, a2, a3, a4, a5, a6, a7, a8, a9, b1, b2, b3, h⟩ := h
  unfold nN
  rcases h with h | h | h | h
  · rw [if_pos h.1]; omega
  all_goals rw [if_neg (by omega)]
  · rw [if_neg (by omega)]
    obtain ⟨r1, r2, r3⟩ := rides_of h' (.inl h.1)
    obtain ⟨w, hw⟩ := nextV_ex a7 r1.v0 r1.vL r1.stop (by omega)
    have := (r1.next a7 (by omega) hw).2.1
    have b := rD_bound (L := s) (n := tD p g + rT v) a7 r3
    have c := rT_bound (v := v) a5 (by omega)
    have d : tD p g ≤ 63000 := by unfold tD; omega
    omega
  · rw [if_neg (by omega)]
    obtain ⟨r1, r2, r3⟩ := rides_of h' (.inr h.1)
    obtain ⟨w, hw⟩ := nextV_ex a7 r1.v0 r1.vL r1.stop (by omega)
    have := (r1.next a7 (by omega) hw).2.1
    have b := rD_bound (L := s) (n := tD p g + rT v) a7 r3
    have c := rT_bound (v := v) a5 (by omega)
    have d : tD p g ≤ 63000 := by unfold tD; omega
    omega
  · rw [if_pos h.1]; omega
/-- in how many ticks the motor is still commanded -/
noncomputable def moX (g s k : Int) (x : X4) : Int := if x.2.2.1 = 1 ∨ x.2.2.1 = 2 then nN x.1 g x.2.1 x.2.2.1 x.2.2.2 s k - k - x.2.2.2 else 0
noncomputable def nX (g s k : Int) (x : X4) : Int := nN x.1 g x.2.1 x.2.2.1 x.2.2.2 s k
theorem nX_step {g s k : Int} {x : X4} (h : okX g s k x) (hq : x.2.2.1 ≠ 0) : nX g s k (dX g s k x) = nX g s k x - 1 := (tick_ok h hq).2
theorem nX_rest {g s k : Int} {x : X4} (h : x.2.2.1 = 0) : nX g s k x = 0 := by unfold nX nN; rw [if_pos h]
theorem moX_step {g s k : Int} {x : X4} (h : okX g s k x) : moX g s k x = (if x.2.2.1 = 2 then 1 else 0) + moX g s k (dX g s k x) := by
  by_cases c0 : x.2.2.1 = 0
  · rw [dX_rest c0]; unfold moX; simp [c0]
  have st := nX_step h c0
  have hd := dX_ok h
  obtain ⟨p, v, q, l⟩ := x
  have h' := h
  obtain ⟨a1, a2, a3, a4, a5, a6, a7, a8, a9, b1, b2, b3, h | h | h | h⟩ := h
  · exact absurd h.1 c0
  · obtain ⟨rq, hh⟩ := h
    simp only at rq
    subst rq
    unfold nX at st
    unfold moX
    simp only [dX, tQ, tL, tP, tV] at st ⊢
    by_cases c : l = 1
    · simp [c] at st ⊢; omega
    · simp [c] at st ⊢; omega
  · obtain ⟨rq, hh⟩ := h
    simp only at rq
    subst rq
    have hl : l = 0 := hh.2.1
    unfold nX at st
    unfold moX
    have eq : (dX g s k (p, v, 2, l)).2.2.1 = 2 ∨ (dX g s k (p, v, 2, l)).2.2.1 = 3 ∨ (dX g s k (p, v, 2, l)).2.2.1 = 0 := by
      simp only [dX, tQ]
      split
      · split
        · split
          · exact .inr (.inr rfl)
          · exact .inr (.inl rfl)
        · exact .inl rfl
      · simp_all
    have el : (dX g s k (p, v, 2, l)).2.2.1 = 2 → (dX g s k (p, v, 2, l)).2.2.2 = 0 := by
      intro e
      obtain ⟨_, _, _, _, _, _, _, _, _, _, _, _, z | z | z | z⟩ := hd
      · omega
      · omega
      · exact z.2.2.1
      · omega
    have n3 : (dX g s k (p, v, 2, l)).2.2.1 = 3 → (dX g s k (p, v, 2, l)).2.2.2 = k := by
      intro e
      simp only [dX, tQ, tL] at e ⊢
      by_cases c : tP p g v 2 s = g
      · simp [c]
      · simp [c] at e
    have k0 : (dX g s k (p, v, 2, l)).2.2.1 = 0 → k = 0 := by
      intro e
      simp only [dX, tQ] at e
      by_cases c : tP p g v 2 s = g
      · by_cases d : k = 0
        · exact d
        · simp [c, d] at e
      · simp [c] at e
    generalize dX g s k (p, v, 2, l) = y at *
    rcases eq with e | e | e
    · simp only [e] at st ⊢
      rw [el e] at st ⊢
      simp
      (try simp only at st)
      omega
    · have := n3 e
      have hn : nN y.1 g y.2.1 y.2.2.1 y.2.2.2 s k = y.2.2.2 := by unfold nN; rw [e]; simp
      rw [hn, this] at st
      simp [e]
      (try simp only at st)
      omega
    · have hn : nN y.1 g y.2.1 y.2.2.1 y.2.2.2 s k = 0 := by unfold nN; rw [e]; simp
      have hk := k0 e
      rw [hn] at st
      simp [e]
      (try simp only at st)
      omega
  · obtain ⟨rq, hh⟩ := h
    simp only at rq
    subst rq
    unfold moX
    have eq : (dX g s k (p, v, 3, l)).2.2.1 = 3 ∨ (dX g s k (p, v, 3, l)).2.2.1 = 0 := by
      simp only [dX, tQ]
      by_cases c : l = 1 <;> simp [c]
    rcases eq with e | e <;> simp [e]
theorem mN_mo {g s k : Int} : ∀ (n : Nat) {x : X4}, okX g s k x → nX g s k x ≤ n → mN g s k n x = moX g s k x ∧ (dN g s k n x).2.2.1 = 0
  | 0, x, h, hn => by
    have b := nN_bd h
    have q : x.2.2.1 = 0 := by
      rcases (by omega : x.2.2.1 = 0 ∨ x.2.2.1 ≠ 0) with c | c
      · exact c
      · have := b.2.2 c; unfold nX at hn; omega
    refine ⟨?_, q⟩
    unfold mN moX
    simp [q]
  | n + 1, x, h, hn => by
    by_cases c : x.2.2.1 = 0
    · have r := dN_rest (g := g) (s := s) (k := k) (n + 1) c
      refine ⟨?_, by rw [r.1]; exact c⟩
      rw [r.2]; unfold moX; simp [c]
    · have st := nX_step h c
      obtain ⟨e1, e2⟩ := mN_mo n (dX_ok h) (by omega)
      refine ⟨?_, e2⟩
      rw [moX_step h, ← e1]; rfl
end Go.Proofs.Ytkmooakeilkdiaa
