import Derived.Test.YtcjlidciniiofaaOgH
set_option linter.unusedSimpArgs false
set_option linter.unusedVariables false
namespace Go.Proofs.Ytcjlidciniiofaa
open Go Go.RowKit
theorem most_many {m : Int} (hm : 1 ≤ m) : ∀ (n : Nat) {left d : Int}, Rides m m left d → (n = 0 ∨ rT m + ((n : Int) - 1) * m ≤ left) → Rides m m (left - n * m) (d - n)
 | 0, left, d, h, _ => by simpa using h
 | n + 1, left, d, h, k => by
  have k' : rT m + (n : Int) * m ≤ left := by
   rcases k with k | k
   ·omega
   ·rw [show (((n + 1 : Nat) : Int) - 1) = n by omega] at k; exact k
  have e : (((n + 1 : Nat) : Int)) * m = n * m + m := by rw [show ((n + 1 : Nat) : Int) = (n : Int) + 1 by omega, Int.add_mul, Int.one_mul]
  have ih := most_many hm n h (by
   rcases (by omega : n = 0 ∨ 1 ≤ n) with c | c
   ·exact .inl c
   ·refine .inr ?_
    rw [Int.sub_mul, Int.one_mul]; omega)
  have hg := rT_ge (v := m) (by omega)
  have st := (ih.next (w := m) hm (by omega) (.inr (.inl ⟨rfl, hm, by omega, .inl rfl⟩))).1
  rw [e, show left - (n * m + m) = left - n * m - m by omega, show d - ((n + 1 : Nat) : Int) = d - n - m - 1 + m by omega]
  exact st
theorem rid_go {v0 l0 m : Int} (hm : 1 ≤ m ∧ m ≤ 20) : ∀ (K : Nat) {t v left d : Int}, Rides m v left d → d - v ≤ K → 0 ≤ left → left ≤ 63000 → 0 ≤ t → t + (d - v) ≤ 70000 → ∃ fu z0 z1, rid_f v0 l0 m fu v left t = some (0, (z0, z1, t + (d - v)))
 | K, t, v, left, d, h, hk, l0', l1, t0, t1 => by
  have hs : v = 0 ∨ rT (v - 1) ≤ left := .inr h.stop
  have hv : v ≤ d := by
   rcases (by omega : left = 0 ∨ 0 < left) with e | e
   ·subst e; have := h.done hm.1; omega
   ·obtain ⟨w, hw⟩ := nextV_ex hm.1 h.v0 h.vL h.stop e
    have := (h.next hm.1 e hw).2.1; omega
  have c0 : decide (0 ≤ v ∧ v ≤ m ∧ 0 ≤ left ∧ left ≤ 63000 ∧ 0 ≤ t ∧ t ≤ 70000 ∧ (v = 0 ∨ rT (v - 1) ≤ left)) = true := decide_eq_true ⟨h.v0, h.vL, l0', l1, t0, by omega, hs⟩
  rcases (by omega : left = 0 ∨ 0 < left) with e | e
  ·subst e
   have hd := h.done hm.1
   refine ⟨1, v, 0, ?_⟩
   rw [rid_fs, c0, cond_true, decide_eq_false (by omega), cond_false]
   simp; omega
  ·cases K with
   | zero =>
    obtain ⟨w, hw⟩ := nextV_ex hm.1 h.v0 h.vL h.stop e
    have := (h.next hm.1 e hw).2.1; omega
   | succ K =>
    have slow : ∃ fu z0 z1, rid_f v0 l0 m fu (nxV m v left) (IntKind.i64.wrap (left - nxV m v left)) (IntKind.i64.wrap (t + 1)) = some (0, (z0, z1, t + (d - v))) := by
     have hw := nxV_is h.v0 h.vL hm.1 (by omega : 1 ≤ left) hs
     obtain ⟨g1, g2, g3, g4⟩ := h.next hm.1 e hw
     rw [w8 (v := left - nxV m v left) (by omega), w8 (v := t + 1) (by omega)]
     obtain ⟨fu, z0, z1, hf⟩ := rid_go (v0 := v0) (l0 := l0) hm K (t := t + 1) g1 (by omega) g4 (by omega) (by omega) (by omega)
     exact ⟨fu, z0, z1, by rw [hf]; congr 4; omega⟩
    by_cases c : v = m
    ·subst c
     have hb := rT_bound (v := v) (by omega) (by omega)
     have d1 : dtri_c0 v = rT v := dtri_eq (by omega) (by omega)
     by_cases c1 : left - rT v ≥ 0
     ·have q0 : 0 ≤ (left - rT v) / v := Int.ediv_nonneg c1 (by omega)
      have q1 : (left - rT v) / v ≤ left - rT v := Int.ediv_le_self _ c1
      have q2 := Int.mul_ediv_self_le (x := left - rT v) (k := v) (by omega)
      have q3 : ((left - rT v) / v + 1) * v = (left - rT v) / v * v + v := by rw [Int.add_mul, Int.one_mul]
      have q4 : (left - rT v) / v * v ≤ left - rT v := by rw [Int.mul_comm]; exact q2
      obtain ⟨n, hn⟩ : ∃ n : Nat, (left - rT v) / v = n := ⟨((left - rT v) / v).toNat, by omega⟩
      have hg := rT_ge (v := v) (by omega)
      have st := most_many hm.1 (n + 1) h (.inr (by rw [show (((n + 1 : Nat) : Int) - 1) = n by omega, ← hn]; omega))
      rw [show ((n + 1 : Nat) : Int) = (left - rT v) / v + 1 by omega] at st
      have m0 : 0 ≤ (left - rT v) / v * v := Int.mul_nonneg q0 (by omega)
      have hv2 : v ≤ d - ((left - rT v) / v + 1) := by
       rcases (by omega : left - ((left - rT v) / v + 1) * v = 0 ∨ 0 < left - ((left - rT v) / v + 1) * v) with e2 | e2
       ·rw [e2] at st; have := st.done hm.1; omega
       ·obtain ⟨w, hw⟩ := nextV_ex hm.1 st.v0 st.vL st.stop e2
        have := (st.next hm.1 e2 hw).2.1; omega
      obtain ⟨fu, z0, z1, hf⟩ := rid_go (v0 := v0) (l0 := l0) hm K (t := t + ((left - rT v) / v + 1)) st (by omega) (by omega) (by omega) (by omega) (by omega)
      refine ⟨fu + 1, z0, z1, ?_⟩
      rw [rid_fs, c0, cond_true, decide_eq_true (by omega), cond_true, show (v == v) = true by simp, cond_true, d1, w8 (v := left - rT v) (by omega), decide_eq_true c1, cond_true,
       Int.tdiv_eq_ediv_of_nonneg c1, w8 (v := (left - rT v) / v) (by omega), w8 (v := (left - rT v) / v + 1) (by omega), w8 (v := ((left - rT v) / v + 1) * v) (by omega), w8 (v := left - ((left - rT v) / v + 1) * v) (by omega), w8 (v := t + ((left - rT v) / v + 1)) (by omega), hf]
      congr 4; omega
     ·obtain ⟨fu, z0, z1, hf⟩ := slow
      refine ⟨fu + 1, z0, z1, ?_⟩
      rw [rid_fs, c0, cond_true, decide_eq_true (by omega), cond_true, show (v == v) = true by simp, cond_true, d1, w8 (v := left - rT v) (by omega), decide_eq_false c1, cond_false]
      exact hf
    ·obtain ⟨fu, z0, z1, hf⟩ := slow
     refine ⟨fu + 1, z0, z1, ?_⟩
     rw [rid_fs, c0, cond_true, decide_eq_true (by omega), cond_true, show (v == m) = false by simpa using c, cond_false]
     exact hf
theorem riding_is {v l m : Int} (h0 : 0 ≤ v) (h1 : v ≤ m) (hm : 1 ≤ m ∧ m ≤ 20) (hl : 0 ≤ l ∧ l ≤ 63000) (hs : rT (v - 1) ≤ l) : Known Try.prog [] 64 [.int .i64 v, .int .i64 l, .int .i64 m] (.int .i64 (rD m (l + rT v) - v)) := by
 have hb := rT_bound h0 (by omega)
 have r : Rides m v l (rD m (l + rT v)) := ⟨h0, h1, hs, rD_is hm.1 (by omega)⟩
 have b := rD_bound (L := m) (n := l + rT v) hm.1 (by omega)
 obtain ⟨fu, z0, z1, hf⟩ := rid_go (v0 := v) (l0 := l) hm (rD m (l + rT v) - v).toNat (t := 0) r (by omega) hl.1 hl.2 (by omega) (by omega)
 obtain ⟨j, hj⟩ := rid_run v l m ⟨h0, h1, hm.1, hm.2, hl⟩ _ _ _ hf
 have h := ridK v l m z0 z1 (0 + (rD m (l + rT v) - v)) j hj
 simp only [ridK_c0, Int.zero_add] at h
 exact h
end Go.Proofs.Ytcjlidciniiofaa
