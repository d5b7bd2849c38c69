import Derived.Test.YtcjlidciniiofaaPR
import Derived.Test.YtcjlidciniiofaaOgA
set_option linter.unusedSimpArgs false
set_option linter.unusedVariables false
namespace Go.Proofs.Ytcjlidciniiofaa
open Go Go.RowKit
theorem u64_fdiv {v : Int} (h0 : 0 ≤ v) (h : v ≤ 1000000) : IntKind.i64.wrap ((IntKind.u64.wrap (IntKind.i64.wrap v)).fdiv 2) = v / 2 := by
 rw [w8 (v := v) (by omega), wrapU64, show v % 18446744073709551616 = v by omega, Int.fdiv_eq_ediv_of_nonneg _ (by omega), w8 (by omega)]
theorem pWithin_eq {k m : Int} (h0 : 0 ≤ k) (h : k ≤ 40) (hm : 1 ≤ m ∧ m ≤ 20) : pWithin_c0 k m = rW m k := by
 have e1 : IntKind.i64.wrap (k + 1) = k + 1 := w8 (by omega)
 have e2 : IntKind.i64.wrap ((k + 1).tdiv 2) = (k + 1) / 2 := by rw [Int.tdiv_eq_ediv_of_nonneg (by omega), w8 (by omega)]
 unfold pWithin_c0 rW
 simp only [e1, e2]
 have e3 : (if m < (k + 1) / 2 then m else (k + 1) / 2) = min ((k + 1) / 2) m := by
  split
  ·rw [Int.min_eq_right (by omega)]
  ·rw [Int.min_eq_left (by omega)]
 rw [e3]
 have b : 0 ≤ min ((k + 1) / 2) m ∧ min ((k + 1) / 2) m ≤ 20 := by omega
 have b2 : 0 ≤ k + 1 - min ((k + 1) / 2) m ∧ k + 1 - min ((k + 1) / 2) m ≤ 41 := by omega
 rw [w8 (v := k + 1 - _) (by omega)]
 have := Int.mul_nonneg b.1 b2.1
 have := Int.mul_le_mul b.2 b2.2 b2.1 (by omega)
 rw [w8 (by omega)]
theorem pDur_go {n m : Int} (hn : 0 ≤ n) (hm : 1 ≤ m ∧ m ≤ 20) : ∀ (k : Nat) {i j : Int}, 0 ≤ i → i ≤ j → j ≤ 40 → j - i ≤ k → n ≤ rW m j → (i = 0 ∨ rW m (i - 1) < n) → ∃ fu d, IsD m n d ∧ pDur_f n m fu i j = some (0, (d, d))
 | k, i, j, h0, h1, h2, hk, a, b => by
  have c0 : decide (0 ≤ i ∧ i ≤ j ∧ j ≤ 40) = true := decide_eq_true ⟨h0, h1, h2⟩
  rcases (by omega : i = j ∨ i < j) with e | e
  ·subst e
   refine ⟨1, i, ⟨h0, a, b⟩, ?_⟩
   rw [pDur_fs]
   simp only [c0, show decide (i < i) = false by simp, cond_true, cond_false]
  ·cases k with
   | zero => omega
   | succ k =>
    have e1 : IntKind.i64.wrap ((IntKind.u64.wrap (IntKind.i64.wrap (i + j))).fdiv 2) = (i + j) / 2 := u64_fdiv (by omega) (by omega)
    have e2 : IntKind.i64.wrap ((i + j) / 2 + 1) = (i + j) / 2 + 1 := w8 (by omega)
    by_cases c : n ≤ rW m ((i + j) / 2)
    ·obtain ⟨fu, d, hd, hf⟩ := pDur_go hn hm k (i := i) (j := (i + j) / 2) h0 (by omega) (by omega) (by omega) c b
     refine ⟨fu + 1, d, hd, ?_⟩
     rw [pDur_fs]
     simp only [c0, decide_eq_true e, e1, e2, pWithin_eq (k := (i + j) / 2) (by omega) (by omega) hm, ge_iff_le, decide_eq_true c, cond_true, Bool.not_true, cond_false]
     exact hf
    ·obtain ⟨fu, d, hd, hf⟩ := pDur_go hn hm k (i := (i + j) / 2 + 1) (j := j) (by omega) (by omega) (by omega) (by omega) a (.inr (by rw [show (i + j) / 2 + 1 - 1 = (i + j) / 2 by omega]; omega))
     refine ⟨fu + 1, d, hd, ?_⟩
     rw [pDur_fs]
     simp only [c0, decide_eq_true e, e1, e2, pWithin_eq (k := (i + j) / 2) (by omega) (by omega) hm, ge_iff_le, decide_eq_false c, cond_true, Bool.not_false, cond_true]
     exact hf
theorem pDuration {n m : Int} (h1 : 0 ≤ n ∧ n ≤ 63000) (h2 : 1 ≤ m ∧ m ≤ 20) : Known Try.prog [] 40 [.int .i64 n, .int .i64 m] (.int .i64 (rD m n)) := by
 have sq := sq_bound (v := m) (b := 20) (by omega) h2.2
 have o := rW_odd (j := m) h2.1 (Int.le_refl _)
 have e0 : IntKind.i64.wrap (IntKind.i64.wrap (2 * m) - 1) = 2 * m - 1 := by rw [w8 (v := 2 * m) (by omega), w8 (by omega)]
 by_cases c : n > m * m
 ·have := pDurL n m c h2 ⟨sq.1, by omega⟩ h1
  have e : pDurL_c0 n m = rD m n := by
   unfold pDurL_c0
   rw [e0, w8 (v := m * m) (by omega), w8 (v := n - m * m) (by omega), w8 (v := n - m * m + m) (by omega), w8 (v := n - m * m + m - 1) (by omega), Int.tdiv_eq_ediv_of_nonneg (by omega)]
   have q0 : 0 ≤ (n - m * m + m - 1) / m := Int.ediv_nonneg (by omega) (by omega)
   have q1 : (n - m * m + m - 1) / m ≤ n - m * m + m - 1 := Int.ediv_le_self _ (by omega)
   have q2 := Int.mul_ediv_self_le (x := n - m * m + m - 1) (k := m) (by omega)
   have q3 := Int.lt_mul_ediv_self_add (x := n - m * m + m - 1) (k := m) (by omega)
   rw [w8 (v := (n - m * m + m - 1) / m) (by omega), w8 (by omega)]
   refine (rD_eq h2.1 h1.1 ?_).symm
   generalize (n - m * m + m - 1) / m = c at *
   have hc : 1 ≤ c := by
    rcases (by omega : 1 ≤ c ∨ c = 0) with k | k
    ·exact k
    ·subst k; simp at q3; omega
   have l1 := rW_lin (L := m) (k := 2 * m - 1 + c) h2.1 (by omega)
   have l2 := rW_lin (L := m) (k := 2 * m - 1 + c - 1) h2.1 (by omega)
   rw [show 2 * m - 1 + c + 1 - m = m + c by omega, Int.mul_add] at l1
   rw [show 2 * m - 1 + c - 1 + 1 - m = m + c - 1 by omega, Int.mul_sub, Int.mul_add, Int.mul_one] at l2
   exact ⟨by omega, by omega, .inr (by omega)⟩
  rw [e] at this
  exact this
 ·obtain ⟨fu, d, hd, hf⟩ := pDur_go (n := n) h1.1 h2 40 (i := 0) (j := 2 * m - 1) (by omega) (by omega) (by omega) (by omega) (by omega) (.inl rfl)
  rw [← e0] at hf
  obtain ⟨j, hj⟩ := pDur_run n m h1 h2 _ _ _ hf
  have h := pDurK n m d d j (by rw [w8 (v := m * m) (by omega), w8 (by omega)]; exact decide_eq_false (by omega)) hj
  rw [rD_eq h2.1 h1.1 hd]
  simp only [pDurK_c0] at h
  exact h
end Go.Proofs.Ytcjlidciniiofaa
