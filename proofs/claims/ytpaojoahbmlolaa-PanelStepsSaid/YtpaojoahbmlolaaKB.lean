/- Layer 16: runs of panels. -/
import Derived.Test.YtpaojoahbmlolaaOgB
namespace Go.Proofs.Ytpaojoahbmlolaa
open Go Go.RowKit
set_option linter.unusedVariables false
set_option linter.unusedSimpArgs false
noncomputable def rnS (w : Int) : Nat → Int → Int → Int × Int
  | 0, a, y => (a, y)
  | k + 1, a, y => rnS w k (a + y) (tkY a w y)
theorem pRn_go {a w y t : Int} (ht : t ≤ 1000) : ∀ (k : Nat) {y0 y1 y2 : Int}, t - y0 = k → 0 ≤ y0 → ckV y1 w y2 = 0 → pRn_f a w y t (k + 1) y0 y1 y2 = some (0, (t, (rnS w k y1 y2).1, (rnS w k y1 y2).2))
  | 0, y0, y1, y2, hk, h0, hc => by
    rw [pRn_fs, decide_eq_true ⟨hc, h0, by omega⟩, cond_true, decide_eq_false (by omega), cond_false, show y0 = t by omega]
    rfl
  | k + 1, y0, y1, y2, hk, h0, hc => by
    rw [pRn_fs, decide_eq_true ⟨hc, h0, by omega⟩, cond_true, decide_eq_true (by omega), cond_true, w8 (v := y0 + 1) (by omega)]
    exact pRn_go ht k (by omega) (by omega) (tk_ok hc)
theorem rRn_go {a w y t : Int} (ht : t ≤ 1000) : ∀ (k : Nat) {y0 y1 y2 : Int}, t - y0 = k → 0 ≤ y0 → ckV y1 w y2 = 0 → rRn_f a w y t (k + 1) y0 y1 y2 = some (0, (t, (rnS w k y1 y2).1, (rnS w k y1 y2).2))
  | 0, y0, y1, y2, hk, h0, hc => by
    rw [rRn_fs, decide_eq_true ⟨hc, h0, by omega⟩, cond_true, decide_eq_false (by omega), cond_false, show y0 = t by omega]
    rfl
  | k + 1, y0, y1, y2, hk, h0, hc => by
    rw [rRn_fs, decide_eq_true ⟨hc, h0, by omega⟩, cond_true, decide_eq_true (by omega), cond_true, w8 (v := y0 + 1) (by omega)]
    exact rRn_go ht k (by omega) (by omega) (tk_ok hc)
noncomputable def lfV (a w y : Int) : Int := if y = 1 then w - a else if y = -1 then a else 0
theorem lf_tick {a w y : Int} (h : ckV a w y = 0) (hy : y ≠ 0) : lfV (a + y) w (tkY a w y) = lfV a w y - 1 ∧ 1 ≤ lfV a w y := by
  rw [ckV_ok] at h
  unfold lfV tkY
  by_cases hc : (y = 1 ∧ a + 1 = w) ∨ (y = -1 ∧ a = 1)
  · rw [if_pos hc, if_neg (by omega), if_neg (by omega)]
    constructor <;> (repeat' split) <;> omega
  · rw [if_neg hc]
    constructor <;> (repeat' split) <;> omega
theorem rLf_go {a w y : Int} : ∀ (k : Nat) {y0 y1 y2 : Int}, lfV y1 w y2 = k → 0 ≤ y0 → y0 + k ≤ 1000 → ckV y1 w y2 = 0 → ∃ z1 z2, rLf_f a w y (k + 1) y0 y1 y2 = some (0, (y0 + k, z1, z2))
  | 0, y0, y1, y2, hk, h0, h1, hc => by
    refine ⟨y1, y2, ?_⟩
    have hy : y2 = 0 := by
      rcases (by omega : y2 = 0 ∨ y2 ≠ 0) with e | e
      · exact e
      · have := (lf_tick hc e).2; omega
    rw [rLf_fs, decide_eq_true ⟨hc, h0, by omega⟩, cond_true, show (y2 != 0) = false by rw [hy]; rfl, cond_false]
    simp
  | k + 1, y0, y1, y2, hk, h0, h1, hc => by
    have hy : y2 ≠ 0 := by
      intro e; subst e; simp [lfV] at hk; omega
    obtain ⟨z1, z2, hf⟩ := rLf_go (a := a) (w := w) (y := y) k (y0 := y0 + 1) (y1 := y1 + y2) (y2 := tkY y1 w y2) (by rw [(lf_tick hc hy).1, hk]; omega) (by omega) (by omega) (tk_ok hc)
    refine ⟨z1, z2, ?_⟩
    rw [rLf_fs, decide_eq_true ⟨hc, h0, by omega⟩, cond_true, show (y2 != 0) = true by simpa using hy, cond_true, w8 (v := y0 + 1) (by omega), hf]
    simp; omega
noncomputable def rvP (a w y t : Int) : Int × Int × Int × Int := if ckV a w y = 0 then (if 0 ≤ t ∧ t ≤ 1000 then ((rnS w t.toNat a y).1, w, (rnS w t.toNat a y).2, 0) else (0, 0, 0, 2)) else (0, 0, 0, ckV a w y)
theorem pRun_is (a w y t : Int) : Known Try.prog [] 17 [.agg #[.int .i64 a, .int .i64 w, .int .i64 y], .int .i64 t] (.tuple #[.agg #[.int .i64 (rvP a w y t).1, .int .i64 (rvP a w y t).2.1, .int .i64 (rvP a w y t).2.2.1], .int .i64 (rvP a w y t).2.2.2]) := by
  unfold rvP
  by_cases h1 : ckV a w y = 0
  · by_cases h2 : 0 ≤ t ∧ t ≤ 1000
    · rw [if_pos h1, if_pos h2]
      have hl := pRn_ok a w y t h1 h2 _ _ _ (pRn_go (a := a) (w := w) (y := y) h2.2 t.toNat (y0 := 0) (by omega) (by omega) h1)
      exact pRnK a w y t _ _ _ h1 h2 (by simp [h1]) (by simpa using h2.1) (by simpa using h2.2) hl
    · rw [if_pos h1, if_neg h2]
      have k := pRnE a w y t (fun h => h2 h.2)
      rw [show pRnE_c3 a w y t = 2 by unfold pRnE_c3; simp [h1]] at k
      exact k
  · rw [if_neg h1]
    have k := pRnE a w y t (fun h => h1 h.1)
    rw [show pRnE_c3 a w y t = ckV a w y by unfold pRnE_c3; rw [show (ckV a w y != 0) = true by simpa using h1, cond_true]] at k
    exact k
theorem rRun_is (a w y t : Int) : Known Try.prog [] 18 [.agg #[.int .i64 a, .int .i64 w, .int .i64 y], .int .i64 t] (.tuple #[.agg #[.int .i64 (rvP a w y t).1, .int .i64 (rvP a w y t).2.1, .int .i64 (rvP a w y t).2.2.1], .int .i64 (rvP a w y t).2.2.2]) := by
  unfold rvP
  by_cases h1 : ckV a w y = 0
  · by_cases h2 : 0 ≤ t ∧ t ≤ 1000
    · rw [if_pos h1, if_pos h2]
      have hl := rRn_ok a w y t h1 h2 _ _ _ (rRn_go (a := a) (w := w) (y := y) h2.2 t.toNat (y0 := 0) (by omega) (by omega) h1)
      apply rRnK a w y t _ _ _ h1 h2 <;> first | exact hl | (simp [h1]; done) | (simp; omega)
    · rw [if_pos h1, if_neg h2]
      have k := rRnE a w y t (fun h => h2 h.2)
      rw [show rRnE_c3 a w y t = 2 by unfold rRnE_c3; simp [h1]] at k
      exact k
  · rw [if_neg h1]
    have k := rRnE a w y t (fun h => h1 h.1)
    rw [show rRnE_c3 a w y t = ckV a w y by unfold rRnE_c3; rw [show (ckV a w y == 0) = false by simpa using h1, cond_false]] at k
    exact k
theorem rLeft_is (a w y : Int) : Known Try.prog [] 20 [.agg #[.int .i64 a, .int .i64 w, .int .i64 y]] (.tuple #[.int .i64 (pLf_c0 a w y), .int .i64 (pLf_c1 a w y)]) := by
  by_cases h1 : ckV a w y = 0
  · have hb : 0 ≤ lfV a w y ∧ lfV a w y ≤ 20 := by
      have := ckV_ok.1 h1
      unfold lfV
      repeat' split
      all_goals omega
    obtain ⟨k, hk⟩ : ∃ k : Nat, lfV a w y = k := ⟨(lfV a w y).toNat, by omega⟩
    obtain ⟨z1, z2, hf⟩ := rLf_go (a := a) (w := w) (y := y) k (y0 := 0) hk (by omega) (by omega) h1
    have hl := rLf_ok a w y h1 _ _ _ hf
    have r := rLfK a w y _ _ _ h1 (by simp [h1]) hl
    have e : rLfK_c0 a w y (0 + k) z1 z2 = pLf_c0 a w y ∧ pLf_c1 a w y = 0 := by
      have := ckV_ok.1 h1
      unfold rLfK_c0 pLf_c0 pLf_c1
      rw [w8 (v := w - a) (by omega), ← hk]
      unfold lfV
      simp only [h1, bq, bnq, Bool.cond_decide]
      simp
    rw [e.1] at r
    rw [e.2]
    exact r
  · have r := rLfE a w y h1
    rw [show pLf_c0 a w y = 0 by unfold pLf_c0; rw [show (ckV a w y != 0) = true by simpa using h1, cond_true], show pLf_c1 a w y = rLfE_c1 a w y by unfold pLf_c1 rLfE_c1; rw [show (ckV a w y != 0) = true by simpa using h1, cond_true]]
    exact r
theorem rNew_is (n : Int) : Known Try.prog [] 10 [.int .i64 n] (.tuple #[.agg #[.int .i64 0, .int .i64 (pNw_c1 n), .int .i64 0], .int .i64 (pNw_c3 n)]) := by
  have r := rNw n
  have e : rNw_c1 n = pNw_c1 n ∧ rNw_c3 n = pNw_c3 n := by
    unfold rNw_c1 rNw_c3 pNw_c1 pNw_c3
    simp only [bq, bnq, Bool.cond_decide, gt_iff_lt, ckV]
    constructor <;> (repeat' split) <;> omega
  rw [e.1, e.2] at r
  exact r
theorem rOrd_is (a w y o : Int) : Known Try.prog [] 14 [.agg #[.int .i64 a, .int .i64 w, .int .i64 y], .int .i64 o] (.tuple #[.agg #[.int .i64 (pOr_c0 a w y o), .int .i64 (pOr_c1 a w y o), .int .i64 (pOr_c2 a w y o)], .int .i64 (pOr_c3 a w y o)]) := by
  have r := rOr a w y o
  have e : rOr_c0 a w y o = pOr_c0 a w y o ∧ rOr_c1 a w y o = pOr_c1 a w y o ∧ rOr_c2 a w y o = pOr_c2 a w y o ∧ rOr_c3 a w y o = pOr_c3 a w y o := by
    unfold rOr_c0 rOr_c1 rOr_c2 rOr_c3 pOr_c0 pOr_c1 pOr_c2 pOr_c3
    simp only [bq, bnq, Bool.cond_decide, Bool.cond_not, gt_iff_lt, ge_iff_le]
    refine ⟨?_, ?_, ?_, ?_⟩ <;> (repeat' split) <;> omega
  rw [e.1, e.2.1, e.2.2.1, e.2.2.2] at r
  exact r
end Go.Proofs.Ytpaojoahbmlolaa
