/- Layer 16: what the small functions say, one way for program and reference. -/
import Derived.Test.YtpaojoahbmlolaaOgA
namespace Go.Proofs.Ytpaojoahbmlolaa
open Go Go.RowKit
set_option linter.unusedVariables false
set_option linter.unusedSimpArgs false
theorem bq (a b : Int) : (a == b) = decide (a = b) := by by_cases h : a = b <;> simp [h]
theorem bnq (a b : Int) : (a != b) = decide (a ≠ b) := by by_cases h : a = b <;> simp [h]
theorem w8 {v : Int} (h : -100000000 ≤ v ∧ v ≤ 100000000) : IntKind.i64.wrap v = v := Go.IntWalk.i64_in v ⟨by omega, by omega⟩
/-- the error of a panel -/
noncomputable def ckV (a w y : Int) : Int := if 1 ≤ w ∧ w ≤ 20 ∧ 0 ≤ a ∧ a ≤ w ∧ -1 ≤ y ∧ y ≤ 1 then (if (y = 1 ∧ a = w) ∨ (y = -1 ∧ a = 0) then 3 else 0) else 2
theorem ckV_ok {a w y : Int} : ckV a w y = 0 ↔ (1 ≤ w ∧ w ≤ 20 ∧ 0 ≤ a ∧ a ≤ w ∧ -1 ≤ y ∧ y ≤ 1 ∧ (y ≠ 1 ∨ a < w) ∧ (y ≠ -1 ∨ 0 < a)) := by
  unfold ckV
  constructor
  · intro h
    split at h
    · split at h
      · omega
      · omega
    · omega
  · intro h
    rw [if_pos (by omega), if_neg (by omega)]
theorem pChk_is (a w y : Int) : pChk_c0 a w y = ckV a w y := by
  unfold pChk_c0 ckV
  simp only [bq, bnq, Bool.cond_decide, Bool.cond_not, gt_iff_lt]
  split <;> omega
theorem rChk_is (a w y : Int) : rChk_c0 a w y = ckV a w y := by
  unfold rChk_c0 ckV
  simp only [bq, bnq, Bool.cond_decide, Bool.cond_not, gt_iff_lt]
  split <;> omega
/-- the way behind a tick, and what the panel became -/
noncomputable def tkY (a w y : Int) : Int := if (y = 1 ∧ a + 1 = w) ∨ (y = -1 ∧ a = 1) then 0 else y
noncomputable def tkB (a w y : Int) : Int := if (y = 1 ∧ a + 1 = w) ∨ (y = -1 ∧ a = 1) then y else 0
/-- the way behind an order -/
noncomputable def obV (a w y o : Int) : Int := if o = 0 then y else if o = 1 then (if a = w then 0 else 1) else if o = 2 then (if a = 0 then 0 else -1) else if o = 4 then (if (y = -1 ∧ a = w) ∨ (y = 1 ∧ a = 0) then 0 else -y) else 0
theorem tk_ok {a w y : Int} (h : ckV a w y = 0) : ckV (a + y) w (tkY a w y) = 0 := by
  rw [ckV_ok] at h ⊢
  unfold tkY
  split <;> omega
theorem ob_ok {a w y o : Int} (h : ckV a w y = 0) : ckV a w (obV a w y o) = 0 := by
  rw [ckV_ok] at h ⊢
  unfold obV
  repeat' split
  all_goals omega
theorem pStep_is {a w y : Int} (h : ckV a w y = 0) : Known Try.prog [] 42 [.agg #[.int .i64 a, .int .i64 w, .int .i64 y]] (.tuple #[.agg #[.int .i64 (a + y), .int .i64 w, .int .i64 (tkY a w y)], .int .i64 (tkB a w y)]) := by
  rw [ckV_ok] at h
  have k := pStep a w y h
  have e : pStep_c0 a w y = a + y ∧ pStep_c1 a w y = w ∧ pStep_c2 a w y = tkY a w y ∧ pStep_c3 a w y = tkB a w y := by
    unfold pStep_c0 pStep_c1 pStep_c2 pStep_c3 tkY tkB
    rw [w8 (v := a + y) (by omega)]
    simp only [bq, bnq, Bool.cond_decide, Bool.cond_not, gt_iff_lt]
    refine ⟨trivial, trivial, ?_, ?_⟩ <;> split <;> (try split) <;> omega
  rw [e.1, e.2.1, e.2.2.1, e.2.2.2] at k
  exact k
theorem rTick_is {a w y : Int} (h : ckV a w y = 0) : Known Try.prog [] 43 [.agg #[.int .i64 a, .int .i64 w, .int .i64 y]] (.tuple #[.agg #[.int .i64 (a + y), .int .i64 w, .int .i64 (tkY a w y)], .int .i64 (tkB a w y)]) := by
  rw [ckV_ok] at h
  have k := rTick a w y h
  have e : rTick_c0 a w y = a + y ∧ rTick_c1 a w y = w ∧ rTick_c2 a w y = tkY a w y ∧ rTick_c3 a w y = tkB a w y := by
    unfold rTick_c0 rTick_c1 rTick_c2 rTick_c3 tkY tkB
    rw [w8 (v := a + y) (by omega)]
    simp only [bq, bnq, Bool.cond_decide, Bool.cond_not, gt_iff_lt]
    refine ⟨trivial, trivial, ?_, ?_⟩ <;> split <;> (try split) <;> omega
  rw [e.1, e.2.1, e.2.2.1, e.2.2.2] at k
  exact k
theorem pOb_is {a w y o : Int} (h : ckV a w y = 0) (ho : 0 ≤ o ∧ o ≤ 4) : Known Try.prog [] 40 [.agg #[.int .i64 a, .int .i64 w, .int .i64 y], .int .i64 o] (.agg #[.int .i64 a, .int .i64 w, .int .i64 (obV a w y o)]) := by
  rw [ckV_ok] at h
  have k := pOb a w y o h ho
  have e : pOb_c0 a w y o = a ∧ pOb_c1 a w y o = w ∧ pOb_c2 a w y o = obV a w y o := by
    unfold pOb_c0 pOb_c1 pOb_c2 obV
    rw [w8 (v := 0 - y) (by omega)]
    simp only [bq, bnq, Bool.cond_decide, Bool.cond_not, gt_iff_lt]
    refine ⟨trivial, trivial, ?_⟩
    rcases (by omega : o = 0 ∨ o = 1 ∨ o = 2 ∨ o = 3 ∨ o = 4) with rfl | rfl | rfl | rfl | rfl <;> simp <;> (repeat' split) <;> omega
  rw [e.1, e.2.1, e.2.2] at k
  exact k
theorem rTo_is {a w y o : Int} (h : ckV a w y = 0) (ho : 0 ≤ o ∧ o ≤ 4) : Known Try.prog [] 41 [.agg #[.int .i64 a, .int .i64 w, .int .i64 y], .int .i64 o] (.agg #[.int .i64 a, .int .i64 w, .int .i64 (obV a w y o)]) := by
  rw [ckV_ok] at h
  have k := rTo a w y o h ho
  have e : rTo_c0 a w y o = a ∧ rTo_c1 a w y o = w ∧ rTo_c2 a w y o = obV a w y o := by
    unfold rTo_c0 rTo_c1 rTo_c2 obV
    rw [w8 (v := 0 - y) (by omega)]
    simp only [bq, bnq, Bool.cond_decide, Bool.cond_not, gt_iff_lt]
    refine ⟨trivial, trivial, ?_⟩
    rcases (by omega : o = 0 ∨ o = 1 ∨ o = 2 ∨ o = 3 ∨ o = 4) with rfl | rfl | rfl | rfl | rfl <;> simp <;> (repeat' split) <;> omega
  rw [e.1, e.2.1, e.2.2] at k
  exact k
end Go.Proofs.Ytpaojoahbmlolaa
