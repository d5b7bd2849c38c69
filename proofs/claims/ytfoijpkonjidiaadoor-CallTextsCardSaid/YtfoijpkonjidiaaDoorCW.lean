/- Layer 20: CallTexts. -/
import Derived.Test.YtfoijpkonjidiaaDoorCV
import Derived.Test.YtfoijpkonjidiaaDoorOgC2
namespace Go.Proofs.YtfoijpkonjidiaaDoor
open Go Go.RowKit
set_option linter.unusedVariables false
set_option linter.unusedSimpArgs false
def In64 (n : Int) : Prop := -9223372036854775808 ≤ n ∧ n ≤ 9223372036854775807
theorem ctx_law (x y car later : Int) : Known Tryd.prog knCallKnownL 9 [.int .i64 x, .int .i64 y, .int .i64 car, .int .i64 later] (.bool true) := by
  have hx := made_ok x
  have hy := made_ok y
  have gx := gCl_iff.2 hx
  have gy := gCl_iff.2 hy
  have hA : 0 ≤ mA x ∧ mA x ≤ 19 := hx.2.2
  have hc : cR car = 1 + car % 8 := by
    show IntKind.i64.wrap (1 + car % 8) = _
    exact w8n (by omega) (by omega)
  have hn : nW x later = mA x + later % 1000 := by
    show IntKind.i64.wrap (mA x + later % 1000) = _
    exact w8n (by omega) (by omega)
  have hn1 : IntKind.i64.wrap (nW x later + 1) = mA x + later % 1000 + 1 := by
    rw [hn]; exact w8n (by omega) (by omega)
  have k := lawT x y car later gx gy (gPs_iff.2 ⟨_, nm_lt hx, rfl⟩) (by rw [gx, Bool.true_and]; exact decide_eq_true (by rw [hc]; omega)) (by rw [gx, Bool.true_and]; exact decide_eq_true (by rw [hn]; omega)) (by rw [gx, Bool.true_and]; exact decide_eq_true (by rw [hn1]; omega))
  have e : lawT_c0 x y car later = true := by
    unfold lawT_c0
    have c1 : (IntKind.i64.wrap (IntKind.i64.wrap (nW x later + (1 : Int)) - mA x) != IntKind.i64.wrap (IntKind.i64.wrap (nW x later - mA x) + (1 : Int))) = false := by
      rw [hn1, hn, w8n (n := mA x + later % 1000 + 1 - mA x) (by omega) (by omega), w8n (n := mA x + later % 1000 - mA x) (by omega) (by omega), w8n (n := mA x + later % 1000 - mA x + 1) (by omega) (by omega)]
      rw [show mA x + later % 1000 + 1 - mA x = mA x + later % 1000 - mA x + 1 by omega]
      simp
    have c2 : (IntKind.i64.wrap (nW x later - mA x) != IntKind.i64.wrap (nW x later - mA x)) = false := by simp
    have r := r_is hx
    have c3 : (rK (tX x) == mK x && (rF (tX x) == mF x && (rC (tX x) == mC x && rA (tX x) == mA x))) = true := by
      show (rK (tXC (mK x) (mF x) (mC x) (mA x)) == mK x && (rF (tXC (mK x) (mF x) (mC x) (mA x)) == mF x && (rC (tXC (mK x) (mF x) (mC x) (mA x)) == mC x && rA (tXC (mK x) (mF x) (mC x) (mA x)) == mA x))) = true
      rw [r.1, r.2.1, r.2.2.1, r.2.2.2]
      simp
    have c4 := beq_tx hx hy
    have c1' : (IntKind.i64.wrap (IntKind.i64.wrap (IntKind.i64.wrap (mA x + mdV later (1000 : Int)) + (1 : Int)) - mA x) != IntKind.i64.wrap (IntKind.i64.wrap (IntKind.i64.wrap (mA x + mdV later (1000 : Int)) - mA x) + (1 : Int))) = false := c1
    rw [c1', cond_false]
    have c2' : (IntKind.i64.wrap (IntKind.i64.wrap (mA x + mdV later (1000 : Int)) - mA x) != IntKind.i64.wrap (IntKind.i64.wrap (mA x + mdV later (1000 : Int)) - mA x)) = false := c2
    rw [c2', cond_false]
    have c3' : (rK (tXC (mK x) (mF x) (mC x) (mA x)) == mK x && (rF (tXC (mK x) (mF x) (mC x) (mA x)) == mF x && (rC (tXC (mK x) (mF x) (mC x) (mA x)) == mC x && rA (tXC (mK x) (mF x) (mC x) (mA x)) == mA x))) = true := c3
    rw [c3', cond_true, c4, cond_true]
    unfold pSv_c0
    by_cases h3 : mK x = 3
    · rw [show (mK x != 3) = false by simp [h3], cond_false, show (mK x == 3) = true by simp [h3], cond_true]
      simp
    · rw [show (mK x != 3) = true by simpa using h3, cond_true, show (mK x == 3) = false by simpa using h3, cond_false]
      rfl
  rw [e] at k
  exact k
theorem callTexts_true (x y car later : Int) (w : World) (_ : In64 x) (_ : In64 y) (_ : In64 car) (_ : In64 later) (hl : LaidL knCallKnownL w) :
    Calls Tryd.prog 9 #[.int .i64 x, .int .i64 y, .int .i64 car, .int .i64 later] w fun e w' => e = .returned (.bool true) ∧ Below w.heap.size w w' :=
  (ctx_law x y car later).2.2 w hl
end Go.Proofs.YtfoijpkonjidiaaDoor
