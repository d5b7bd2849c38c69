/- Layer 10: Check. -/
import Derived.Test.YtmlalncohkingaaOwn
import Derived.Test.YtmlalncohkingaaLater
namespace Go.Proofs.Ytmlalncohkingaa
open Go.RowKit
set_option linter.unusedVariables false

def chk (s l n : Int) : Int := if n < 0 ∨ 5 < n then 2 else if s = 0 ∨ s = 2 then if l = 0 then 0 else 2 else if s = 1 ∨ s = 3 then if 1 ≤ l ∧ l ≤ n then 0 else 2 else 9
theorem chk_def (s l n : Int) : chk s l n = if n < 0 ∨ 5 < n then 2 else if s = 0 ∨ s = 2 then if l = 0 then 0 else 2 else if s = 1 ∨ s = 3 then if 1 ≤ l ∧ l ≤ n then 0 else 2 else 9 := rfl

theorem pchk (s l n : Int) (w : World) :
    Calls Try.prog 22 #[(.agg #[.int .i64 s, .int .i64 l]), .int .i64 n] w fun x w' => x = .returned (.int .i64 (chk s l n)) ∧ Below w.heap.size w w' := by
  have HD := Lib.hid (chk_def s l n)
  go_enter Try.func22, Try.ntmps22
  go_wp2
  all_goals go_ret
  all_goals (refine ⟨ret_int ?_, (by repeat (first | exact Below.refl _ _ | apply keep_alloc | apply keep_drew | apply keep_drewN | refine keep_step (by assumption) ?_ (by rfl) | refine keep_set ?_ _ _ (by first | exact Nat.le_refl _ | (show _ ≤ _; simp; done) | (show _ ≤ _; simp; omega))))⟩)
  all_goals (have hd := HD.out; (first | omega | (subst_vars; omega) | (simp only [Bool.not_eq_true', Bool.not_eq_false', beq_iff_eq, beq_eq_false_iff_ne, ne_eq, bne_iff_ne, bne_eq_false_iff_eq, Bool.not_eq_true, Bool.not_eq_false, decide_eq_true_eq, decide_eq_false_iff_not, Bool.and_eq_true, Bool.or_eq_true] at *; first | omega | (subst_vars; omega)) | (simp only [Bool.not_eq_true', Bool.not_eq_false', beq_iff_eq, beq_eq_false_iff_ne, ne_eq, bne_iff_ne, bne_eq_false_iff_eq, Bool.not_eq_true, Bool.not_eq_false, decide_eq_true_eq, decide_eq_false_iff_not, Bool.and_eq_true, Bool.or_eq_true, wrap64] at *; first | omega | (subst_vars; omega))))

theorem rchk (s l n : Int) (w : World) :
    Calls Try.prog 26 #[(.agg #[.int .i64 s, .int .i64 l]), .int .i64 n] w fun x w' => x = .returned (.int .i64 (chk s l n)) ∧ Below w.heap.size w w' := by
  have HD := Lib.hid (chk_def s l n)
  go_enter Try.func26, Try.ntmps26
  go_wp2
  all_goals go_ret
  all_goals (refine ⟨ret_int ?_, (by repeat (first | exact Below.refl _ _ | apply keep_alloc | apply keep_drew | apply keep_drewN | refine keep_step (by assumption) ?_ (by rfl) | refine keep_set ?_ _ _ (by first | exact Nat.le_refl _ | (show _ ≤ _; simp; done) | (show _ ≤ _; simp; omega))))⟩)
  all_goals (have hd := HD.out; (first | omega | (subst_vars; omega) | (simp only [Bool.not_eq_true', Bool.not_eq_false', beq_iff_eq, beq_eq_false_iff_ne, ne_eq, bne_iff_ne, bne_eq_false_iff_eq, Bool.not_eq_true, Bool.not_eq_false, decide_eq_true_eq, decide_eq_false_iff_not, Bool.and_eq_true, Bool.or_eq_true] at *; first | omega | (subst_vars; omega)) | (simp only [Bool.not_eq_true', Bool.not_eq_false', beq_iff_eq, beq_eq_false_iff_ne, ne_eq, bne_iff_ne, bne_eq_false_iff_eq, Bool.not_eq_true, Bool.not_eq_false, decide_eq_true_eq, decide_eq_false_iff_not, Bool.and_eq_true, Bool.or_eq_true, wrap64] at *; first | omega | (subst_vars; omega))))
end Go.Proofs.Ytmlalncohkingaa
