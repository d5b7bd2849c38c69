import Derived.Test.YtbhmgchkgbenmaaOgZb
import Derived.Test.YtbhmgchkgbenmaaMB
set_option linter.unusedVariables false
namespace Go.Proofs.Ytbhmgchkgbenmaa
open Go Go.RowKit
theorem pcs_eq (p v : Int) (m b : Bool) (d : Int) : pcs_c0 p v m b d = csS 20 3 (p, v, m, b, d) := by
 have hb : decide (v > 3) = true → decide (v > 0) = true := by simp only [decide_eq_true_eq]; omega
 unfold pcs_c0 csS
 dsimp only
 revert hb
 generalize decide (v > 3) = b1
 generalize decide (p < 0) = b2
 generalize decide (p > 20) = b3
 generalize decide (v > 0) = b4
 generalize decide (d > 0) = b5
 cases b1 <;> cases b2 <;> cases b3 <;> cases b4 <;> cases b5 <;> cases m <;> cases b <;> first | (intro _; rfl) | (intro hb; cases hb rfl)
theorem pcs_is (p v : Int) (m b : Bool) (d : Int) (h1 : 0 ≤ v ∧ v ≤ 1000 ∧ 0 ≤ d ∧ d ≤ 20) : KnownR Try.prog [] 19 [.val (.agg #[.int .i64 p, .int .i64 v, .bool m, .bool b, .int .i64 d]), .val (.int .i64 20), .val (.int .i64 3)] (.tuple #[.complex .f64 0 (csS 20 3 (p, v, m, b, d)).length, .int .i64 0]) [(rowA gI (csS 20 3 (p, v, m, b, d)), 3)] := by
 have k := pcs p v m b d h1
 rw [pcs_eq] at k
 exact k
end Go.Proofs.Ytbhmgchkgbenmaa
