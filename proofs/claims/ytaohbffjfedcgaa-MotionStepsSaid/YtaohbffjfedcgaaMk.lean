/- Layer 9: MotionSteps, out of its contract. -/
import Derived.Test.YtaohbffjfedcgaaOgK
namespace Go.Proofs.Ytaohbffjfedcgaa
open Go Go.RowKit
set_option linter.unusedVariables false
def In64 (n : Int) : Prop := -9223372036854775808 ≤ n ∧ n ≤ 9223372036854775807
theorem motionSteps_true (p g s m n goal : Int) (w : World) (_ : In64 p) (_ : In64 g) (_ : In64 s) (_ : In64 m) (_ : In64 n) (_ : In64 goal) : Calls Try.prog 3 #[.agg #[.int .i64 p, .int .i64 g, .int .i64 s, .int .i64 m], .int .i64 n, .int .i64 goal] w fun e w' => e = .returned (.bool true) ∧ Below w.heap.size w w' :=
  (lawM p g s m n goal).2.2 w (LaidL.nil w)
end Go.Proofs.Ytaohbffjfedcgaa
