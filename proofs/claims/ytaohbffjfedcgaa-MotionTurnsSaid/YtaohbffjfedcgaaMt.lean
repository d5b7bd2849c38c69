/- Layer 9: MotionTurns, out of its contract. -/
import Derived.Test.YtaohbffjfedcgaaOgT
namespace Go.Proofs.Ytaohbffjfedcgaa
open Go Go.RowKit
set_option linter.unusedVariables false
def In64 (n : Int) : Prop := -9223372036854775808 ≤ n ∧ n ≤ 9223372036854775807
theorem motionTurns_true (p g s m n q : Int) (w : World) (_ : In64 p) (_ : In64 g) (_ : In64 s) (_ : In64 m) (_ : In64 n) (_ : In64 q) :
    Calls Try.prog 4 #[.agg #[.int .i64 p, .int .i64 g, .int .i64 s, .int .i64 m], .int .i64 n, .int .i64 q] w fun e w' => e = .returned (.bool true) ∧ Below w.heap.size w w' :=
  (lawT p g s m n q (by have := ptL_len p g s m n; omega)).2.2 w (LaidL.nil w)
end Go.Proofs.Ytaohbffjfedcgaa
