/- Layer 2: MaskPuts, out of its contract. -/
import Derived.Test.YtboobndcgilmlaaDoorOgE
namespace Go.Proofs.YtboobndcgilmlaaDoor
open Go Go.RowKit
set_option linter.unusedVariables false
def In64 (n : Int) : Prop := -9223372036854775808 ≤ n ∧ n ≤ 9223372036854775807
theorem puts_law {m : Int} (hw : isW m = true) (a b : Int) (c : Bool) : Known Tryd.prog knMaskKnownL 4 [.int .u64 m, .int .i64 a, .int .i64 b, .bool c] (.bool true) := by
  have k := pus m a b c hw
  exact k
theorem maskPuts_true (m a b : Int) (c : Bool) (w : World) (hm : (Lit.int .u64 m).wf = true) (_ : In64 a) (_ : In64 b) (hl : LaidL knMaskKnownL w) :
    Calls Tryd.prog 4 #[.int .u64 m, .int .i64 a, .int .i64 b, .bool c] w fun e w' => e = .returned (.bool true) ∧ Below w.heap.size w w' := by
  have hw : isW m = true := by
    simp [Lit.wf, IntKind.min, IntKind.max, IntKind.signed, IntKind.bits] at hm
    exact decide_eq_true (by omega)
  exact (puts_law hw a b c).2.2 w hl
end Go.Proofs.YtboobndcgilmlaaDoor
