/- Layer 2: MaskLooks, out of its contract. -/
import Derived.Test.YtboobndcgilmlaaDoorOgJ
import Derived.Test.YtboobndcgilmlaaDoorFrL
namespace Go.Proofs.YtboobndcgilmlaaDoor
open Go Go.RowKit
set_option linter.unusedVariables false
def In64 (n : Int) : Prop := -9223372036854775808 ≤ n ∧ n ≤ 9223372036854775807
theorem looks_law {m : Int} (hw : isW m = true) (f : Int) : KnownR Tryd.prog knMaskKnownL 3 [.val (.int .u64 m), .val (.int .i64 f)] (.bool true) [] := by
  have hl := lsL_le m
  exact mlk m f hw (by omega)
theorem maskLooks_true (m f : Int) (w : World) (hm : (Lit.int .u64 m).wf = true) (_ : In64 f) (hl : LaidL knMaskKnownL w) :
    Calls Tryd.prog 3 #[.int .u64 m, .int .i64 f] w fun e w' => e = .returned (.bool true) ∧ Below w.heap.size w w' := by
  have hw : isW m = true := by
    simp [Lit.wf, IntKind.min, IntKind.max, IntKind.signed, IntKind.bits] at hm
    exact decide_eq_true (by omega)
  exact knownR_law (looks_law hw f) hl (.cons (.val rfl) (.cons (.val rfl) .nil))
end Go.Proofs.YtboobndcgilmlaaDoor
