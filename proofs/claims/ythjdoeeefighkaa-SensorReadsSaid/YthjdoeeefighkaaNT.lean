/- Layer 12: SensorReads, out of its contract. -/
import Derived.Test.YthjdoeeefighkaaOgSS
import Derived.Test.YthjdoeeefighkaaFrL
namespace Go.Proofs.Ythjdoeeefighkaa
open Go Go.RowKit
set_option linter.unusedVariables false
theorem sensorReads_true (o : Bool) (f z : Int) (A0 : Option Addr) (len0 cap0 : Nat) (gs : List Int) (p t : Int) (b : Bool) (w : World) (_ : In64 f) (_ : In64 z) (hl0 : gs.length = len0) (hi0 : ListIn w (rowA gI gs) len0 A0 cap0) (hw0 : ∀ m ∈ gs, rowW gI m) (_ : In64 p) (_ : In64 t) :
    Calls Try.prog 3 #[.agg #[.bool o, .int .i64 f, .int .i64 z], .slice A0 len0 cap0, .int .i64 p, .int .i64 t, .bool b] w fun e w' => e = .returned (.bool true) ∧ Below w.heap.size w w' := by
  subst hl0
  exact knownR_law (lawR o f z gs p t b) (LaidL.nil w) (.cons (.val rfl) (.cons (.list hi0) (.cons (.val rfl) (.cons (.val rfl) (.cons (.val rfl) .nil)))))
end Go.Proofs.Ythjdoeeefighkaa
