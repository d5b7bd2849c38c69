/- Layer 8: ProfileRides, out of its contract. -/
import Derived.Test.YtjemhamkakgnhaaOgR
import Derived.Test.YtjemhamkakgnhaaFrL
namespace Go.Proofs.Ytjemhamkakgnhaa
open Go Go.RowKit
set_option linter.unusedVariables false
def In64 (n : Int) : Prop := -9223372036854775808 ≤ n ∧ n ≤ 9223372036854775807
theorem profileRides_true (n m t : Int) (w : World) (_ : In64 n) (_ : In64 m) (ht : In64 t) : Calls Try.prog 4 #[.int .i64 n, .int .i64 m, .int .i64 t] w fun e w' => e = .returned (.bool true) ∧ Below w.heap.size w w' :=
  knownR_law (lawR n m t ht.2 (seL_len n m)) (LaidL.nil w) (.cons (.val rfl) (.cons (.val rfl) (.cons (.val rfl) .nil)))
end Go.Proofs.Ytjemhamkakgnhaa
