/- Layer 12: SensorFaults, out of its contract. -/
import Derived.Test.YthjdoeeefighkaaOgS
import Derived.Test.YthjdoeeefighkaaFrL
namespace Go.Proofs.Ythjdoeeefighkaa
open Go Go.RowKit
set_option linter.unusedVariables false
def In64 (n : Int) : Prop := -9223372036854775808 ≤ n ∧ n ≤ 9223372036854775807
theorem len_of {xs : List En} {c : Int} (h : xs.length ≤ 200) : (fL xs c).length ≤ 20000 := Nat.le_trans (fL_len xs c) (by omega)
theorem sensorFaults_true (A0 : Option Addr) (len0 cap0 : Nat) (xs0 : List En) (c : Int) (w : World) (hl0 : xs0.length = len0) (hi0 : ListIn w (rowA gE xs0) len0 A0 cap0) (hw0 : ∀ m ∈ xs0, rowW gE m) (_ : In64 c) :
    Calls Try.prog 5 #[.slice A0 len0 cap0, .int .i64 c] w fun e w' => e = .returned (.bool true) ∧ Below w.heap.size w w' := by
  subst hl0
  exact knownR_law (lawF xs0 c) (LaidL.nil w) (.cons (.list hi0) (.cons (.val rfl) .nil))
end Go.Proofs.Ythjdoeeefighkaa
