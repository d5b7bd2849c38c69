import Derived.Test.YtbhmgchkgbenmaaOgY
import Derived.Test.YtbhmgchkgbenmaaFrL
set_option linter.unusedVariables false
namespace Go.Proofs.Ytbhmgchkgbenmaa
open Go Go.RowKit
def In64 (n : Int) : Prop := -9223372036854775808 ≤ n ∧ n ≤ 9223372036854775807
theorem limitWatches_true (A0 : Option Addr) (len0 cap0 : Nat) (xs0 : List Mv) (u v : Int) (w : World) (hl0 : xs0.length = len0) (hi0 : ListIn w (rowA gM xs0) len0 A0 cap0) (hw0 : ∀ m ∈ xs0, rowW gM m) (_ : In64 u) (_ : In64 v) :
  Calls Try.prog 3 #[.slice A0 len0 cap0, .int .i64 u, .int .i64 v] w fun e w' => e = .returned (.bool true) ∧ Below w.heap.size w w' := by
 subst hl0
 exact knownR_law (lawW xs0 u v (Nat.le_trans cL_len (by decide))) (LaidL.nil w) (.cons (.list hi0) (.cons (.val rfl) (.cons (.val rfl) .nil)))
end Go.Proofs.Ytbhmgchkgbenmaa
