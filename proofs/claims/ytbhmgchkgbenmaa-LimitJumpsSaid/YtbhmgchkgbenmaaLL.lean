/- Layer 14: LimitJumps, out of its contract. -/
import Derived.Test.YtbhmgchkgbenmaaOgK
import Derived.Test.YtbhmgchkgbenmaaFrL
namespace Go.Proofs.Ytbhmgchkgbenmaa
open Go Go.RowKit
set_option linter.unusedVariables false
def In64 (n : Int) : Prop := -9223372036854775808 ≤ n ∧ n ≤ 9223372036854775807
theorem limitJumps_true (A0 : Option Addr) (len0 cap0 : Nat) (xs0 : List Mv) (w : World) (hl0 : xs0.length = len0) (hi0 : ListIn w (rowA gM xs0) len0 A0 cap0) (hw0 : ∀ m ∈ xs0, rowW gM m) :
    Calls Try.prog 5 #[.slice A0 len0 cap0] w fun e w' => e = .returned (.bool true) ∧ Below w.heap.size w w' := by
  subst hl0
  have hp : Pos64 xs0 := fun m hm => rowW_64 (hw0 m hm) (by simp [gM])
  exact knownR_law (lawJ xs0 hp (Nat.le_trans (jL_len xs0) (by decide)) (Nat.le_trans (sL_len xs0) (by decide))) (LaidL.nil w) (.cons (.list hi0) .nil)
end Go.Proofs.Ytbhmgchkgbenmaa
