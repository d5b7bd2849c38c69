/- Layer 33: WordSlots, out of its contract. -/
import Derived.Test.YtfpabkpmcmfbhaaOgJ
import Derived.Test.YtfpabkpmcmfbhaaFrL
namespace Go.Proofs.Ytfpabkpmcmfbhaa
open Go Go.RowKit
set_option linter.unusedVariables false
def In64 (n : Int) : Prop := -9223372036854775808 ≤ n ∧ n ≤ 9223372036854775807
theorem slots_is (m : Int) (ld : List Int) (es : List En) : KnownR Try.prog [] 3 [.val (.int .i64 m), .list (rowA gI ld) ld.length, .list (rowA gE es) es.length] (.bool true) [] := by
  cases e : ltB ld es with
  | true =>
    have h := lt_len e
    have h2 := wo_len m ld es
    exact wsA m ld es e (by omega) (by omega) (by omega)
  | false => exact wsE m ld es e
theorem wordSlots_true (m : Int) (A : Option Addr) (len cap : Nat) (xs : List Int) (B : Option Addr) (len2 cap2 : Nat) (ys : List En) (w : World) (_ : In64 m) (hl : xs.length = len) (hi : ListIn w (rowA gI xs) len A cap) (hw : ∀ m ∈ xs, rowW gI m) (hl2 : ys.length = len2) (hi2 : ListIn w (rowA gE ys) len2 B cap2) (hw2 : ∀ m ∈ ys, rowW gE m) :
    Calls Try.prog 3 #[.int .i64 m, .slice A len cap, .slice B len2 cap2] w fun e w' => e = .returned (.bool true) ∧ Below w.heap.size w w' := by
  subst hl
  subst hl2
  have harg : DIns w [.val (.int .i64 m), .list (rowA gI xs) xs.length, .list (rowA gE ys) ys.length] [.int .i64 m, .slice A xs.length cap, .slice B ys.length cap2] :=
    .cons (.val rfl) (.cons (.list hi) (.cons (.list hi2) .nil))
  exact knownR_law (slots_is m xs ys) (LaidL.nil w) harg
end Go.Proofs.Ytfpabkpmcmfbhaa
