/- Layer 33: WordParts, out of its contract. -/
import Derived.Test.YtfpabkpmcmfbhaaOgO
import Derived.Test.YtfpabkpmcmfbhaaFrL
namespace Go.Proofs.Ytfpabkpmcmfbhaa
open Go Go.RowKit
set_option linter.unusedVariables false
def In64 (n : Int) : Prop := -9223372036854775808 ≤ n ∧ n ≤ 9223372036854775807
theorem parts_is (xs : List Int) (c : Int) : KnownR Try.prog [] 7 [.list (rowA gI xs) xs.length, .val (.int .i64 c)] (.bool true) [] := by
  have hl := mdE_len xs
  have hw : IntKind.i64.wrap (((mdE xs).length : Int) + 1) = ((mdE xs).length : Int) + 1 := w8n (by omega) (by omega)
  have m0 := Int.emod_nonneg c (show ((mdE xs).length : Int) + 1 ≠ 0 by omega)
  have m1 := Int.emod_lt_of_pos c (show 0 < ((mdE xs).length : Int) + 1 by omega)
  refine wpA xs c (decide_eq_true ?_) (decide_eq_true ?_) (decide_eq_true ?_) (decide_eq_true (Int.le_refl _)) ?_
  · rw [hw]; omega
  · rw [hw]; unfold modO; exact m0
  · rw [hw]; unfold modO; omega
  · rw [parts_d2]; exact beq_self_eq_true _
theorem wordParts_true (A : Option Addr) (len cap : Nat) (xs : List Int) (c : Int) (w : World) (hl : xs.length = len) (hi : ListIn w (rowA gI xs) len A cap) (hw : ∀ m ∈ xs, rowW gI m) (_ : In64 c) :
    Calls Try.prog 7 #[.slice A len cap, .int .i64 c] w fun e w' => e = .returned (.bool true) ∧ Below w.heap.size w w' := by
  subst hl
  have harg : DIns w [.list (rowA gI xs) xs.length, .val (.int .i64 c)] [.slice A xs.length cap, .int .i64 c] :=
    .cons (.list hi) (.cons (.val rfl) .nil)
  exact knownR_law (parts_is xs c) (LaidL.nil w) harg
end Go.Proofs.Ytfpabkpmcmfbhaa
