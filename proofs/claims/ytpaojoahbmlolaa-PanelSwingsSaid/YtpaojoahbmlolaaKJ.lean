/- Layer 16: PanelSwings, out of its contract. -/
import Derived.Test.YtpaojoahbmlolaaOgK
import Derived.Test.YtpaojoahbmlolaaFrL
namespace Go.Proofs.Ytpaojoahbmlolaa
open Go Go.RowKit
set_option linter.unusedVariables false
def In64 (n : Int) : Prop := -9223372036854775808 ≤ n ∧ n ≤ 9223372036854775807
theorem len_in {w : World} {c : Array Value} {n cap : Nat} {x : Option Addr} (h : ListIn w c n x cap) : n ≤ 18446744073709551615 := by
  rcases h with ⟨_, h⟩ | ⟨_, h1, h2, _⟩
  · omega
  · omega
theorem panelSwings_true (a u y : Int) (A1 : Option Addr) (len1 cap1 : Nat) (xs1 : List Int) (t n : Int) (w : World) (_ : In64 a) (_ : In64 u) (_ : In64 y) (hl1 : xs1.length = len1) (hi1 : ListIn w (rowA gI xs1) len1 A1 cap1) (_ : ∀ m ∈ xs1, rowW gI m) (_ : In64 t) (_ : In64 n) :
    Calls Try.prog 4 #[.agg #[.int .i64 a, .int .i64 u, .int .i64 y], .slice A1 len1 cap1, .int .i64 t, .int .i64 n] w fun e w' => e = .returned (.bool true) ∧ Below w.heap.size w w' := by
  subst hl1
  by_cases hx : xs1.length ≤ 1010
  · exact knownR_law (lawS1 a u y xs1 t n hx (olL_len a u y t n)) (LaidL.nil w) (.cons (.val rfl) (.cons (.list hi1) (.cons (.val rfl) (.cons (.val rfl) .nil))))
  · exact knownR_law (lawS2 a u y xs1 t n (by omega) (len_in hi1)) (LaidL.nil w) (.cons (.val rfl) (.cons (.list hi1) (.cons (.val rfl) (.cons (.val rfl) .nil))))
end Go.Proofs.Ytpaojoahbmlolaa
