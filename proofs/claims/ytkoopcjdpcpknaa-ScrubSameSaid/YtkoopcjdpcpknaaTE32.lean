/- Layer 32: ScrubShows, ScrubSame, out of their contracts. -/
import Derived.Test.YtkoopcjdpcpknaaOgE
import Derived.Test.YtkoopcjdpcpknaaFrL
namespace Go.Proofs.Ytkoopcjdpcpknaa
open Go Go.RowKit
set_option linter.unusedVariables false
theorem dfL_len (x y : Sgt) : (dfL x y).length ≤ 3 := by
  unfold dfL
  split <;> split <;> split <;> simp
theorem scrubShows_true (A0 : Option Addr) (len0 cap0 : Nat) (gs : List Int) (m : Int) (A2 : Option Addr) (len2 cap2 : Nat) (xs : List Shn) (w : World) (hl0 : gs.length = len0) (hi0 : ListIn w (rowA gI gs) len0 A0 cap0) (hw0 : ∀ m ∈ gs, rowW gI m) (_ : In64 m) (hl2 : xs.length = len2) (hi2 : ListIn w (rowA gSh xs) len2 A2 cap2) (hw2 : ∀ m ∈ xs, rowW gSh m) :
    Calls Try.prog 3 #[.slice A0 len0 cap0, .int .i64 m, .slice A2 len2 cap2] w fun e w' => e = .returned (.bool true) ∧ Below w.heap.size w w' := by
  subst hl0
  subst hl2
  exact knownR_law (lawW gs m xs (alL_len gs m xs)) (LaidL.nil w) (.cons (.list hi0) (.cons (.val rfl) (.cons (.list hi2) .nil)))
theorem scrubSame_true (A0 : Option Addr) (len0 cap0 : Nat) (gs : List Int) (m : Int) (A2 : Option Addr) (len2 cap2 : Nat) (xs : List Shn) (a p : Int) (b : Bool) (c q : Int) (d : Bool) (w : World) (hl0 : gs.length = len0) (hi0 : ListIn w (rowA gI gs) len0 A0 cap0) (hw0 : ∀ m ∈ gs, rowW gI m) (_ : In64 m) (hl2 : xs.length = len2) (hi2 : ListIn w (rowA gSh xs) len2 A2 cap2) (hw2 : ∀ m ∈ xs, rowW gSh m) (_ : In64 a) (_ : In64 p) (_ : In64 c) (_ : In64 q) :
    Calls Try.prog 4 #[.slice A0 len0 cap0, .int .i64 m, .slice A2 len2 cap2, .agg #[.int .i64 a, .int .i64 p, .bool b], .agg #[.int .i64 c, .int .i64 q, .bool d]] w fun e w' => e = .returned (.bool true) ∧ Below w.heap.size w w' := by
  subst hl0
  subst hl2
  exact knownR_law (lawM gs m xs a p b c q d (dfL_len _ _)) (LaidL.nil w) (.cons (.list hi0) (.cons (.val rfl) (.cons (.list hi2) (.cons (.val rfl) (.cons (.val rfl) .nil)))))
end Go.Proofs.Ytkoopcjdpcpknaa
