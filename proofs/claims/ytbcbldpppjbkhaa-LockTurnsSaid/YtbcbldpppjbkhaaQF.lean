/- Layer 17: LockTurns, out of its contract. -/
import Derived.Test.YtbcbldpppjbkhaaOgJ
import Derived.Test.YtbcbldpppjbkhaaFrL
namespace Go.Proofs.Ytbcbldpppjbkhaa
open Go Go.RowKit
set_option linter.unusedVariables false
def In64 (n : Int) : Prop := -9223372036854775808 ≤ n ∧ n ≤ 9223372036854775807
theorem cond_or {α : Type} {b : Bool} {x y u v : α} (h1 : x = u ∨ x = v) (h2 : y = u ∨ y = v) : (bif b then x else y) = u ∨ (bif b then x else y) = v := by cases b <;> assumption
theorem lockTurns_true (c : Bool) (A : Option Addr) (len cap : Nat) (xs : List Bool) (f n : Int) (w : World) (hl : xs.length = len) (hi : ListIn w (rowA gB xs) len A cap) (hw : ∀ m ∈ xs, rowW gB m) (_ : In64 f) (_ : In64 n) :
    Calls Try.prog 4 #[.agg #[.bool c, .slice A len cap], .int .i64 f, .int .i64 n] w fun e w' => e = .returned (.bool true) ∧ Below w.heap.size w w' := by
  subst hl
  have harg : DIns w [.agg [.val (.bool c), .list (rowA gB xs) xs.length], .val (.int .i64 f), .val (.int .i64 n)] [.agg ⟨[.bool c, .slice A xs.length cap]⟩, .int .i64 f, .int .i64 n] :=
    .cons (.agg (.cons (.val rfl) (.cons (.list hi) .nil))) (.cons (.val rfl) (.cons (.val rfl) .nil))
  by_cases h : (xs.length : Int) ≤ 70
  · refine knownR_law (lawT c xs f n h ?_ ?_ ?_ ?_) (LaidL.nil w) harg
    · unfold nwL; split
      · rw [List.length_replicate]; omega
      · decide
    · have : ulA_c1 c xs f = [] ∨ ulA_c1 c xs f = xs.set f.toNat false := by
        unfold ulA_c1
        repeat' (refine cond_or ?_ ?_)
        all_goals first | exact .inl rfl | exact .inr rfl
      rcases this with e | e <;> rw [e]
      · decide
      · rw [List.length_set]; exact h
    · have : lkA_c1 c xs = [] ∨ lkA_c1 c xs = nwL xs.length := by
        unfold lkA_c1
        repeat' (refine cond_or ?_ ?_)
        all_goals first | exact .inl rfl | exact .inr rfl
      rcases this with e | e <;> rw [e]
      · decide
      · unfold nwL; split
        · rw [List.length_replicate]; omega
        · decide
    · unfold smL; split
      · rw [List.length_set]; exact h
      · decide
  · exact knownR_law (lawTE c xs f n h) (LaidL.nil w) harg
end Go.Proofs.Ytbcbldpppjbkhaa
