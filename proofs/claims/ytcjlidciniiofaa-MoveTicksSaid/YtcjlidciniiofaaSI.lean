/- Layer 7: the search. -/
import Derived.Test.YtcjlidciniiofaaSH
namespace Go.Proofs.Ytcjlidciniiofaa
open Go.RowKit
set_option linter.unusedVariables false

def ScRel (p : Nat → Bool) (n : Nat) (w : World) (v5 v6 : Value) (wr : World) : Prop :=
  ∃ lo hi : Nat, v5 = .int .i64 lo ∧ v6 = .int .i64 hi ∧ lo ≤ hi ∧ hi ≤ n ∧ (∀ t, t < lo → p t = false) ∧ (∀ t, hi ≤ t → t < n → p t = true) ∧ Below w.heap.size w wr

end Go.Proofs.Ytcjlidciniiofaa
