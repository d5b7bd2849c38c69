import Derived.Test.YtbhmgchkgbenmaaLT
import Derived.Test.YtbhmgchkgbenmaaOgW
set_option linter.unusedVariables false
namespace Go.Proofs.Ytbhmgchkgbenmaa
open Go Go.RowKit
theorem wX0 {xs : List Mv} {u v : Int} : wX xs u v = 0 ↔ (cAll xs = 0 ∧ 0 ≤ u ∧ u ≤ 63000 ∧ 1 ≤ v ∧ v ≤ 20) := by
 unfold wX
 split
 ·rename_i h
  split
  ·rename_i h2; exact ⟨fun _ => ⟨h, h2⟩, fun _ => rfl⟩
  ·rename_i h2; exact ⟨fun e => (by cases e), fun e => (h2 e.2).elim⟩
 ·rename_i h; exact ⟨fun e => (h e).elim, fun e => (h e.1).elim⟩
end Go.Proofs.Ytbhmgchkgbenmaa
