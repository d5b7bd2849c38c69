import Derived.Test.YtbhmgchkgbenmaaOgJ
set_option linter.unusedVariables false
namespace Go.Proofs.Ytbhmgchkgbenmaa
open Go Go.RowKit
theorem cAll0 {xs : List Mv} (h : cAll xs = 0) : xs.length ≤ 10000 ∧ cE xs = 0 := by
 unfold cAll at h
 split at h
 ·cases h
 ·exact ⟨by omega, h⟩
end Go.Proofs.Ytbhmgchkgbenmaa
