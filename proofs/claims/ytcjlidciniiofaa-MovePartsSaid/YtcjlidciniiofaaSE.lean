import Derived.Test.YtcjlidciniiofaaSD
set_option linter.unusedVariables false
namespace Go.Proofs.Ytcjlidciniiofaa
open Go.RowKit
def htV (gs : List Int) : Int := if ckE gs = 0 then pos gs gs.length else 0
theorem htV_ok {gs : List Int} (h : ckE gs = 0) : htV gs = pos gs gs.length := by unfold htV; rw [if_pos h]
theorem htV_bad {gs : List Int} (h : ckE gs ≠ 0) : htV gs = 0 := by unfold htV; rw [if_neg h]
end Go.Proofs.Ytcjlidciniiofaa
