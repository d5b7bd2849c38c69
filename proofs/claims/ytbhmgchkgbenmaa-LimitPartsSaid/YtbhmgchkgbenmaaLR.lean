import Derived.Test.YtbhmgchkgbenmaaOgS
set_option linter.unusedVariables false
namespace Go.Proofs.Ytbhmgchkgbenmaa
open Go Go.RowKit
def csS (u v : Int) (m : Mv) : List Int :=
 (bif decide (m.2.1 > v) then [1] else []) ++ ((bif (decide (m.1 < 0) || decide (m.1 > u)) then [2] else []) ++ ((bif (decide (m.2.1 > 0) && m.2.2.2.1) then [3] else []) ++ ((bif (decide (m.2.1 > 0) && !m.2.2.1) then [4] else []) ++ (bif (m.2.2.1 && decide (m.2.2.2.2 > 0)) then [5] else []))))
open Classical in
noncomputable def wX (xs : List Mv) (u v : Int) : Int := if cAll xs = 0 then (if 0 ≤ u ∧ u ≤ 63000 ∧ 1 ≤ v ∧ v ≤ 20 then 0 else 2) else cAll xs
end Go.Proofs.Ytbhmgchkgbenmaa
