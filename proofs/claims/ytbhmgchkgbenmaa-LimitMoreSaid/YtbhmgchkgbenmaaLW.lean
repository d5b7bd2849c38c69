import Derived.Test.YtbhmgchkgbenmaaLV
set_option linter.unusedVariables false
namespace Go.Proofs.Ytbhmgchkgbenmaa
open Go Go.RowKit
theorem el_put {l : List Int} {j : Nat} {i : Nat} {v : Int} (h : j < l.length) : el (l.set i v) (j : Int) = if i = j then v else el l (j : Int) := by
 unfold el
 simp only [Int.toNat_natCast, List.getD, List.getElem?_set]
 by_cases e : i = j
 ·subst e; rw [if_pos rfl, if_pos h, if_pos rfl]; rfl
 ·rw [if_neg e, if_neg e]
theorem list5 {l : List Int} (h : l.length = 5) : l = [el l ((0 : Nat) : Int), el l ((1 : Nat) : Int), el l ((2 : Nat) : Int), el l ((3 : Nat) : Int), el l ((4 : Nat) : Int)] := by
 match l, h with
 | [a, b, c, d, e], _ => rfl
noncomputable def cL (xs : List Mv) (u v : Int) : List Int := if wX xs u v = 0 then [cntL u v xs 1, cntL u v xs 2, cntL u v xs 3, cntL u v xs 4, cntL u v xs 5] else []
theorem cL_of {xs : List Mv} {u v : Int} (hw : wX xs u v = 0) {l : List Int} (h : l.length = 5) (k : ∀ j : Nat, j < 5 → el l (j : Int) = cntL u v xs ((j : Int) + 1)) : l = cL xs u v := by
 unfold cL
 rw [if_pos hw, list5 h, k 0 (by omega), k 1 (by omega), k 2 (by omega), k 3 (by omega), k 4 (by omega)]
 rfl
end Go.Proofs.Ytbhmgchkgbenmaa
