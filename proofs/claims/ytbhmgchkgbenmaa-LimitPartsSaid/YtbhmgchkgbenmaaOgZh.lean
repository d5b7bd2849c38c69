import Derived.Test.YtbhmgchkgbenmaaMB
import Derived.ProofKit
import Derived.IntWalk
set_option linter.unnecessarySimpa false
set_option linter.unusedSimpArgs false
set_option linter.unusedVariables false
namespace Go.Proofs.Ytbhmgchkgbenmaa
open Go Go.RowKit
set_option maxHeartbeats 8000000
set_option maxRecDepth 100000
theorem siG (xs ys : List Int) (hx : xs.length ≤ 20000) : KnownR Try.prog [] 17 [.list (rowA gI xs) xs.length, .list (rowA gI ys) ys.length] (.bool (decide (xs = ys))) ([]) := same_ints xs ys hx
noncomputable def siG_A (p : List Int × List Int × Nat × Nat × Unit) : List D := match p with
 | (xs, ys, nn0, nn1, _) => [.list (rowA gI xs) nn0, .list (rowA gI ys) nn1]
noncomputable def siG_C (p : List Int × List Int × Nat × Nat × Unit) : Prop := match p with
 | (xs, ys, nn0, nn1, _) => (nn0 = xs.length) ∧ (nn1 = ys.length) ∧ (xs.length ≤ 20000) ∧ True
noncomputable def siG_R (p : List Int × List Int × Nat × Nat × Unit) : Value × Outs := match p with
 | (xs, ys, nn0, nn1, _) => (.bool (decide (xs = ys)), [])
theorem siG_inj : ∀ p q, siG_C p → siG_C q → siG_A p = siG_A q → siG_R p = siG_R q := by
 rintro ⟨xs, ys, nn0, nn1, _⟩ ⟨xs', ys', nn0', nn1', _⟩ _ _ e
 simp only [siG_A, List.cons.injEq, D.list.injEq, D.val.injEq, D.agg.injEq, Value.int.injEq, Value.bool.injEq, Value.string.injEq, Value.agg.injEq, Array.mk.injEq, and_true, true_and, gI_inj, gB_inj, gM_inj] at e
 simp_all
noncomputable def siG_k : List D → Option (Value × Outs) := fnP siG_A siG_C siG_R
theorem siG_n (xs ys : List Int) (nn0 : Nat) (nn1 : Nat) (hn0 : nn0 = xs.length) (hn1 : nn1 = ys.length) (hx : xs.length ≤ 20000) : KnownR Try.prog [] 17 [.list (rowA gI xs) nn0, .list (rowA gI ys) nn1] (.bool (decide (xs = ys))) ([]) := by
 subst hn0; subst hn1; skip
 exact siG _ _ hx
theorem siG_ok : ∀ ds v bs, siG_k ds = some (v, bs) → KnownR Try.prog [] 17 ds v bs := fnP_ok (by
 rintro ⟨xs, ys, nn0, nn1, _⟩ ⟨hn0, hn1, hx, _⟩
 exact siG_n _ _ _ _ hn0 hn1 hx)
theorem siG_at (xs ys : List Int) (nn0 : Nat) (nn1 : Nat) (hn0 : nn0 = xs.length) (hn1 : nn1 = ys.length) (hx : xs.length ≤ 20000) : siG_k [.list (rowA gI xs) nn0, .list (rowA gI ys) nn1] = some (.bool (decide (xs = ys)), []) := fnP_at (p := (xs, ys, nn0, nn1, ())) siG_inj ⟨hn0, hn1, hx, trivial⟩ rfl rfl
noncomputable def tabG : GTab := (GTab.fn 32 qMod_k (GTab.fnD 31 mdD_k (GTab.fnD 13 wpD_k (GTab.fnD 23 jpD_k (GTab.fnD 25 spD_k (GTab.fnD 17 siG_k (GTab.fn1 6 (fun l => match l with | [] => some (.bool true) | _ => none) GTab.none)))))))
theorem tabG_ok : GOk Try.prog [] tabG := (GOk.fn qMod_ok (GOk.fnD mdD_ok (GOk.fnD wpD_ok (GOk.fnD jpD_ok (GOk.fnD spD_ok (GOk.fnD siG_ok (GOk.fn1 (known0 lk_e0) GOk.none)))))))
abbrev P_ (xs : List Int) (y2 : Int) : List Mv := List.take ((IntKind.i64.wrap (y2 + (1 : Int))).toNat - (IntKind.i64.wrap (y2 - (1 : Int))).toNat) (List.drop (IntKind.i64.wrap (y2 - (1 : Int))).toNat (mdL xs))
abbrev Q_ (xs : List Int) (k : Int) : List Mv := List.take ((k % IntKind.i64.wrap ((↑(mdL xs).length : Int) + (1 : Int))).toNat - (0 : Nat)) (List.drop (0 : Nat) (mdL xs))
end Go.Proofs.Ytbhmgchkgbenmaa
