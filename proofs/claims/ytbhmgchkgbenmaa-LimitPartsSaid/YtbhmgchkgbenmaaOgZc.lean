import Derived.Test.YtbhmgchkgbenmaaMA
import Derived.Test.YtbhmgchkgbenmaaOgY
import Derived.ProofKit
import Derived.IntWalk
set_option linter.unnecessarySimpa false
set_option linter.unusedSimpArgs false
set_option linter.unusedVariables false
namespace Go.Proofs.Ytbhmgchkgbenmaa
open Go Go.RowKit
set_option maxHeartbeats 8000000
set_option maxRecDepth 100000
attribute [local irreducible] cAll wX tW mdL
theorem lk_e0 : Known Try.prog knLimitKnownL 6 [] (.bool true) := run_res knLimitKnown_mix (knLimitKnown_k0) limitKnown_run
theorem mdD (xs : List Int)  : KnownR Try.prog [] 31 [.list (rowA gI xs) xs.length] (.complex .f64 0 (mdL xs).length) ([(rowA gM (mdL xs), 38)]) := made_is xs
noncomputable def mdD_A (p : List Int × Nat × Unit) : List D := match p with
 | (xs, nn0, _) => [.list (rowA gI xs) nn0]
noncomputable def mdD_C (p : List Int × Nat × Unit) : Prop := match p with
 | (xs, nn0, _) => (nn0 = xs.length) ∧ True
noncomputable def mdD_R (p : List Int × Nat × Unit) : Value × Outs := match p with
 | (xs, nn0, _) => (.complex .f64 0 (mdL xs).length, [(rowA gM (mdL xs), 38)])
theorem mdD_inj : ∀ p q, mdD_C p → mdD_C q → mdD_A p = mdD_A q → mdD_R p = mdD_R q := by
 rintro ⟨xs, nn0, _⟩ ⟨xs', nn0', _⟩ _ _ e
 simp only [mdD_A, List.cons.injEq, D.list.injEq, D.val.injEq, D.agg.injEq, Value.int.injEq, Value.bool.injEq, Value.string.injEq, Value.agg.injEq, Array.mk.injEq, and_true, true_and, gI_inj, gB_inj, gM_inj] at e
 simp_all
noncomputable def mdD_k : List D → Option (Value × Outs) := fnP mdD_A mdD_C mdD_R
theorem mdD_n (xs : List Int) (nn0 : Nat) (hn0 : nn0 = xs.length)  : KnownR Try.prog [] 31 [.list (rowA gI xs) nn0] (.complex .f64 0 (mdL xs).length) ([(rowA gM (mdL xs), 38)]) := by
 subst hn0; skip
 exact mdD _ 
theorem mdD_ok : ∀ ds v bs, mdD_k ds = some (v, bs) → KnownR Try.prog [] 31 ds v bs := fnP_ok (by
 rintro ⟨xs, nn0, _⟩ ⟨hn0, _⟩
 exact mdD_n _ _ hn0 )
theorem mdD_at (xs : List Int) (nn0 : Nat) (hn0 : nn0 = xs.length)  : mdD_k [.list (rowA gI xs) nn0] = some (.complex .f64 0 (mdL xs).length, [(rowA gM (mdL xs), 38)]) := fnP_at (p := (xs, nn0, ())) mdD_inj ⟨hn0, trivial⟩ rfl rfl
end Go.Proofs.Ytbhmgchkgbenmaa
