import Derived.Test.YtbhmgchkgbenmaaLJ
set_option linter.unnecessarySimpa false
set_option linter.unusedSimpArgs false
set_option linter.unusedVariables false
namespace Go.Proofs.Ytbhmgchkgbenmaa
open Go Go.RowKit
theorem caD (xs : List Mv)  : KnownR Try.prog [] 43 [.list (rowA gM xs) xs.length] (.int .i64 (cAll xs)) ([]) := check_all xs
noncomputable def caD_A (p : List Mv × Nat × Unit) : List D := match p with
 | (xs, nn0, _) => [.list (rowA gM xs) nn0]
noncomputable def caD_C (p : List Mv × Nat × Unit) : Prop := match p with
 | (xs, nn0, _) => (nn0 = xs.length) ∧ True
noncomputable def caD_R (p : List Mv × Nat × Unit) : Value × Outs := match p with
 | (xs, nn0, _) => (.int .i64 (cAll xs), [])
theorem caD_inj : ∀ p q, caD_C p → caD_C q → caD_A p = caD_A q → caD_R p = caD_R q := by
 rintro ⟨xs, nn0, _⟩ ⟨xs', nn0', _⟩ _ _ e
 simp only [caD_A, List.cons.injEq, D.list.injEq, D.val.injEq, D.agg.injEq, Value.int.injEq, Value.bool.injEq, Value.string.injEq, Value.agg.injEq, Array.mk.injEq, and_true, true_and, gI_inj, gB_inj, gM_inj] at e
 simp_all
noncomputable def caD_k : List D → Option (Value × Outs) := fnP caD_A caD_C caD_R
theorem caD_n (xs : List Mv) (nn0 : Nat) (hn0 : nn0 = xs.length)  : KnownR Try.prog [] 43 [.list (rowA gM xs) nn0] (.int .i64 (cAll xs)) ([]) := by
 subst hn0; skip
 exact caD _ 
theorem caD_ok : ∀ ds v bs, caD_k ds = some (v, bs) → KnownR Try.prog [] 43 ds v bs := fnP_ok (by
 rintro ⟨xs, nn0, _⟩ ⟨hn0, _⟩
 exact caD_n _ _ hn0 )
theorem caD_at (xs : List Mv) (nn0 : Nat) (hn0 : nn0 = xs.length)  : caD_k [.list (rowA gM xs) nn0] = some (.int .i64 (cAll xs), []) := fnP_at (p := (xs, nn0, ())) caD_inj ⟨hn0, trivial⟩ rfl rfl
end Go.Proofs.Ytbhmgchkgbenmaa
