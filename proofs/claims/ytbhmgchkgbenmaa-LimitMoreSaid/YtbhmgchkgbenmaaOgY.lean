import Derived.Test.YtbhmgchkgbenmaaLX
import Derived.Test.YtbhmgchkgbenmaaOgK
set_option linter.unnecessarySimpa false
set_option linter.unusedSimpArgs false
set_option linter.unusedVariables false
namespace Go.Proofs.Ytbhmgchkgbenmaa
open Go Go.RowKit
set_option maxHeartbeats 8000000
set_option maxRecDepth 100000
attribute [local irreducible] cAll wX cL
theorem cpD (xs : List Mv) (u v : Int)  : KnownR Try.prog [] 15 [.list (rowA gM xs) xs.length, .val (.int .i64 u), .val (.int .i64 v)] (.tuple #[.complex .f64 0 (cL xs u v).length, .int .i64 (wX xs u v)]) ([(rowA gI (cL xs u v), 3)]) := counts_p xs u v
noncomputable def cpD_A (p : List Mv × Int × Int × Nat × Unit) : List D := match p with
 | (xs, u, v, nn0, _) => [.list (rowA gM xs) nn0, .val (.int .i64 u), .val (.int .i64 v)]
noncomputable def cpD_C (p : List Mv × Int × Int × Nat × Unit) : Prop := match p with
 | (xs, u, v, nn0, _) => (nn0 = xs.length) ∧ True
noncomputable def cpD_R (p : List Mv × Int × Int × Nat × Unit) : Value × Outs := match p with
 | (xs, u, v, nn0, _) => (.tuple #[.complex .f64 0 (cL xs u v).length, .int .i64 (wX xs u v)], [(rowA gI (cL xs u v), 3)])
theorem cpD_inj : ∀ p q, cpD_C p → cpD_C q → cpD_A p = cpD_A q → cpD_R p = cpD_R q := by
 rintro ⟨xs, u, v, nn0, _⟩ ⟨xs', u', v', nn0', _⟩ _ _ e
 simp only [cpD_A, List.cons.injEq, D.list.injEq, D.val.injEq, D.agg.injEq, Value.int.injEq, Value.bool.injEq, Value.string.injEq, Value.agg.injEq, Array.mk.injEq, and_true, true_and, gI_inj, gB_inj, gM_inj] at e
 simp_all
noncomputable def cpD_k : List D → Option (Value × Outs) := fnP cpD_A cpD_C cpD_R
theorem cpD_n (xs : List Mv) (u v : Int) (nn0 : Nat) (hn0 : nn0 = xs.length)  : KnownR Try.prog [] 15 [.list (rowA gM xs) nn0, .val (.int .i64 u), .val (.int .i64 v)] (.tuple #[.complex .f64 0 (cL xs u v).length, .int .i64 (wX xs u v)]) ([(rowA gI (cL xs u v), 3)]) := by
 subst hn0; skip
 exact cpD _ _ _ 
theorem cpD_ok : ∀ ds v bs, cpD_k ds = some (v, bs) → KnownR Try.prog [] 15 ds v bs := fnP_ok (by
 rintro ⟨xs, u, v, nn0, _⟩ ⟨hn0, _⟩
 exact cpD_n _ _ _ _ hn0 )
theorem cpD_at (xs : List Mv) (u v : Int) (nn0 : Nat) (hn0 : nn0 = xs.length)  : cpD_k [.list (rowA gM xs) nn0, .val (.int .i64 u), .val (.int .i64 v)] = some (.tuple #[.complex .f64 0 (cL xs u v).length, .int .i64 (wX xs u v)], [(rowA gI (cL xs u v), 3)]) := fnP_at (p := (xs, u, v, nn0, ())) cpD_inj ⟨hn0, trivial⟩ rfl rfl
end Go.Proofs.Ytbhmgchkgbenmaa
