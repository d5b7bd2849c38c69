import Derived.Test.YtbhmgchkgbenmaaLX
import Derived.Test.YtbhmgchkgbenmaaOgK
set_option linter.unnecessarySimpa false
set_option linter.unusedSimpArgs false
set_option linter.unusedVariables false
namespace Go.Proofs.Ytbhmgchkgbenmaa
open Go Go.RowKit
set_option maxHeartbeats 8000000
set_option maxRecDepth 100000
attribute [local irreducible] cAll wX tW
theorem wpD (xs : List Mv) (u v : Int)  : KnownR Try.prog [] 13 [.list (rowA gM xs) xs.length, .val (.int .i64 u), .val (.int .i64 v)] (.tuple #[.agg #[.int .i64 (tW xs u v).1, .int .i64 (tW xs u v).2], .int .i64 (wX xs u v)]) ([]) := watch_p xs u v
noncomputable def wpD_A (p : List Mv × Int × Int × Nat × Unit) : List D := match p with
 | (xs, u, v, nn0, _) => [.list (rowA gM xs) nn0, .val (.int .i64 u), .val (.int .i64 v)]
noncomputable def wpD_C (p : List Mv × Int × Int × Nat × Unit) : Prop := match p with
 | (xs, u, v, nn0, _) => (nn0 = xs.length) ∧ True
noncomputable def wpD_R (p : List Mv × Int × Int × Nat × Unit) : Value × Outs := match p with
 | (xs, u, v, nn0, _) => (.tuple #[.agg #[.int .i64 (tW xs u v).1, .int .i64 (tW xs u v).2], .int .i64 (wX xs u v)], [])
theorem wpD_inj : ∀ p q, wpD_C p → wpD_C q → wpD_A p = wpD_A q → wpD_R p = wpD_R q := by
 rintro ⟨xs, u, v, nn0, _⟩ ⟨xs', u', v', nn0', _⟩ _ _ e
 simp only [wpD_A, List.cons.injEq, D.list.injEq, D.val.injEq, D.agg.injEq, Value.int.injEq, Value.bool.injEq, Value.string.injEq, Value.agg.injEq, Array.mk.injEq, and_true, true_and, gI_inj, gB_inj, gM_inj] at e
 simp_all
noncomputable def wpD_k : List D → Option (Value × Outs) := fnP wpD_A wpD_C wpD_R
theorem wpD_n (xs : List Mv) (u v : Int) (nn0 : Nat) (hn0 : nn0 = xs.length)  : KnownR Try.prog [] 13 [.list (rowA gM xs) nn0, .val (.int .i64 u), .val (.int .i64 v)] (.tuple #[.agg #[.int .i64 (tW xs u v).1, .int .i64 (tW xs u v).2], .int .i64 (wX xs u v)]) ([]) := by
 subst hn0; skip
 exact wpD _ _ _ 
theorem wpD_ok : ∀ ds v bs, wpD_k ds = some (v, bs) → KnownR Try.prog [] 13 ds v bs := fnP_ok (by
 rintro ⟨xs, u, v, nn0, _⟩ ⟨hn0, _⟩
 exact wpD_n _ _ _ _ hn0 )
theorem wpD_at (xs : List Mv) (u v : Int) (nn0 : Nat) (hn0 : nn0 = xs.length)  : wpD_k [.list (rowA gM xs) nn0, .val (.int .i64 u), .val (.int .i64 v)] = some (.tuple #[.agg #[.int .i64 (tW xs u v).1, .int .i64 (tW xs u v).2], .int .i64 (wX xs u v)], []) := fnP_at (p := (xs, u, v, nn0, ())) wpD_inj ⟨hn0, trivial⟩ rfl rfl
end Go.Proofs.Ytbhmgchkgbenmaa
