import Derived.Test.YtaogbagopdlkmaaPG
import Derived.ProofKit
import Derived.IntWalk
set_option linter.unnecessarySimpa false
set_option linter.unusedSimpArgs false
set_option linter.unusedVariables false
namespace Go.Proofs.Ytaogbagopdlkmaa
open Go Go.RowKit
set_option maxHeartbeats 8000000
set_option maxRecDepth 100000
attribute [local irreducible] ckX trN slN phA phB phC phF phE
theorem poD (m d t s c x : Int)  : KnownR Try.prog [] 16 [.val (.agg #[.int .i64 m, .int .i64 d, .int .i64 t, .int .i64 s, .int .i64 c]), .val (.int .i64 x)] (.tuple #[.agg #[.int .i64 (phA m d t s c x), .int .i64 (phB m d t s c x), .int .i64 (phC m d t s c x), .int .i64 (phF m d t s c x)], .int .i64 (phE m d t s c x)]) ([]) := pOf m d t s c x
noncomputable def poD_A (p : Int × Int × Int × Int × Int × Int × Unit) : List D := match p with
 | (m, d, t, s, c, x, _) => [.val (.agg #[.int .i64 m, .int .i64 d, .int .i64 t, .int .i64 s, .int .i64 c]), .val (.int .i64 x)]
noncomputable def poD_C (p : Int × Int × Int × Int × Int × Int × Unit) : Prop := match p with
 | (m, d, t, s, c, x, _) => True
noncomputable def poD_R (p : Int × Int × Int × Int × Int × Int × Unit) : Value × Outs := match p with
 | (m, d, t, s, c, x, _) => (.tuple #[.agg #[.int .i64 (phA m d t s c x), .int .i64 (phB m d t s c x), .int .i64 (phC m d t s c x), .int .i64 (phF m d t s c x)], .int .i64 (phE m d t s c x)], [])
theorem poD_inj : ∀ p q, poD_C p → poD_C q → poD_A p = poD_A q → poD_R p = poD_R q := by
 rintro ⟨m, d, t, s, c, x, _⟩ ⟨m', d', t', s', c', x', _⟩ _ _ e
 simp only [poD_A, List.cons.injEq, D.list.injEq, D.val.injEq, D.agg.injEq, Value.int.injEq, Value.bool.injEq, Value.string.injEq, Value.agg.injEq, Array.mk.injEq, and_true, true_and, gI_inj, gB_inj, gQ_inj] at e
 simp_all
noncomputable def poD_k : List D → Option (Value × Outs) := fnP poD_A poD_C poD_R
theorem poD_n (m d t s c x : Int)    : KnownR Try.prog [] 16 [.val (.agg #[.int .i64 m, .int .i64 d, .int .i64 t, .int .i64 s, .int .i64 c]), .val (.int .i64 x)] (.tuple #[.agg #[.int .i64 (phA m d t s c x), .int .i64 (phB m d t s c x), .int .i64 (phC m d t s c x), .int .i64 (phF m d t s c x)], .int .i64 (phE m d t s c x)]) ([]) := by
 skip
 exact poD _ _ _ _ _ _ 
theorem poD_ok : ∀ ds v bs, poD_k ds = some (v, bs) → KnownR Try.prog [] 16 ds v bs := fnP_ok (by
 rintro ⟨m, d, t, s, c, x, _⟩ _
 exact poD_n _ _ _ _ _ _  )
theorem poD_at (m d t s c x : Int)    : poD_k [.val (.agg #[.int .i64 m, .int .i64 d, .int .i64 t, .int .i64 s, .int .i64 c]), .val (.int .i64 x)] = some (.tuple #[.agg #[.int .i64 (phA m d t s c x), .int .i64 (phB m d t s c x), .int .i64 (phC m d t s c x), .int .i64 (phF m d t s c x)], .int .i64 (phE m d t s c x)], []) := fnP_at (p := (m, d, t, s, c, x, ())) poD_inj trivial rfl rfl
end Go.Proofs.Ytaogbagopdlkmaa
