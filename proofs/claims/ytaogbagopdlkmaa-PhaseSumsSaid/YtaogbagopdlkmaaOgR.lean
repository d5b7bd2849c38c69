import Derived.Test.YtaogbagopdlkmaaPJ
import Derived.Test.YtaogbagopdlkmaaPI
import Derived.Test.YtaogbagopdlkmaaPH
import Derived.Test.YtaogbagopdlkmaaKnPhaseKnown
import Derived.Test.YtaogbagopdlkmaaFrL
import Derived.ProofKit
import Derived.IntWalk
set_option linter.unnecessarySimpa false
set_option linter.unusedSimpArgs false
set_option linter.unusedVariables false
namespace Go.Proofs.Ytaogbagopdlkmaa
open Go Go.RowKit
set_option maxHeartbeats 8000000
set_option maxRecDepth 100000
attribute [local irreducible] ckX trN slN mM mD mT mS mC mN mK
theorem mdD (n : Int)  : KnownR Try.prog [] 35 [.val (.int .i64 n)] (.tuple #[.agg #[.int .i64 (mM n), .int .i64 (mD n), .int .i64 (mT n), .int .i64 (mS n), .int .i64 (mC n)], .int .i64 (mN n), .int .i64 (mK n)]) ([]) := made_is n
noncomputable def mdD_A (p : Int × Unit) : List D := match p with
 | (n, _) => [.val (.int .i64 n)]
noncomputable def mdD_C (p : Int × Unit) : Prop := match p with
 | (n, _) => True
noncomputable def mdD_R (p : Int × Unit) : Value × Outs := match p with
 | (n, _) => (.tuple #[.agg #[.int .i64 (mM n), .int .i64 (mD n), .int .i64 (mT n), .int .i64 (mS n), .int .i64 (mC n)], .int .i64 (mN n), .int .i64 (mK n)], [])
theorem mdD_inj : ∀ p q, mdD_C p → mdD_C q → mdD_A p = mdD_A q → mdD_R p = mdD_R q := by
 rintro ⟨n, _⟩ ⟨n', _⟩ _ _ e
 simp only [mdD_A, List.cons.injEq, D.list.injEq, D.val.injEq, D.agg.injEq, Value.int.injEq, Value.bool.injEq, Value.string.injEq, Value.agg.injEq, Array.mk.injEq, and_true, true_and, gI_inj, gB_inj, gI_inj] at e
 simp_all
noncomputable def mdD_k : List D → Option (Value × Outs) := fnP mdD_A mdD_C mdD_R
theorem mdD_n (n : Int)    : KnownR Try.prog [] 35 [.val (.int .i64 n)] (.tuple #[.agg #[.int .i64 (mM n), .int .i64 (mD n), .int .i64 (mT n), .int .i64 (mS n), .int .i64 (mC n)], .int .i64 (mN n), .int .i64 (mK n)]) ([]) := by
 skip
 exact mdD _ 
theorem mdD_ok : ∀ ds v bs, mdD_k ds = some (v, bs) → KnownR Try.prog [] 35 ds v bs := fnP_ok (by
 rintro ⟨n, _⟩ _
 exact mdD_n _  )
theorem mdD_at (n : Int)    : mdD_k [.val (.int .i64 n)] = some (.tuple #[.agg #[.int .i64 (mM n), .int .i64 (mD n), .int .i64 (mT n), .int .i64 (mS n), .int .i64 (mC n)], .int .i64 (mN n), .int .i64 (mK n)], []) := fnP_at (p := (n, ())) mdD_inj trivial rfl rfl
end Go.Proofs.Ytaogbagopdlkmaa
