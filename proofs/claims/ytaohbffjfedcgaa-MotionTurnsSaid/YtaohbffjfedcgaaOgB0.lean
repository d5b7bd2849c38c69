/- Layer 9: the checks. -/
import Derived.Test.YtaohbffjfedcgaaMa
import Derived.ProofKit
import Derived.IntWalk
namespace Go.Proofs.Ytaohbffjfedcgaa
open Go Go.RowKit
set_option linter.unusedVariables false
set_option linter.unusedSimpArgs false
set_option linter.unnecessarySimpa false
set_option maxHeartbeats 8000000
set_option maxRecDepth 100000
theorem qChk (p g s m : Int) : Known Try.prog [] 11 [.agg #[.int .i64 p, .int .i64 g, .int .i64 s, .int .i64 m]] (.int .i64 (ckM p g s m)) := by have k := pChk p g s m; rw [pChk_is] at k; exact k
noncomputable def qChk_k : List Value → Option Value
  | [.agg ⟨[.int .i64 p, .int .i64 g, .int .i64 s, .int .i64 m]⟩] => some (.int .i64 (ckM p g s m))
  | _ => none
theorem qChk_ok : ∀ args v, qChk_k args = some v → Known Try.prog [] 11 args v := by
  intro args v h
  unfold qChk_k at h
  split at h
  · injection h with h; subst h; exact qChk _ _ _ _
  · cases h
theorem qRchk (p g s m : Int) : Known Try.prog [] 12 [.agg #[.int .i64 p, .int .i64 g, .int .i64 s, .int .i64 m]] (.int .i64 (ckM p g s m)) := by have k := rChk p g s m; rw [rChk_is] at k; exact k
noncomputable def qRchk_k : List Value → Option Value
  | [.agg ⟨[.int .i64 p, .int .i64 g, .int .i64 s, .int .i64 m]⟩] => some (.int .i64 (ckM p g s m))
  | _ => none
theorem qRchk_ok : ∀ args v, qRchk_k args = some v → Known Try.prog [] 12 args v := by
  intro args v h
  unfold qRchk_k at h
  split at h
  · injection h with h; subst h; exact qRchk _ _ _ _
  · cases h
noncomputable def tabB : GTab := (GTab.fn1 11 qChk_k (GTab.fn1 12 qRchk_k tabA))
theorem tabB_ok : GOk Try.prog [] tabB := (GOk.fn1 qChk_ok (GOk.fn1 qRchk_ok tabA_ok))
end Go.Proofs.Ytaohbffjfedcgaa
