/- Layer 9: Start and Stop. -/
import Derived.Test.YtaohbffjfedcgaaOgB0
import Derived.ProofKit
import Derived.IntWalk
namespace Go.Proofs.Ytaohbffjfedcgaa
open Go Go.RowKit
set_option linter.unusedVariables false
set_option linter.unusedSimpArgs false
set_option linter.unnecessarySimpa false
set_option maxHeartbeats 8000000
set_option maxRecDepth 100000
noncomputable def pSt_c0 (p g m : Int) : Int := (bif (ckM p g (0 : Int) m != (0 : Int)) then ((0 : Int)) else (p))
noncomputable def pSt_c1 (p g m : Int) : Int := (bif (ckM p g (0 : Int) m != (0 : Int)) then ((0 : Int)) else (g))
noncomputable def pSt_c3 (p g m : Int) : Int := (bif (ckM p g (0 : Int) m != (0 : Int)) then ((0 : Int)) else (m))
noncomputable def pSt_c4 (p g m : Int) : Int := (bif (ckM p g (0 : Int) m != (0 : Int)) then (ckM p g (0 : Int) m) else ((0 : Int)))
theorem pSt_p0 (p g m : Int)  (hq0 : (ckM p g (0 : Int) m != (0 : Int)) = true) : Known Try.prog [] 9 [.int .i64 p, .int .i64 g, .int .i64 m] (.tuple #[(.agg #[(.int .i64 ((0 : Int))), (.int .i64 ((0 : Int))), (.int .i64 ((0 : Int))), (.int .i64 ((0 : Int)))]), (.int .i64 (ckM p g (0 : Int) m))]) :=
  open_res mix tabB_ok (T := tabB) (fuel := 3000) (ans := [(1, .b 1)]) (log := [(ckM p g (0 : Int) m != (0 : Int)) = true]) (by kernel_rfl) ⟨hq0, trivial⟩ (by kernel_rfl)
theorem pSt_p1 (p g m : Int)  (hq0 : (ckM p g (0 : Int) m != (0 : Int)) = false) : Known Try.prog [] 9 [.int .i64 p, .int .i64 g, .int .i64 m] (.tuple #[(.agg #[(.int .i64 (p)), (.int .i64 (g)), (.int .i64 ((0 : Int))), (.int .i64 (m))]), (.int .i64 ((0 : Int)))]) :=
  open_res mix tabB_ok (T := tabB) (fuel := 3000) (ans := [(1, .b 0)]) (log := [(ckM p g (0 : Int) m != (0 : Int)) = false]) (by kernel_rfl) ⟨hq0, trivial⟩ (by kernel_rfl)
set_option maxHeartbeats 8000000 in
theorem pSt (p g m : Int)  : Known Try.prog [] 9 [.int .i64 p, .int .i64 g, .int .i64 m] (.tuple #[(.agg #[(.int .i64 (pSt_c0 p g m)), (.int .i64 (pSt_c1 p g m)), (.int .i64 ((0 : Int))), (.int .i64 (pSt_c3 p g m))]), (.int .i64 (pSt_c4 p g m))]) := by
  rcases Bool.eq_false_or_eq_true (ckM p g (0 : Int) m != (0 : Int)) with hq0 | hq0
  ·
    have e0 : pSt_c0 p g m = ((0 : Int)) := ((bif_t hq0 _ _).trans rfl); rw [e0]; have e1 : pSt_c1 p g m = ((0 : Int)) := ((bif_t hq0 _ _).trans rfl); rw [e1]; have e3 : pSt_c3 p g m = ((0 : Int)) := ((bif_t hq0 _ _).trans rfl); rw [e3]; have e4 : pSt_c4 p g m = (ckM p g (0 : Int) m) := ((bif_t hq0 _ _).trans rfl); rw [e4]; exact pSt_p0 p g m hq0
  ·
    have e0 : pSt_c0 p g m = (p) := ((bif_f hq0 _ _).trans rfl); rw [e0]; have e1 : pSt_c1 p g m = (g) := ((bif_f hq0 _ _).trans rfl); rw [e1]; have e3 : pSt_c3 p g m = (m) := ((bif_f hq0 _ _).trans rfl); rw [e3]; have e4 : pSt_c4 p g m = ((0 : Int)) := ((bif_f hq0 _ _).trans rfl); rw [e4]; exact pSt_p1 p g m hq0
noncomputable def pSt_k : List Value → Option Value
  | [.int .i64 p, .int .i64 g, .int .i64 m] => some (.tuple #[(.agg #[(.int .i64 (pSt_c0 p g m)), (.int .i64 (pSt_c1 p g m)), (.int .i64 ((0 : Int))), (.int .i64 (pSt_c3 p g m))]), (.int .i64 (pSt_c4 p g m))])
  | _ => none
theorem pSt_ok : ∀ args v, pSt_k args = some v → Known Try.prog [] 9 args v := by
  intro args v h
  unfold pSt_k at h
  split at h
  · injection h with h; subst h; exact pSt _ _ _
  · cases h

noncomputable def pHl_c0 (p g s m : Int) : Int := (bif (ckM p g s m != (0 : Int)) then ((0 : Int)) else (p))
noncomputable def pHl_c1 (p g s m : Int) : Int := (bif (ckM p g s m != (0 : Int)) then ((0 : Int)) else (p))
noncomputable def pHl_c3 (p g s m : Int) : Int := (bif (ckM p g s m != (0 : Int)) then ((0 : Int)) else (m))
noncomputable def pHl_c4 (p g s m : Int) : Int := (bif (ckM p g s m != (0 : Int)) then (ckM p g s m) else ((0 : Int)))
theorem pHl_p0 (p g s m : Int)  (hq0 : (ckM p g s m != (0 : Int)) = true) : Known Try.prog [] 25 [.agg #[.int .i64 p, .int .i64 g, .int .i64 s, .int .i64 m]] (.tuple #[(.agg #[(.int .i64 ((0 : Int))), (.int .i64 ((0 : Int))), (.int .i64 ((0 : Int))), (.int .i64 ((0 : Int)))]), (.int .i64 (ckM p g s m))]) :=
  open_res mix tabB_ok (T := tabB) (fuel := 3000) (ans := [(1, .b 1)]) (log := [(ckM p g s m != (0 : Int)) = true]) (by kernel_rfl) ⟨hq0, trivial⟩ (by kernel_rfl)
theorem pHl_p1 (p g s m : Int)  (hq0 : (ckM p g s m != (0 : Int)) = false) : Known Try.prog [] 25 [.agg #[.int .i64 p, .int .i64 g, .int .i64 s, .int .i64 m]] (.tuple #[(.agg #[(.int .i64 (p)), (.int .i64 (p)), (.int .i64 ((0 : Int))), (.int .i64 (m))]), (.int .i64 ((0 : Int)))]) :=
  open_res mix tabB_ok (T := tabB) (fuel := 3000) (ans := [(1, .b 0)]) (log := [(ckM p g s m != (0 : Int)) = false]) (by kernel_rfl) ⟨hq0, trivial⟩ (by kernel_rfl)
set_option maxHeartbeats 8000000 in
theorem pHl (p g s m : Int)  : Known Try.prog [] 25 [.agg #[.int .i64 p, .int .i64 g, .int .i64 s, .int .i64 m]] (.tuple #[(.agg #[(.int .i64 (pHl_c0 p g s m)), (.int .i64 (pHl_c1 p g s m)), (.int .i64 ((0 : Int))), (.int .i64 (pHl_c3 p g s m))]), (.int .i64 (pHl_c4 p g s m))]) := by
  rcases Bool.eq_false_or_eq_true (ckM p g s m != (0 : Int)) with hq0 | hq0
  ·
    have e0 : pHl_c0 p g s m = ((0 : Int)) := ((bif_t hq0 _ _).trans rfl); rw [e0]; have e1 : pHl_c1 p g s m = ((0 : Int)) := ((bif_t hq0 _ _).trans rfl); rw [e1]; have e3 : pHl_c3 p g s m = ((0 : Int)) := ((bif_t hq0 _ _).trans rfl); rw [e3]; have e4 : pHl_c4 p g s m = (ckM p g s m) := ((bif_t hq0 _ _).trans rfl); rw [e4]; exact pHl_p0 p g s m hq0
  ·
    have e0 : pHl_c0 p g s m = (p) := ((bif_f hq0 _ _).trans rfl); rw [e0]; have e1 : pHl_c1 p g s m = (p) := ((bif_f hq0 _ _).trans rfl); rw [e1]; have e3 : pHl_c3 p g s m = (m) := ((bif_f hq0 _ _).trans rfl); rw [e3]; have e4 : pHl_c4 p g s m = ((0 : Int)) := ((bif_f hq0 _ _).trans rfl); rw [e4]; exact pHl_p1 p g s m hq0
noncomputable def pHl_k : List Value → Option Value
  | [.agg ⟨[.int .i64 p, .int .i64 g, .int .i64 s, .int .i64 m]⟩] => some (.tuple #[(.agg #[(.int .i64 (pHl_c0 p g s m)), (.int .i64 (pHl_c1 p g s m)), (.int .i64 ((0 : Int))), (.int .i64 (pHl_c3 p g s m))]), (.int .i64 (pHl_c4 p g s m))])
  | _ => none
theorem pHl_ok : ∀ args v, pHl_k args = some v → Known Try.prog [] 25 args v := by
  intro args v h
  unfold pHl_k at h
  split at h
  · injection h with h; subst h; exact pHl _ _ _ _
  · cases h

end Go.Proofs.Ytaohbffjfedcgaa
