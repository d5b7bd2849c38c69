/- Layer 9: MotionStops. -/
import Derived.Test.YtaohbffjfedcgaaMf
import Derived.ProofKit
import Derived.IntWalk
namespace Go.Proofs.Ytaohbffjfedcgaa
open Go Go.RowKit
set_option linter.unusedVariables false
set_option linter.unusedSimpArgs false
set_option linter.unnecessarySimpa false
/-- the nearest place to rest -/
def nrV (p g s : Int) : Int := if g < p then p - rT (s - 1) else p + rT (s - 1)
theorem near_ok {p g s m : Int} (h : ckM p g s m = 0) : Known Try.prog [] 19 [.agg #[.int .i64 p, .int .i64 g, .int .i64 s, .int .i64 m]] (.tuple #[.int .i64 (nrV p g s), .int .i64 0]) := by
  have k := pNear_is p g s m
  unfold nrW at k
  rw [if_pos h, h] at k
  exact k
theorem stop_ok {p g s m : Int} (h : ckM p g s m = 0) : Known Try.prog [] 25 [.agg #[.int .i64 p, .int .i64 g, .int .i64 s, .int .i64 m]] (.tuple #[.agg #[.int .i64 p, .int .i64 p, .int .i64 0, .int .i64 m], .int .i64 0]) := by
  have k := pHl p g s m
  have e : pHl_c0 p g s m = p ∧ pHl_c1 p g s m = p ∧ pHl_c3 p g s m = m ∧ pHl_c4 p g s m = 0 := by
    unfold pHl_c0 pHl_c1 pHl_c3 pHl_c4
    rw [show (ckM p g s m != 0) = false by simp [h]]
    exact ⟨rfl, rfl, rfl, rfl⟩
  rw [e.1, e.2.1, e.2.2.1, e.2.2.2] at k
  exact k
/-- a goal to which the car may turn -/
def TurnOk (p g s m q : Int) : Prop := ckM p g s m = 0 ∧ 0 ≤ q ∧ q ≤ 63000 ∧ (s ≤ 0 ∨ (g < p ∧ q ≤ nrV p g s) ∨ (p ≤ g ∧ nrV p g s ≤ q))
theorem turn_ok {p g s m q : Int} (h : TurnOk p g s m q) : Known Try.prog [] 27 [.agg #[.int .i64 p, .int .i64 g, .int .i64 s, .int .i64 m], .int .i64 q] (.tuple #[.agg #[.int .i64 p, .int .i64 q, .int .i64 (if q = p then 0 else s), .int .i64 m], .int .i64 0]) := by
  obtain ⟨h1, h2, h3, h4⟩ := h
  have hv := ckM_ok.1 h1
  have hb := vM_b hv
  have tb := rT_b1 (s := s) (by omega) (by omega)
  have k := pTn p g s m q
  have en : nrW p g s m = nrV p g s := by unfold nrW nrV; rw [if_pos h1]
  have nb : -300 ≤ nrV p g s ∧ nrV p g s ≤ 63300 := by unfold nrV; split <;> omega
  have e : pTn_c0 p g s m q = p ∧ pTn_c1 p g s m q = q ∧ pTn_c2 p g s m q = (if q = p then 0 else s) ∧ pTn_c3 p g s m q = m ∧ pTn_c4 p g s m q = 0 := by
    unfold pTn_c0 pTn_c1 pTn_c2 pTn_c3 pTn_c4
    rw [show (ckM p g s m != 0) = false by simp [h1], en, decide_eq_true (show q ≥ 0 by omega), decide_eq_true h3]
    simp only [cond_false, cond_true, Bool.not_true]
    rw [w8 (v := q - nrV p g s) (by omega), w8 (v := -1 * (q - nrV p g s)) (by omega), w8 (v := 1 * (q - nrV p g s)) (by omega)]
    generalize nrV p g s = x at *
    refine ⟨?_, ?_, ?_, ?_, ?_⟩
    all_goals repeat' (refine cond_split ?_ ?_ <;> intro)
    all_goals simp only [decide_eq_true_eq, decide_eq_false_iff_not, Bool.not_eq_true', Bool.not_eq_false', beq_iff_eq, beq_eq_false_iff_ne, ne_eq] at *
    all_goals omega
  rw [e.1, e.2.1, e.2.2.1, e.2.2.2.1, e.2.2.2.2] at k
  exact k
theorem kNr (p g s m : Int) (hg : (decide (ckM p g s m = 0)) = true) : Known Try.prog [] 19 [.agg #[.int .i64 p, .int .i64 g, .int .i64 s, .int .i64 m]] (.tuple #[.int .i64 (nrV p g s), .int .i64 0]) := near_ok (of_decide_eq_true hg)
noncomputable def kNr_k : List Value → Option (Bool × Value)
  | [.agg ⟨[.int .i64 p, .int .i64 g, .int .i64 s, .int .i64 m]⟩] => some (decide (ckM p g s m = 0), .tuple #[.int .i64 (nrV p g s), .int .i64 0])
  | _ => none
theorem kNr_ok : ∀ args v, kNr_k args = some (true, v) → Known Try.prog [] 19 args v := by
  intro args v h
  unfold kNr_k at h
  split at h
  · injection h with h; injection h with hg h; subst h; exact kNr _ _ _ _ hg
  · cases h
theorem kHl (p g s m : Int) (hg : (decide (ckM p g s m = 0)) = true) : Known Try.prog [] 25 [.agg #[.int .i64 p, .int .i64 g, .int .i64 s, .int .i64 m]] (.tuple #[.agg #[.int .i64 p, .int .i64 p, .int .i64 0, .int .i64 m], .int .i64 0]) := stop_ok (of_decide_eq_true hg)
noncomputable def kHl_k : List Value → Option (Bool × Value)
  | [.agg ⟨[.int .i64 p, .int .i64 g, .int .i64 s, .int .i64 m]⟩] => some (decide (ckM p g s m = 0), .tuple #[.agg #[.int .i64 p, .int .i64 p, .int .i64 0, .int .i64 m], .int .i64 0])
  | _ => none
theorem kHl_ok : ∀ args v, kHl_k args = some (true, v) → Known Try.prog [] 25 args v := by
  intro args v h
  unfold kHl_k at h
  split at h
  · injection h with h; injection h with hg h; subst h; exact kHl _ _ _ _ hg
  · cases h
noncomputable def turnB (p g s m q : Int) : Bool := Classical.choose (⟨@decide (TurnOk p g s m q) (Classical.propDecidable _), rfl⟩ : ∃ b : Bool, b = @decide (TurnOk p g s m q) (Classical.propDecidable _))
theorem turnB_is {p g s m q : Int} : turnB p g s m q = true ↔ TurnOk p g s m q := by
  have := Classical.choose_spec (⟨@decide (TurnOk p g s m q) (Classical.propDecidable _), rfl⟩ : ∃ b : Bool, b = @decide (TurnOk p g s m q) (Classical.propDecidable _))
  unfold turnB; rw [this]; exact @decide_eq_true_iff (TurnOk p g s m q) (Classical.propDecidable _)
theorem kTn (p g s m q : Int) (hg : (turnB p g s m q) = true) : Known Try.prog [] 27 [.agg #[.int .i64 p, .int .i64 g, .int .i64 s, .int .i64 m], .int .i64 q] (.tuple #[.agg #[.int .i64 p, .int .i64 q, .int .i64 (if q = p then 0 else s), .int .i64 m], .int .i64 0]) := turn_ok (turnB_is.1 hg)
noncomputable def kTn_k : List Value → Option (Bool × Value)
  | [.agg ⟨[.int .i64 p, .int .i64 g, .int .i64 s, .int .i64 m]⟩, .int .i64 q] => some (turnB p g s m q, .tuple #[.agg #[.int .i64 p, .int .i64 q, .int .i64 (if q = p then 0 else s), .int .i64 m], .int .i64 0])
  | _ => none
theorem kTn_ok : ∀ args v, kTn_k args = some (true, v) → Known Try.prog [] 27 args v := by
  intro args v h
  unfold kTn_k at h
  split at h
  · injection h with h; injection h with hg h; subst h; exact kTn _ _ _ _ _ hg
  · cases h
end Go.Proofs.Ytaohbffjfedcgaa
