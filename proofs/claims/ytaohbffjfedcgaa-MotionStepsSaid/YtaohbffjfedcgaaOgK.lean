/- Layer 9: MotionSteps. -/
import Derived.Test.YtaohbffjfedcgaaMr
import Derived.Test.YtaohbffjfedcgaaKnMotionKnown
import Derived.ProofKit
import Derived.IntWalk
namespace Go.Proofs.Ytaohbffjfedcgaa
open Go Go.RowKit
set_option linter.unusedVariables false
set_option linter.unusedSimpArgs false
set_option linter.unnecessarySimpa false
set_option maxHeartbeats 8000000
set_option maxRecDepth 100000
theorem aSt (p g m : Int) : Known Try.prog [] 9 [.int .i64 p, .int .i64 g, .int .i64 m] (.tuple #[.agg #[.int .i64 (pSt_c0 p g m), .int .i64 (pSt_c1 p g m), .int .i64 0, .int .i64 (pSt_c3 p g m)], .int .i64 (pSt_c4 p g m)]) := pSt p g m
noncomputable def aSt_k : List Value → Option Value
  | [.int .i64 p, .int .i64 g, .int .i64 m] => some (.tuple #[.agg #[.int .i64 (pSt_c0 p g m), .int .i64 (pSt_c1 p g m), .int .i64 0, .int .i64 (pSt_c3 p g m)], .int .i64 (pSt_c4 p g m)])
  | _ => none
theorem aSt_ok : ∀ args v, aSt_k args = some v → Known Try.prog [] 9 args v := by
  intro args v h
  unfold aSt_k at h
  split at h
  · injection h with h; subst h; exact aSt _ _ _
  · cases h
theorem bSt (p g m : Int) : Known Try.prog [] 10 [.int .i64 p, .int .i64 g, .int .i64 m] (.tuple #[.agg #[.int .i64 (pSt_c0 p g m), .int .i64 (pSt_c1 p g m), .int .i64 0, .int .i64 (pSt_c3 p g m)], .int .i64 (pSt_c4 p g m)]) := rStart_is p g m
noncomputable def bSt_k : List Value → Option Value
  | [.int .i64 p, .int .i64 g, .int .i64 m] => some (.tuple #[.agg #[.int .i64 (pSt_c0 p g m), .int .i64 (pSt_c1 p g m), .int .i64 0, .int .i64 (pSt_c3 p g m)], .int .i64 (pSt_c4 p g m)])
  | _ => none
theorem bSt_ok : ∀ args v, bSt_k args = some v → Known Try.prog [] 10 args v := by
  intro args v h
  unfold bSt_k at h
  split at h
  · injection h with h; subst h; exact bSt _ _ _
  · cases h
theorem aSp (p g s m : Int) : Known Try.prog [] 13 [.agg #[.int .i64 p, .int .i64 g, .int .i64 s, .int .i64 m]] (.tuple #[.agg #[.int .i64 (rSp_c0 p g s m), .int .i64 (rSp_c1 p g s m), .int .i64 (rSp_c2 p g s m), .int .i64 (rSp_c3 p g s m)], .int .i64 (rSp_c4 p g s m)]) := pStep_is p g s m
noncomputable def aSp_k : List Value → Option Value
  | [.agg ⟨[.int .i64 p, .int .i64 g, .int .i64 s, .int .i64 m]⟩] => some (.tuple #[.agg #[.int .i64 (rSp_c0 p g s m), .int .i64 (rSp_c1 p g s m), .int .i64 (rSp_c2 p g s m), .int .i64 (rSp_c3 p g s m)], .int .i64 (rSp_c4 p g s m)])
  | _ => none
theorem aSp_ok : ∀ args v, aSp_k args = some v → Known Try.prog [] 13 args v := by
  intro args v h
  unfold aSp_k at h
  split at h
  · injection h with h; subst h; exact aSp _ _ _ _
  · cases h
theorem bSp (p g s m : Int) : Known Try.prog [] 14 [.agg #[.int .i64 p, .int .i64 g, .int .i64 s, .int .i64 m]] (.tuple #[.agg #[.int .i64 (rSp_c0 p g s m), .int .i64 (rSp_c1 p g s m), .int .i64 (rSp_c2 p g s m), .int .i64 (rSp_c3 p g s m)], .int .i64 (rSp_c4 p g s m)]) := rSp p g s m
noncomputable def bSp_k : List Value → Option Value
  | [.agg ⟨[.int .i64 p, .int .i64 g, .int .i64 s, .int .i64 m]⟩] => some (.tuple #[.agg #[.int .i64 (rSp_c0 p g s m), .int .i64 (rSp_c1 p g s m), .int .i64 (rSp_c2 p g s m), .int .i64 (rSp_c3 p g s m)], .int .i64 (rSp_c4 p g s m)])
  | _ => none
theorem bSp_ok : ∀ args v, bSp_k args = some v → Known Try.prog [] 14 args v := by
  intro args v h
  unfold bSp_k at h
  split at h
  · injection h with h; subst h; exact bSp _ _ _ _
  · cases h
theorem aRn (p g s m n : Int) : Known Try.prog [] 15 [.agg #[.int .i64 p, .int .i64 g, .int .i64 s, .int .i64 m], .int .i64 n] (.tuple #[.agg #[.int .i64 (rnP p g s m n), .int .i64 (rnG p g s m n), .int .i64 (rnS p g s m n), .int .i64 (rnM p g s m n)], .int .i64 (rnE p g s m n)]) := pRun_is p g s m n
noncomputable def aRn_k : List Value → Option Value
  | [.agg ⟨[.int .i64 p, .int .i64 g, .int .i64 s, .int .i64 m]⟩, .int .i64 n] => some (.tuple #[.agg #[.int .i64 (rnP p g s m n), .int .i64 (rnG p g s m n), .int .i64 (rnS p g s m n), .int .i64 (rnM p g s m n)], .int .i64 (rnE p g s m n)])
  | _ => none
theorem aRn_ok : ∀ args v, aRn_k args = some v → Known Try.prog [] 15 args v := by
  intro args v h
  unfold aRn_k at h
  split at h
  · injection h with h; subst h; exact aRn _ _ _ _ _
  · cases h
theorem bRn (p g s m n : Int) : Known Try.prog [] 16 [.agg #[.int .i64 p, .int .i64 g, .int .i64 s, .int .i64 m], .int .i64 n] (.tuple #[.agg #[.int .i64 (rnP p g s m n), .int .i64 (rnG p g s m n), .int .i64 (rnS p g s m n), .int .i64 (rnM p g s m n)], .int .i64 (rnE p g s m n)]) := rRun_is p g s m n
noncomputable def bRn_k : List Value → Option Value
  | [.agg ⟨[.int .i64 p, .int .i64 g, .int .i64 s, .int .i64 m]⟩, .int .i64 n] => some (.tuple #[.agg #[.int .i64 (rnP p g s m n), .int .i64 (rnG p g s m n), .int .i64 (rnS p g s m n), .int .i64 (rnM p g s m n)], .int .i64 (rnE p g s m n)])
  | _ => none
theorem bRn_ok : ∀ args v, bRn_k args = some v → Known Try.prog [] 16 args v := by
  intro args v h
  unfold bRn_k at h
  split at h
  · injection h with h; subst h; exact bRn _ _ _ _ _
  · cases h
theorem aLf (p g s m : Int) : Known Try.prog [] 17 [.agg #[.int .i64 p, .int .i64 g, .int .i64 s, .int .i64 m]] (.tuple #[.int .i64 (lfW p g s m), .int .i64 (ckM p g s m)]) := pLeft_is p g s m
noncomputable def aLf_k : List Value → Option Value
  | [.agg ⟨[.int .i64 p, .int .i64 g, .int .i64 s, .int .i64 m]⟩] => some (.tuple #[.int .i64 (lfW p g s m), .int .i64 (ckM p g s m)])
  | _ => none
theorem aLf_ok : ∀ args v, aLf_k args = some v → Known Try.prog [] 17 args v := by
  intro args v h
  unfold aLf_k at h
  split at h
  · injection h with h; subst h; exact aLf _ _ _ _
  · cases h
theorem bLf (p g s m : Int) : Known Try.prog [] 18 [.agg #[.int .i64 p, .int .i64 g, .int .i64 s, .int .i64 m]] (.tuple #[.int .i64 (lfW p g s m), .int .i64 (ckM p g s m)]) := rLeft_is p g s m
noncomputable def bLf_k : List Value → Option Value
  | [.agg ⟨[.int .i64 p, .int .i64 g, .int .i64 s, .int .i64 m]⟩] => some (.tuple #[.int .i64 (lfW p g s m), .int .i64 (ckM p g s m)])
  | _ => none
theorem bLf_ok : ∀ args v, bLf_k args = some v → Known Try.prog [] 18 args v := by
  intro args v h
  unfold bLf_k at h
  split at h
  · injection h with h; subst h; exact bLf _ _ _ _
  · cases h
theorem aNr (p g s m : Int) : Known Try.prog [] 19 [.agg #[.int .i64 p, .int .i64 g, .int .i64 s, .int .i64 m]] (.tuple #[.int .i64 (nrW p g s m), .int .i64 (ckM p g s m)]) := pNear_is p g s m
noncomputable def aNr_k : List Value → Option Value
  | [.agg ⟨[.int .i64 p, .int .i64 g, .int .i64 s, .int .i64 m]⟩] => some (.tuple #[.int .i64 (nrW p g s m), .int .i64 (ckM p g s m)])
  | _ => none
theorem aNr_ok : ∀ args v, aNr_k args = some v → Known Try.prog [] 19 args v := by
  intro args v h
  unfold aNr_k at h
  split at h
  · injection h with h; subst h; exact aNr _ _ _ _
  · cases h
theorem bNr (p g s m : Int) : Known Try.prog [] 20 [.agg #[.int .i64 p, .int .i64 g, .int .i64 s, .int .i64 m]] (.tuple #[.int .i64 (nrW p g s m), .int .i64 (ckM p g s m)]) := rNear_is p g s m
noncomputable def bNr_k : List Value → Option Value
  | [.agg ⟨[.int .i64 p, .int .i64 g, .int .i64 s, .int .i64 m]⟩] => some (.tuple #[.int .i64 (nrW p g s m), .int .i64 (ckM p g s m)])
  | _ => none
theorem bNr_ok : ∀ args v, bNr_k args = some v → Known Try.prog [] 20 args v := by
  intro args v h
  unfold bNr_k at h
  split at h
  · injection h with h; subst h; exact bNr _ _ _ _
  · cases h
noncomputable def tabS : GTab := (GTab.fn1 9 aSt_k (GTab.fn1 10 bSt_k (GTab.fn1 13 aSp_k (GTab.fn1 14 bSp_k (GTab.fn1 15 aRn_k (GTab.fn1 16 bRn_k (GTab.fn1 17 aLf_k (GTab.fn1 18 bLf_k (GTab.fn1 19 aNr_k (GTab.fn1 20 bNr_k (GTab.fn1 11 qChk_k (GTab.fn1 12 qRchk_k (GTab.fn1 21 (fun l => match l with | [] => some (.bool true) | _ => none) GTab.none)))))))))))))
theorem tabS_ok : GOk Try.prog [] tabS := (GOk.fn1 aSt_ok (GOk.fn1 bSt_ok (GOk.fn1 aSp_ok (GOk.fn1 bSp_ok (GOk.fn1 aRn_ok (GOk.fn1 bRn_ok (GOk.fn1 aLf_ok (GOk.fn1 bLf_ok (GOk.fn1 aNr_ok (GOk.fn1 bNr_ok (GOk.fn1 qChk_ok (GOk.fn1 qRchk_ok (GOk.fn1 (known0 knMotionKnown_e0) GOk.none)))))))))))))
noncomputable def lawM_b0 (p g s m n goal : Int) : Bool := !(pSt_c0 n goal m == pSt_c0 n goal m && (pSt_c1 n goal m == pSt_c1 n goal m && (true && pSt_c3 n goal m == pSt_c3 n goal m)))
noncomputable def lawM_b3 (p g s m n goal : Int) : Bool := !(rSp_c0 p g s m == rSp_c0 p g s m && (rSp_c1 p g s m == rSp_c1 p g s m && (rSp_c2 p g s m == rSp_c2 p g s m && rSp_c3 p g s m == rSp_c3 p g s m)))
noncomputable def lawM_b5 (p g s m n goal : Int) : Bool := !(rnP p g s m n == rnP p g s m n && (rnG p g s m n == rnG p g s m n && (rnS p g s m n == rnS p g s m n && rnM p g s m n == rnM p g s m n)))
theorem lawM_p0 (p g s m n goal : Int)  (hq0 : (lawM_b0 p g s m n goal) = false) (hq1 : (pSt_c4 n goal m != pSt_c4 n goal m) = false) (hq2 : (ckM p g s m != ckM p g s m) = false) (hq3 : (lawM_b3 p g s m n goal) = false) (hq4 : (rSp_c4 p g s m != rSp_c4 p g s m) = false) (hq5 : (lawM_b5 p g s m n goal) = false) (hq6 : (rnE p g s m n != rnE p g s m n) = false) (hq7 : (lfW p g s m == lfW p g s m) = true) (hq8 : (ckM p g s m == ckM p g s m) = true) (hq9 : (nrW p g s m == nrW p g s m) = true) : Known Try.prog [] 3 [.agg #[.int .i64 p, .int .i64 g, .int .i64 s, .int .i64 m], .int .i64 n, .int .i64 goal] (.bool (true)) :=
  open_res mix tabS_ok (T := tabS) (fuel := 3000) (ans := [(2, .b 0), (6, .b 0), (14, .b 0), (17, .b 0), (21, .b 0), (24, .b 0), (28, .b 0), (33, .b 1), (37, .b 1), (41, .b 1), (45, .b 1)]) (log := [(ckM p g s m == ckM p g s m) = true, (nrW p g s m == nrW p g s m) = true, (ckM p g s m == ckM p g s m) = true, (lfW p g s m == lfW p g s m) = true, (rnE p g s m n != rnE p g s m n) = false, (lawM_b5 p g s m n goal) = false, (rSp_c4 p g s m != rSp_c4 p g s m) = false, (lawM_b3 p g s m n goal) = false, (ckM p g s m != ckM p g s m) = false, (pSt_c4 n goal m != pSt_c4 n goal m) = false, (lawM_b0 p g s m n goal) = false]) (by kernel_rfl) ⟨hq8, hq9, hq8, hq7, hq6, hq5, hq4, hq3, hq2, hq1, hq0, trivial⟩ (by kernel_rfl)
set_option maxHeartbeats 8000000 in
theorem lawM (p g s m n goal : Int)  : Known Try.prog [] 3 [.agg #[.int .i64 p, .int .i64 g, .int .i64 s, .int .i64 m], .int .i64 n, .int .i64 goal] (.bool (true)) := by
  have hq0 : (lawM_b0 p g s m n goal) = false := by
    rcases Bool.eq_false_or_eq_true (lawM_b0 p g s m n goal) with h | h
    · exfalso; (try simp only [lawM_b0, lawM_b3, lawM_b5] at *); (first | (simp_all only [Bool.and_eq_true, Bool.not_eq_true', Bool.false_eq_true, Bool.true_eq_false, reduceCtorEq]; done) | (simp only [sx, sy, eq_self, ne_eq, IntKind.wrap_i64, wrapU64, Int.reduceLT] at * <;> first | contradiction | omega) | (simp_all; done))
    · exact h
  have hq1 : (pSt_c4 n goal m != pSt_c4 n goal m) = false := by
    rcases Bool.eq_false_or_eq_true (pSt_c4 n goal m != pSt_c4 n goal m) with h | h
    · exfalso; (try simp only [lawM_b0, lawM_b3, lawM_b5] at *); (first | (simp_all only [Bool.and_eq_true, Bool.not_eq_true', Bool.false_eq_true, Bool.true_eq_false, reduceCtorEq]; done) | (simp only [sx, sy, eq_self, ne_eq, IntKind.wrap_i64, wrapU64, Int.reduceLT] at * <;> first | contradiction | omega) | (simp_all; done))
    · exact h
  have hq2 : (ckM p g s m != ckM p g s m) = false := by
    rcases Bool.eq_false_or_eq_true (ckM p g s m != ckM p g s m) with h | h
    · exfalso; (try simp only [lawM_b0, lawM_b3, lawM_b5] at *); (first | (simp_all only [Bool.and_eq_true, Bool.not_eq_true', Bool.false_eq_true, Bool.true_eq_false, reduceCtorEq]; done) | (simp only [sx, sy, eq_self, ne_eq, IntKind.wrap_i64, wrapU64, Int.reduceLT] at * <;> first | contradiction | omega) | (simp_all; done))
    · exact h
  have hq3 : (lawM_b3 p g s m n goal) = false := by
    rcases Bool.eq_false_or_eq_true (lawM_b3 p g s m n goal) with h | h
    · exfalso; (try simp only [lawM_b0, lawM_b3, lawM_b5] at *); (first | (simp_all only [Bool.and_eq_true, Bool.not_eq_true', Bool.false_eq_true, Bool.true_eq_false, reduceCtorEq]; done) | (simp only [sx, sy, eq_self, ne_eq, IntKind.wrap_i64, wrapU64, Int.reduceLT] at * <;> first | contradiction | omega) | (simp_all; done))
    · exact h
  have hq4 : (rSp_c4 p g s m != rSp_c4 p g s m) = false := by
    rcases Bool.eq_false_or_eq_true (rSp_c4 p g s m != rSp_c4 p g s m) with h | h
    · exfalso; (try simp only [lawM_b0, lawM_b3, lawM_b5] at *); (first | (simp_all only [Bool.and_eq_true, Bool.not_eq_true', Bool.false_eq_true, Bool.true_eq_false, reduceCtorEq]; done) | (simp only [sx, sy, eq_self, ne_eq, IntKind.wrap_i64, wrapU64, Int.reduceLT] at * <;> first | contradiction | omega) | (simp_all; done))
    · exact h
  have hq5 : (lawM_b5 p g s m n goal) = false := by
    rcases Bool.eq_false_or_eq_true (lawM_b5 p g s m n goal) with h | h
    · exfalso; (try simp only [lawM_b0, lawM_b3, lawM_b5] at *); (first | (simp_all only [Bool.and_eq_true, Bool.not_eq_true', Bool.false_eq_true, Bool.true_eq_false, reduceCtorEq]; done) | (simp only [sx, sy, eq_self, ne_eq, IntKind.wrap_i64, wrapU64, Int.reduceLT] at * <;> first | contradiction | omega) | (simp_all; done))
    · exact h
  have hq6 : (rnE p g s m n != rnE p g s m n) = false := by
    rcases Bool.eq_false_or_eq_true (rnE p g s m n != rnE p g s m n) with h | h
    · exfalso; (try simp only [lawM_b0, lawM_b3, lawM_b5] at *); (first | (simp_all only [Bool.and_eq_true, Bool.not_eq_true', Bool.false_eq_true, Bool.true_eq_false, reduceCtorEq]; done) | (simp only [sx, sy, eq_self, ne_eq, IntKind.wrap_i64, wrapU64, Int.reduceLT] at * <;> first | contradiction | omega) | (simp_all; done))
    · exact h
  have hq7 : (lfW p g s m == lfW p g s m) = true := by
    rcases Bool.eq_false_or_eq_true (lfW p g s m == lfW p g s m) with h | h
    · exact h
    · exfalso; (try simp only [lawM_b0, lawM_b3, lawM_b5] at *); (first | (simp_all only [Bool.and_eq_true, Bool.not_eq_true', Bool.false_eq_true, Bool.true_eq_false, reduceCtorEq]; done) | (simp only [sx, sy, eq_self, ne_eq, IntKind.wrap_i64, wrapU64, Int.reduceLT] at * <;> first | contradiction | omega) | (simp_all; done))
  have hq8 : (ckM p g s m == ckM p g s m) = true := by
    rcases Bool.eq_false_or_eq_true (ckM p g s m == ckM p g s m) with h | h
    · exact h
    · exfalso; (try simp only [lawM_b0, lawM_b3, lawM_b5] at *); (first | (simp_all only [Bool.and_eq_true, Bool.not_eq_true', Bool.false_eq_true, Bool.true_eq_false, reduceCtorEq]; done) | (simp only [sx, sy, eq_self, ne_eq, IntKind.wrap_i64, wrapU64, Int.reduceLT] at * <;> first | contradiction | omega) | (simp_all; done))
  have hq9 : (nrW p g s m == nrW p g s m) = true := by
    rcases Bool.eq_false_or_eq_true (nrW p g s m == nrW p g s m) with h | h
    · exact h
    · exfalso; (try simp only [lawM_b0, lawM_b3, lawM_b5] at *); (first | (simp_all only [Bool.and_eq_true, Bool.not_eq_true', Bool.false_eq_true, Bool.true_eq_false, reduceCtorEq]; done) | (simp only [sx, sy, eq_self, ne_eq, IntKind.wrap_i64, wrapU64, Int.reduceLT] at * <;> first | contradiction | omega) | (simp_all; done))
  exact lawM_p0 p g s m n goal hq0 hq1 hq2 hq3 hq4 hq5 hq6 hq7 hq8 hq9
noncomputable def lawM_k : List Value → Option Value
  | [.agg ⟨[.int .i64 p, .int .i64 g, .int .i64 s, .int .i64 m]⟩, .int .i64 n, .int .i64 goal] => some (.bool (true))
  | _ => none
theorem lawM_ok : ∀ args v, lawM_k args = some v → Known Try.prog [] 3 args v := by
  intro args v h
  unfold lawM_k at h
  split at h
  · injection h with h; subst h; exact lawM _ _ _ _ _ _
  · cases h

end Go.Proofs.Ytaohbffjfedcgaa
