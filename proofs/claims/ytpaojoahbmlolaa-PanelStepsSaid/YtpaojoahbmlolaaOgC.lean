/- Layer 16: PanelSteps. -/
import Derived.Test.YtpaojoahbmlolaaKB
import Derived.ProofKit
import Derived.IntWalk
namespace Go.Proofs.Ytpaojoahbmlolaa
open Go Go.RowKit
set_option linter.unusedVariables false
set_option linter.unusedSimpArgs false
set_option linter.unnecessarySimpa false
theorem qRun (a w y t : Int) : Known Try.prog [] 17 [.agg #[.int .i64 a, .int .i64 w, .int .i64 y], .int .i64 t] (.tuple #[.agg #[.int .i64 (rvP a w y t).1, .int .i64 (rvP a w y t).2.1, .int .i64 (rvP a w y t).2.2.1], .int .i64 (rvP a w y t).2.2.2]) := pRun_is a w y t
noncomputable def qRun_k : List Value → Option Value
  | [.agg ⟨[.int .i64 a, .int .i64 w, .int .i64 y]⟩, .int .i64 t] => some (.tuple #[.agg #[.int .i64 (rvP a w y t).1, .int .i64 (rvP a w y t).2.1, .int .i64 (rvP a w y t).2.2.1], .int .i64 (rvP a w y t).2.2.2])
  | _ => none
theorem qRun_ok : ∀ args v, qRun_k args = some v → Known Try.prog [] 17 args v := by
  intro args v h
  unfold qRun_k at h
  split at h
  · injection h with h; subst h; exact qRun _ _ _ _
  · cases h
theorem qRrun (a w y t : Int) : Known Try.prog [] 18 [.agg #[.int .i64 a, .int .i64 w, .int .i64 y], .int .i64 t] (.tuple #[.agg #[.int .i64 (rvP a w y t).1, .int .i64 (rvP a w y t).2.1, .int .i64 (rvP a w y t).2.2.1], .int .i64 (rvP a w y t).2.2.2]) := rRun_is a w y t
noncomputable def qRrun_k : List Value → Option Value
  | [.agg ⟨[.int .i64 a, .int .i64 w, .int .i64 y]⟩, .int .i64 t] => some (.tuple #[.agg #[.int .i64 (rvP a w y t).1, .int .i64 (rvP a w y t).2.1, .int .i64 (rvP a w y t).2.2.1], .int .i64 (rvP a w y t).2.2.2])
  | _ => none
theorem qRrun_ok : ∀ args v, qRrun_k args = some v → Known Try.prog [] 18 args v := by
  intro args v h
  unfold qRrun_k at h
  split at h
  · injection h with h; subst h; exact qRrun _ _ _ _
  · cases h
theorem qRleft (a w y : Int) : Known Try.prog [] 20 [.agg #[.int .i64 a, .int .i64 w, .int .i64 y]] (.tuple #[.int .i64 (pLf_c0 a w y), .int .i64 (pLf_c1 a w y)]) := rLeft_is a w y
noncomputable def qRleft_k : List Value → Option Value
  | [.agg ⟨[.int .i64 a, .int .i64 w, .int .i64 y]⟩] => some (.tuple #[.int .i64 (pLf_c0 a w y), .int .i64 (pLf_c1 a w y)])
  | _ => none
theorem qRleft_ok : ∀ args v, qRleft_k args = some v → Known Try.prog [] 20 args v := by
  intro args v h
  unfold qRleft_k at h
  split at h
  · injection h with h; subst h; exact qRleft _ _ _
  · cases h
theorem qRnew (n : Int) : Known Try.prog [] 10 [.int .i64 n] (.tuple #[.agg #[.int .i64 0, .int .i64 (pNw_c1 n), .int .i64 0], .int .i64 (pNw_c3 n)]) := rNew_is n
noncomputable def qRnew_k : List Value → Option Value
  | [.int .i64 n] => some (.tuple #[.agg #[.int .i64 0, .int .i64 (pNw_c1 n), .int .i64 0], .int .i64 (pNw_c3 n)])
  | _ => none
theorem qRnew_ok : ∀ args v, qRnew_k args = some v → Known Try.prog [] 10 args v := by
  intro args v h
  unfold qRnew_k at h
  split at h
  · injection h with h; subst h; exact qRnew _
  · cases h
theorem qRord (a w y o : Int) : Known Try.prog [] 14 [.agg #[.int .i64 a, .int .i64 w, .int .i64 y], .int .i64 o] (.tuple #[.agg #[.int .i64 (pOr_c0 a w y o), .int .i64 (pOr_c1 a w y o), .int .i64 (pOr_c2 a w y o)], .int .i64 (pOr_c3 a w y o)]) := rOrd_is a w y o
noncomputable def qRord_k : List Value → Option Value
  | [.agg ⟨[.int .i64 a, .int .i64 w, .int .i64 y]⟩, .int .i64 o] => some (.tuple #[.agg #[.int .i64 (pOr_c0 a w y o), .int .i64 (pOr_c1 a w y o), .int .i64 (pOr_c2 a w y o)], .int .i64 (pOr_c3 a w y o)])
  | _ => none
theorem qRord_ok : ∀ args v, qRord_k args = some v → Known Try.prog [] 14 args v := by
  intro args v h
  unfold qRord_k at h
  split at h
  · injection h with h; subst h; exact qRord _ _ _ _
  · cases h
theorem qRst (a w y : Int) : Known Try.prog [] 16 [.agg #[.int .i64 a, .int .i64 w, .int .i64 y]] (.tuple #[.agg #[.int .i64 (pSt_c0 a w y), .int .i64 (pSt_c1 a w y), .int .i64 (pSt_c2 a w y)], .int .i64 (pSt_c3 a w y), .int .i64 (pSt_c4 a w y)]) := rSt a w y
noncomputable def qRst_k : List Value → Option Value
  | [.agg ⟨[.int .i64 a, .int .i64 w, .int .i64 y]⟩] => some (.tuple #[.agg #[.int .i64 (pSt_c0 a w y), .int .i64 (pSt_c1 a w y), .int .i64 (pSt_c2 a w y)], .int .i64 (pSt_c3 a w y), .int .i64 (pSt_c4 a w y)])
  | _ => none
theorem qRst_ok : ∀ args v, qRst_k args = some v → Known Try.prog [] 16 args v := by
  intro args v h
  unfold qRst_k at h
  split at h
  · injection h with h; subst h; exact qRst _ _ _
  · cases h
noncomputable def tabC : GTab := (GTab.fn1 17 qRun_k (GTab.fn1 18 qRrun_k (GTab.fn1 20 qRleft_k (GTab.fn1 19 pLf_k (GTab.fn1 10 qRnew_k (GTab.fn1 9 pNw_k (GTab.fn1 14 qRord_k (GTab.fn1 13 pOr_k (GTab.fn1 16 qRst_k (GTab.fn1 15 pSt_k tabB))))))))))
theorem tabC_ok : GOk Try.prog [] tabC := (GOk.fn1 qRun_ok (GOk.fn1 qRrun_ok (GOk.fn1 qRleft_ok (GOk.fn1 pLf_ok (GOk.fn1 qRnew_ok (GOk.fn1 pNw_ok (GOk.fn1 qRord_ok (GOk.fn1 pOr_ok (GOk.fn1 qRst_ok (GOk.fn1 pSt_ok tabB_ok))))))))))
theorem lawSteps_p0 (a u y o t : Int)  (hq0 : (!(true && (pNw_c1 o == pNw_c1 o && true))) = false) (hq1 : (pNw_c3 o != pNw_c3 o) = false) (hq2 : (ckV a u y != ckV a u y) = false) (hq3 : (!(pOr_c0 a u y o == pOr_c0 a u y o && (pOr_c1 a u y o == pOr_c1 a u y o && pOr_c2 a u y o == pOr_c2 a u y o))) = false) (hq4 : (pOr_c3 a u y o != pOr_c3 a u y o) = false) (hq5 : (!(pSt_c0 a u y == pSt_c0 a u y && (pSt_c1 a u y == pSt_c1 a u y && pSt_c2 a u y == pSt_c2 a u y))) = false) (hq6 : (pSt_c3 a u y != pSt_c3 a u y) = false) (hq7 : (pSt_c4 a u y != pSt_c4 a u y) = false) (hq8 : ((rvP a u y t).fst == (rvP a u y t).fst && ((rvP a u y t).snd.fst == (rvP a u y t).snd.fst && (rvP a u y t).snd.snd.fst == (rvP a u y t).snd.snd.fst)) = true) (hq9 : ((rvP a u y t).snd.snd.snd == (rvP a u y t).snd.snd.snd) = true) (hq10 : (pLf_c0 a u y == pLf_c0 a u y) = true) (hq11 : (pLf_c1 a u y == pLf_c1 a u y) = true) : Known Try.prog [] 3 [.agg #[.int .i64 a, .int .i64 u, .int .i64 y], .int .i64 o, .int .i64 t] (.bool (true)) :=
  open_res mix tabC_ok (T := tabC) (fuel := 3000) (ans := [(2, .b 0), (6, .b 0), (14, .b 0), (17, .b 0), (21, .b 0), (24, .b 0), (28, .b 0), (32, .b 0), (37, .b 1), (41, .b 1), (45, .b 1), (49, .b 1)]) (log := [(pLf_c1 a u y == pLf_c1 a u y) = true, (pLf_c0 a u y == pLf_c0 a u y) = true, ((rvP a u y t).snd.snd.snd == (rvP a u y t).snd.snd.snd) = true, ((rvP a u y t).fst == (rvP a u y t).fst && ((rvP a u y t).snd.fst == (rvP a u y t).snd.fst && (rvP a u y t).snd.snd.fst == (rvP a u y t).snd.snd.fst)) = true, (pSt_c4 a u y != pSt_c4 a u y) = false, (pSt_c3 a u y != pSt_c3 a u y) = false, (!(pSt_c0 a u y == pSt_c0 a u y && (pSt_c1 a u y == pSt_c1 a u y && pSt_c2 a u y == pSt_c2 a u y))) = false, (pOr_c3 a u y o != pOr_c3 a u y o) = false, (!(pOr_c0 a u y o == pOr_c0 a u y o && (pOr_c1 a u y o == pOr_c1 a u y o && pOr_c2 a u y o == pOr_c2 a u y o))) = false, (ckV a u y != ckV a u y) = false, (pNw_c3 o != pNw_c3 o) = false, (!(true && (pNw_c1 o == pNw_c1 o && true))) = false]) (by kernel_rfl) ⟨hq11, hq10, hq9, hq8, hq7, hq6, hq5, hq4, hq3, hq2, hq1, hq0, trivial⟩ (by kernel_rfl)
set_option maxHeartbeats 8000000 in
theorem lawSteps (a u y o t : Int)  : Known Try.prog [] 3 [.agg #[.int .i64 a, .int .i64 u, .int .i64 y], .int .i64 o, .int .i64 t] (.bool (true)) := by
  have hq0 : (!(true && (pNw_c1 o == pNw_c1 o && true))) = false := by
    rcases Bool.eq_false_or_eq_true (!(true && (pNw_c1 o == pNw_c1 o && true))) with h | h
    · exfalso; (simp only [sx, sy, eq_self, ne_eq, IntKind.wrap_i64, wrapU64, Int.reduceLT] at * <;> first | contradiction | omega)
    · exact h
  have hq1 : (pNw_c3 o != pNw_c3 o) = false := by
    rcases Bool.eq_false_or_eq_true (pNw_c3 o != pNw_c3 o) with h | h
    · exfalso; (simp only [sx, sy, eq_self, ne_eq, IntKind.wrap_i64, wrapU64, Int.reduceLT] at * <;> first | contradiction | omega)
    · exact h
  have hq2 : (ckV a u y != ckV a u y) = false := by
    rcases Bool.eq_false_or_eq_true (ckV a u y != ckV a u y) with h | h
    · exfalso; (simp only [sx, sy, eq_self, ne_eq, IntKind.wrap_i64, wrapU64, Int.reduceLT] at * <;> first | contradiction | omega)
    · exact h
  have hq3 : (!(pOr_c0 a u y o == pOr_c0 a u y o && (pOr_c1 a u y o == pOr_c1 a u y o && pOr_c2 a u y o == pOr_c2 a u y o))) = false := by
    rcases Bool.eq_false_or_eq_true (!(pOr_c0 a u y o == pOr_c0 a u y o && (pOr_c1 a u y o == pOr_c1 a u y o && pOr_c2 a u y o == pOr_c2 a u y o))) with h | h
    · exfalso; (simp only [sx, sy, eq_self, ne_eq, IntKind.wrap_i64, wrapU64, Int.reduceLT] at * <;> first | contradiction | omega)
    · exact h
  have hq4 : (pOr_c3 a u y o != pOr_c3 a u y o) = false := by
    rcases Bool.eq_false_or_eq_true (pOr_c3 a u y o != pOr_c3 a u y o) with h | h
    · exfalso; (simp only [sx, sy, eq_self, ne_eq, IntKind.wrap_i64, wrapU64, Int.reduceLT] at * <;> first | contradiction | omega)
    · exact h
  have hq5 : (!(pSt_c0 a u y == pSt_c0 a u y && (pSt_c1 a u y == pSt_c1 a u y && pSt_c2 a u y == pSt_c2 a u y))) = false := by
    rcases Bool.eq_false_or_eq_true (!(pSt_c0 a u y == pSt_c0 a u y && (pSt_c1 a u y == pSt_c1 a u y && pSt_c2 a u y == pSt_c2 a u y))) with h | h
    · exfalso; (simp only [sx, sy, eq_self, ne_eq, IntKind.wrap_i64, wrapU64, Int.reduceLT] at * <;> first | contradiction | omega)
    · exact h
  have hq6 : (pSt_c3 a u y != pSt_c3 a u y) = false := by
    rcases Bool.eq_false_or_eq_true (pSt_c3 a u y != pSt_c3 a u y) with h | h
    · exfalso; (simp only [sx, sy, eq_self, ne_eq, IntKind.wrap_i64, wrapU64, Int.reduceLT] at * <;> first | contradiction | omega)
    · exact h
  have hq7 : (pSt_c4 a u y != pSt_c4 a u y) = false := by
    rcases Bool.eq_false_or_eq_true (pSt_c4 a u y != pSt_c4 a u y) with h | h
    · exfalso; (simp only [sx, sy, eq_self, ne_eq, IntKind.wrap_i64, wrapU64, Int.reduceLT] at * <;> first | contradiction | omega)
    · exact h
  have hq8 : ((rvP a u y t).fst == (rvP a u y t).fst && ((rvP a u y t).snd.fst == (rvP a u y t).snd.fst && (rvP a u y t).snd.snd.fst == (rvP a u y t).snd.snd.fst)) = true := by
    rcases Bool.eq_false_or_eq_true ((rvP a u y t).fst == (rvP a u y t).fst && ((rvP a u y t).snd.fst == (rvP a u y t).snd.fst && (rvP a u y t).snd.snd.fst == (rvP a u y t).snd.snd.fst)) with h | h
    · exact h
    · exfalso; (simp only [sx, sy, eq_self, ne_eq, IntKind.wrap_i64, wrapU64, Int.reduceLT] at * <;> first | contradiction | omega)
  have hq9 : ((rvP a u y t).snd.snd.snd == (rvP a u y t).snd.snd.snd) = true := by
    rcases Bool.eq_false_or_eq_true ((rvP a u y t).snd.snd.snd == (rvP a u y t).snd.snd.snd) with h | h
    · exact h
    · exfalso; (simp only [sx, sy, eq_self, ne_eq, IntKind.wrap_i64, wrapU64, Int.reduceLT] at * <;> first | contradiction | omega)
  have hq10 : (pLf_c0 a u y == pLf_c0 a u y) = true := by
    rcases Bool.eq_false_or_eq_true (pLf_c0 a u y == pLf_c0 a u y) with h | h
    · exact h
    · exfalso; (simp only [sx, sy, eq_self, ne_eq, IntKind.wrap_i64, wrapU64, Int.reduceLT] at * <;> first | contradiction | omega)
  have hq11 : (pLf_c1 a u y == pLf_c1 a u y) = true := by
    rcases Bool.eq_false_or_eq_true (pLf_c1 a u y == pLf_c1 a u y) with h | h
    · exact h
    · exfalso; (simp only [sx, sy, eq_self, ne_eq, IntKind.wrap_i64, wrapU64, Int.reduceLT] at * <;> first | contradiction | omega)
  exact lawSteps_p0 a u y o t hq0 hq1 hq2 hq3 hq4 hq5 hq6 hq7 hq8 hq9 hq10 hq11
noncomputable def lawSteps_k : List Value → Option Value
  | [.agg ⟨[.int .i64 a, .int .i64 u, .int .i64 y]⟩, .int .i64 o, .int .i64 t] => some (.bool (true))
  | _ => none
theorem lawSteps_ok : ∀ args v, lawSteps_k args = some v → Known Try.prog [] 3 args v := by
  intro args v h
  unfold lawSteps_k at h
  split at h
  · injection h with h; subst h; exact lawSteps _ _ _ _ _
  · cases h

def In64 (n : Int) : Prop := -9223372036854775808 ≤ n ∧ n ≤ 9223372036854775807
theorem panelSteps_true (a u y o t : Int) (w : World) (_ : In64 a) (_ : In64 u) (_ : In64 y) (_ : In64 o) (_ : In64 t) : Calls Try.prog 3 #[.agg #[.int .i64 a, .int .i64 u, .int .i64 y], .int .i64 o, .int .i64 t] w fun e w' => e = .returned (.bool true) ∧ Below w.heap.size w w' :=
  (lawSteps a u y o t).2.2 w (LaidL.nil w)
end Go.Proofs.Ytpaojoahbmlolaa
