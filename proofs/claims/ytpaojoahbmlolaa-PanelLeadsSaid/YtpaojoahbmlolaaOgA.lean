/- Layer 16: PanelSteps: panels, orders, ticks. -/
import Derived.Test.YtpaojoahbmlolaaEvZ7
import Derived.Test.YtpaojoahbmlolaaProg
import Derived.Test.YtpaojoahbmlolaaKnPanelKnown
import Derived.ProofKit
import Derived.IntWalk
namespace Go.Proofs.Ytpaojoahbmlolaa
open Go Go.RowKit
set_option linter.unusedVariables false
set_option linter.unusedSimpArgs false
set_option linter.unnecessarySimpa false
noncomputable def pFits_c0 (a w y : Int) : Bool := (bif (y != (1 : Int)) then (bif (y != (-1 : Int)) then (true) else (decide (a > (0 : Int)))) else (bif (decide (a < w)) then (true) else (false)))
theorem pFits_p0 (a w y : Int)  (hq0 : (y != (1 : Int)) = true) (hq1 : (y != (-1 : Int)) = true) : Known Try.prog [] 38 [.agg #[.int .i64 a, .int .i64 w, .int .i64 y]] (.bool (true)) :=
  open_res mix GOk.none (T := GTab.none) (fuel := 3000) (ans := [(0, .b 1), (10, .b 1)]) (log := [(y != (-1 : Int)) = true, (y != (1 : Int)) = true]) (by kernel_rfl) ⟨hq1, hq0, trivial⟩ (by kernel_rfl)
theorem pFits_p1 (a w y : Int)  (hq0 : (y != (1 : Int)) = true) (hq1 : (y != (-1 : Int)) = false) : Known Try.prog [] 38 [.agg #[.int .i64 a, .int .i64 w, .int .i64 y]] (.bool (decide (a > (0 : Int)))) :=
  open_res mix GOk.none (T := GTab.none) (fuel := 3000) (ans := [(0, .b 1), (10, .b 0)]) (log := [(y != (-1 : Int)) = false, (y != (1 : Int)) = true]) (by kernel_rfl) ⟨hq1, hq0, trivial⟩ (by kernel_rfl)
theorem pFits_p2 (a w y : Int)  (hq0 : (y != (1 : Int)) = false) (hq2 : (decide (a < w)) = true) (hq1 : (y != (-1 : Int)) = true) : Known Try.prog [] 38 [.agg #[.int .i64 a, .int .i64 w, .int .i64 y]] (.bool (true)) :=
  open_res mix GOk.none (T := GTab.none) (fuel := 3000) (ans := [(0, .b 0), (6, .b 1), (10, .b 1)]) (log := [(y != (-1 : Int)) = true, (decide (a < w)) = true, (y != (1 : Int)) = false]) (by kernel_rfl) ⟨hq1, hq2, hq0, trivial⟩ (by kernel_rfl)
theorem pFits_p3 (a w y : Int)  (hq0 : (y != (1 : Int)) = false) (hq2 : (decide (a < w)) = false) : Known Try.prog [] 38 [.agg #[.int .i64 a, .int .i64 w, .int .i64 y]] (.bool (false)) :=
  open_res mix GOk.none (T := GTab.none) (fuel := 3000) (ans := [(0, .b 0), (6, .b 0)]) (log := [(decide (a < w)) = false, (y != (1 : Int)) = false]) (by kernel_rfl) ⟨hq2, hq0, trivial⟩ (by kernel_rfl)
set_option maxHeartbeats 8000000 in
theorem pFits (a w y : Int)  : Known Try.prog [] 38 [.agg #[.int .i64 a, .int .i64 w, .int .i64 y]] (.bool (pFits_c0 a w y)) := by
  rcases Bool.eq_false_or_eq_true (y != (1 : Int)) with hq0 | hq0
  ·
    rcases Bool.eq_false_or_eq_true (y != (-1 : Int)) with hq1 | hq1
    ·
      have e0 : pFits_c0 a w y = (true) := ((bif_t hq0 _ _).trans ((bif_t hq1 _ _).trans rfl)); rw [e0]; exact pFits_p0 a w y hq0 hq1
    ·
      have e0 : pFits_c0 a w y = (decide (a > (0 : Int))) := ((bif_t hq0 _ _).trans ((bif_f hq1 _ _).trans rfl)); rw [e0]; exact pFits_p1 a w y hq0 hq1
  ·
    rcases Bool.eq_false_or_eq_true (decide (a < w)) with hq2 | hq2
    ·
      have hq1 : (y != (-1 : Int)) = true := by
        rcases Bool.eq_false_or_eq_true (y != (-1 : Int)) with h | h
        · exact h
        · exfalso; (first | (simp_all only [Bool.and_eq_true, Bool.not_eq_true', Bool.false_eq_true, Bool.true_eq_false, reduceCtorEq]; done) | (simp_all; done) | (simp only [sx, sy, eq_self, ne_eq, IntKind.wrap_i64, wrapU64, Int.reduceLT] at * <;> first | contradiction | omega))
      have e0 : pFits_c0 a w y = (true) := ((bif_f hq0 _ _).trans ((bif_t hq2 _ _).trans rfl)); rw [e0]; exact pFits_p2 a w y hq0 hq2 hq1
    ·
      have e0 : pFits_c0 a w y = (false) := ((bif_f hq0 _ _).trans ((bif_f hq2 _ _).trans rfl)); rw [e0]; exact pFits_p3 a w y hq0 hq2
noncomputable def pFits_k : List Value → Option Value
  | [.agg ⟨[.int .i64 a, .int .i64 w, .int .i64 y]⟩] => some (.bool (pFits_c0 a w y))
  | _ => none
theorem pFits_ok : ∀ args v, pFits_k args = some v → Known Try.prog [] 38 args v := by
  intro args v h
  unfold pFits_k at h
  split at h
  · injection h with h; subst h; exact pFits _ _ _
  · cases h

noncomputable def pChk_c0 (a w y : Int) : Int := (bif (decide (w < (1 : Int))) then ((2 : Int)) else (bif (decide (w > (20 : Int))) then ((2 : Int)) else (bif (decide (a < (0 : Int))) then ((2 : Int)) else (bif (decide (a > w)) then ((2 : Int)) else (bif (decide (y < (-1 : Int))) then ((2 : Int)) else (bif (decide (y > (1 : Int))) then ((2 : Int)) else (bif (y != (1 : Int)) then (bif (y != (-1 : Int)) then ((0 : Int)) else (bif (!decide (a > (0 : Int))) then ((3 : Int)) else ((0 : Int)))) else (bif (decide (a < w)) then ((0 : Int)) else ((3 : Int))))))))))
theorem pChk_p0 (a w y : Int)  (hq0 : (decide (w < (1 : Int))) = true) : Known Try.prog [] 11 [.agg #[.int .i64 a, .int .i64 w, .int .i64 y]] (.int .i64 ((2 : Int))) :=
  open_res mix GOk.none (T := GTab.none) (fuel := 3000) (ans := [(0, .b 1)]) (log := [(decide (w < (1 : Int))) = true]) (by kernel_rfl) ⟨hq0, trivial⟩ (by kernel_rfl)
theorem pChk_p1 (a w y : Int)  (hq0 : (decide (w < (1 : Int))) = false) (hq1 : (decide (w > (20 : Int))) = true) : Known Try.prog [] 11 [.agg #[.int .i64 a, .int .i64 w, .int .i64 y]] (.int .i64 ((2 : Int))) :=
  open_res mix GOk.none (T := GTab.none) (fuel := 3000) (ans := [(0, .b 0), (4, .b 1)]) (log := [(decide (w > (20 : Int))) = true, (decide (w < (1 : Int))) = false]) (by kernel_rfl) ⟨hq1, hq0, trivial⟩ (by kernel_rfl)
theorem pChk_p2 (a w y : Int)  (hq0 : (decide (w < (1 : Int))) = false) (hq1 : (decide (w > (20 : Int))) = false) (hq2 : (decide (a < (0 : Int))) = true) : Known Try.prog [] 11 [.agg #[.int .i64 a, .int .i64 w, .int .i64 y]] (.int .i64 ((2 : Int))) :=
  open_res mix GOk.none (T := GTab.none) (fuel := 3000) (ans := [(0, .b 0), (4, .b 0), (8, .b 1)]) (log := [(decide (a < (0 : Int))) = true, (decide (w > (20 : Int))) = false, (decide (w < (1 : Int))) = false]) (by kernel_rfl) ⟨hq2, hq1, hq0, trivial⟩ (by kernel_rfl)
theorem pChk_p3 (a w y : Int)  (hq0 : (decide (w < (1 : Int))) = false) (hq1 : (decide (w > (20 : Int))) = false) (hq2 : (decide (a < (0 : Int))) = false) (hq3 : (decide (a > w)) = true) : Known Try.prog [] 11 [.agg #[.int .i64 a, .int .i64 w, .int .i64 y]] (.int .i64 ((2 : Int))) :=
  open_res mix GOk.none (T := GTab.none) (fuel := 3000) (ans := [(0, .b 0), (4, .b 0), (8, .b 0), (14, .b 1)]) (log := [(decide (a > w)) = true, (decide (a < (0 : Int))) = false, (decide (w > (20 : Int))) = false, (decide (w < (1 : Int))) = false]) (by kernel_rfl) ⟨hq3, hq2, hq1, hq0, trivial⟩ (by kernel_rfl)
theorem pChk_p4 (a w y : Int)  (hq0 : (decide (w < (1 : Int))) = false) (hq1 : (decide (w > (20 : Int))) = false) (hq2 : (decide (a < (0 : Int))) = false) (hq3 : (decide (a > w)) = false) (hq4 : (decide (y < (-1 : Int))) = true) : Known Try.prog [] 11 [.agg #[.int .i64 a, .int .i64 w, .int .i64 y]] (.int .i64 ((2 : Int))) :=
  open_res mix GOk.none (T := GTab.none) (fuel := 3000) (ans := [(0, .b 0), (4, .b 0), (8, .b 0), (14, .b 0), (18, .b 1)]) (log := [(decide (y < (-1 : Int))) = true, (decide (a > w)) = false, (decide (a < (0 : Int))) = false, (decide (w > (20 : Int))) = false, (decide (w < (1 : Int))) = false]) (by kernel_rfl) ⟨hq4, hq3, hq2, hq1, hq0, trivial⟩ (by kernel_rfl)
theorem pChk_p5 (a w y : Int)  (hq0 : (decide (w < (1 : Int))) = false) (hq1 : (decide (w > (20 : Int))) = false) (hq2 : (decide (a < (0 : Int))) = false) (hq3 : (decide (a > w)) = false) (hq4 : (decide (y < (-1 : Int))) = false) (hq5 : (decide (y > (1 : Int))) = true) : Known Try.prog [] 11 [.agg #[.int .i64 a, .int .i64 w, .int .i64 y]] (.int .i64 ((2 : Int))) :=
  open_res mix GOk.none (T := GTab.none) (fuel := 3000) (ans := [(0, .b 0), (4, .b 0), (8, .b 0), (14, .b 0), (18, .b 0), (22, .b 1)]) (log := [(decide (y > (1 : Int))) = true, (decide (y < (-1 : Int))) = false, (decide (a > w)) = false, (decide (a < (0 : Int))) = false, (decide (w > (20 : Int))) = false, (decide (w < (1 : Int))) = false]) (by kernel_rfl) ⟨hq5, hq4, hq3, hq2, hq1, hq0, trivial⟩ (by kernel_rfl)
theorem pChk_p6 (a w y : Int)  (hq0 : (decide (w < (1 : Int))) = false) (hq1 : (decide (w > (20 : Int))) = false) (hq2 : (decide (a < (0 : Int))) = false) (hq3 : (decide (a > w)) = false) (hq4 : (decide (y < (-1 : Int))) = false) (hq5 : (decide (y > (1 : Int))) = false) (hq6 : (y != (1 : Int)) = true) (hq7 : (y != (-1 : Int)) = true) : Known Try.prog [] 11 [.agg #[.int .i64 a, .int .i64 w, .int .i64 y]] (.int .i64 ((0 : Int))) :=
  open_res mix GOk.none (T := GTab.none) (fuel := 3000) (ans := [(0, .b 0), (4, .b 0), (8, .b 0), (14, .b 0), (18, .b 0), (22, .b 0), (23, .b 1), (33, .b 1)]) (log := [(y != (-1 : Int)) = true, (y != (1 : Int)) = true, (decide (y > (1 : Int))) = false, (decide (y < (-1 : Int))) = false, (decide (a > w)) = false, (decide (a < (0 : Int))) = false, (decide (w > (20 : Int))) = false, (decide (w < (1 : Int))) = false]) (by kernel_rfl) ⟨hq7, hq6, hq5, hq4, hq3, hq2, hq1, hq0, trivial⟩ (by kernel_rfl)
theorem pChk_p7 (a w y : Int)  (hq0 : (decide (w < (1 : Int))) = false) (hq1 : (decide (w > (20 : Int))) = false) (hq2 : (decide (a < (0 : Int))) = false) (hq3 : (decide (a > w)) = false) (hq4 : (decide (y < (-1 : Int))) = false) (hq5 : (decide (y > (1 : Int))) = false) (hq6 : (y != (1 : Int)) = true) (hq7 : (y != (-1 : Int)) = false) (hq8 : (!decide (a > (0 : Int))) = true) : Known Try.prog [] 11 [.agg #[.int .i64 a, .int .i64 w, .int .i64 y]] (.int .i64 ((3 : Int))) :=
  open_res mix GOk.none (T := GTab.none) (fuel := 3000) (ans := [(0, .b 0), (4, .b 0), (8, .b 0), (14, .b 0), (18, .b 0), (22, .b 0), (23, .b 1), (33, .b 0), (39, .b 1)]) (log := [(!decide (a > (0 : Int))) = true, (y != (-1 : Int)) = false, (y != (1 : Int)) = true, (decide (y > (1 : Int))) = false, (decide (y < (-1 : Int))) = false, (decide (a > w)) = false, (decide (a < (0 : Int))) = false, (decide (w > (20 : Int))) = false, (decide (w < (1 : Int))) = false]) (by kernel_rfl) ⟨hq8, hq7, hq6, hq5, hq4, hq3, hq2, hq1, hq0, trivial⟩ (by kernel_rfl)
theorem pChk_p8 (a w y : Int)  (hq0 : (decide (w < (1 : Int))) = false) (hq1 : (decide (w > (20 : Int))) = false) (hq2 : (decide (a < (0 : Int))) = false) (hq3 : (decide (a > w)) = false) (hq4 : (decide (y < (-1 : Int))) = false) (hq5 : (decide (y > (1 : Int))) = false) (hq6 : (y != (1 : Int)) = true) (hq7 : (y != (-1 : Int)) = false) (hq8 : (!decide (a > (0 : Int))) = false) : Known Try.prog [] 11 [.agg #[.int .i64 a, .int .i64 w, .int .i64 y]] (.int .i64 ((0 : Int))) :=
  open_res mix GOk.none (T := GTab.none) (fuel := 3000) (ans := [(0, .b 0), (4, .b 0), (8, .b 0), (14, .b 0), (18, .b 0), (22, .b 0), (23, .b 1), (33, .b 0), (39, .b 0)]) (log := [(!decide (a > (0 : Int))) = false, (y != (-1 : Int)) = false, (y != (1 : Int)) = true, (decide (y > (1 : Int))) = false, (decide (y < (-1 : Int))) = false, (decide (a > w)) = false, (decide (a < (0 : Int))) = false, (decide (w > (20 : Int))) = false, (decide (w < (1 : Int))) = false]) (by kernel_rfl) ⟨hq8, hq7, hq6, hq5, hq4, hq3, hq2, hq1, hq0, trivial⟩ (by kernel_rfl)
theorem pChk_p9 (a w y : Int)  (hq0 : (decide (w < (1 : Int))) = false) (hq1 : (decide (w > (20 : Int))) = false) (hq2 : (decide (a < (0 : Int))) = false) (hq3 : (decide (a > w)) = false) (hq4 : (decide (y < (-1 : Int))) = false) (hq5 : (decide (y > (1 : Int))) = false) (hq6 : (y != (1 : Int)) = false) (hq9 : (decide (a < w)) = true) (hq7 : (y != (-1 : Int)) = true) : Known Try.prog [] 11 [.agg #[.int .i64 a, .int .i64 w, .int .i64 y]] (.int .i64 ((0 : Int))) :=
  open_res mix GOk.none (T := GTab.none) (fuel := 3000) (ans := [(0, .b 0), (4, .b 0), (8, .b 0), (14, .b 0), (18, .b 0), (22, .b 0), (23, .b 0), (29, .b 1), (33, .b 1)]) (log := [(y != (-1 : Int)) = true, (decide (a < w)) = true, (y != (1 : Int)) = false, (decide (y > (1 : Int))) = false, (decide (y < (-1 : Int))) = false, (decide (a > w)) = false, (decide (a < (0 : Int))) = false, (decide (w > (20 : Int))) = false, (decide (w < (1 : Int))) = false]) (by kernel_rfl) ⟨hq7, hq9, hq6, hq5, hq4, hq3, hq2, hq1, hq0, trivial⟩ (by kernel_rfl)
theorem pChk_p10 (a w y : Int)  (hq0 : (decide (w < (1 : Int))) = false) (hq1 : (decide (w > (20 : Int))) = false) (hq2 : (decide (a < (0 : Int))) = false) (hq3 : (decide (a > w)) = false) (hq4 : (decide (y < (-1 : Int))) = false) (hq5 : (decide (y > (1 : Int))) = false) (hq6 : (y != (1 : Int)) = false) (hq9 : (decide (a < w)) = false) : Known Try.prog [] 11 [.agg #[.int .i64 a, .int .i64 w, .int .i64 y]] (.int .i64 ((3 : Int))) :=
  open_res mix GOk.none (T := GTab.none) (fuel := 3000) (ans := [(0, .b 0), (4, .b 0), (8, .b 0), (14, .b 0), (18, .b 0), (22, .b 0), (23, .b 0), (29, .b 0)]) (log := [(decide (a < w)) = false, (y != (1 : Int)) = false, (decide (y > (1 : Int))) = false, (decide (y < (-1 : Int))) = false, (decide (a > w)) = false, (decide (a < (0 : Int))) = false, (decide (w > (20 : Int))) = false, (decide (w < (1 : Int))) = false]) (by kernel_rfl) ⟨hq9, hq6, hq5, hq4, hq3, hq2, hq1, hq0, trivial⟩ (by kernel_rfl)
set_option maxHeartbeats 8000000 in
theorem pChk (a w y : Int)  : Known Try.prog [] 11 [.agg #[.int .i64 a, .int .i64 w, .int .i64 y]] (.int .i64 (pChk_c0 a w y)) := by
  rcases Bool.eq_false_or_eq_true (decide (w < (1 : Int))) with hq0 | hq0
  ·
    have e0 : pChk_c0 a w y = ((2 : Int)) := ((bif_t hq0 _ _).trans rfl); rw [e0]; exact pChk_p0 a w y hq0
  ·
    rcases Bool.eq_false_or_eq_true (decide (w > (20 : Int))) with hq1 | hq1
    ·
      have e0 : pChk_c0 a w y = ((2 : Int)) := ((bif_f hq0 _ _).trans ((bif_t hq1 _ _).trans rfl)); rw [e0]; exact pChk_p1 a w y hq0 hq1
    ·
      rcases Bool.eq_false_or_eq_true (decide (a < (0 : Int))) with hq2 | hq2
      ·
        have e0 : pChk_c0 a w y = ((2 : Int)) := ((bif_f hq0 _ _).trans ((bif_f hq1 _ _).trans ((bif_t hq2 _ _).trans rfl))); rw [e0]; exact pChk_p2 a w y hq0 hq1 hq2
      ·
        rcases Bool.eq_false_or_eq_true (decide (a > w)) with hq3 | hq3
        ·
          have e0 : pChk_c0 a w y = ((2 : Int)) := ((bif_f hq0 _ _).trans ((bif_f hq1 _ _).trans ((bif_f hq2 _ _).trans ((bif_t hq3 _ _).trans rfl)))); rw [e0]; exact pChk_p3 a w y hq0 hq1 hq2 hq3
        ·
          rcases Bool.eq_false_or_eq_true (decide (y < (-1 : Int))) with hq4 | hq4
          ·
            have e0 : pChk_c0 a w y = ((2 : Int)) := ((bif_f hq0 _ _).trans ((bif_f hq1 _ _).trans ((bif_f hq2 _ _).trans ((bif_f hq3 _ _).trans ((bif_t hq4 _ _).trans rfl))))); rw [e0]; exact pChk_p4 a w y hq0 hq1 hq2 hq3 hq4
          ·
            rcases Bool.eq_false_or_eq_true (decide (y > (1 : Int))) with hq5 | hq5
            ·
              have e0 : pChk_c0 a w y = ((2 : Int)) := ((bif_f hq0 _ _).trans ((bif_f hq1 _ _).trans ((bif_f hq2 _ _).trans ((bif_f hq3 _ _).trans ((bif_f hq4 _ _).trans ((bif_t hq5 _ _).trans rfl)))))); rw [e0]; exact pChk_p5 a w y hq0 hq1 hq2 hq3 hq4 hq5
            ·
              rcases Bool.eq_false_or_eq_true (y != (1 : Int)) with hq6 | hq6
              ·
                rcases Bool.eq_false_or_eq_true (y != (-1 : Int)) with hq7 | hq7
                ·
                  have e0 : pChk_c0 a w y = ((0 : Int)) := ((bif_f hq0 _ _).trans ((bif_f hq1 _ _).trans ((bif_f hq2 _ _).trans ((bif_f hq3 _ _).trans ((bif_f hq4 _ _).trans ((bif_f hq5 _ _).trans ((bif_t hq6 _ _).trans ((bif_t hq7 _ _).trans rfl)))))))); rw [e0]; exact pChk_p6 a w y hq0 hq1 hq2 hq3 hq4 hq5 hq6 hq7
                ·
                  rcases Bool.eq_false_or_eq_true (!decide (a > (0 : Int))) with hq8 | hq8
                  ·
                    have e0 : pChk_c0 a w y = ((3 : Int)) := ((bif_f hq0 _ _).trans ((bif_f hq1 _ _).trans ((bif_f hq2 _ _).trans ((bif_f hq3 _ _).trans ((bif_f hq4 _ _).trans ((bif_f hq5 _ _).trans ((bif_t hq6 _ _).trans ((bif_f hq7 _ _).trans ((bif_t hq8 _ _).trans rfl))))))))); rw [e0]; exact pChk_p7 a w y hq0 hq1 hq2 hq3 hq4 hq5 hq6 hq7 hq8
                  ·
                    have e0 : pChk_c0 a w y = ((0 : Int)) := ((bif_f hq0 _ _).trans ((bif_f hq1 _ _).trans ((bif_f hq2 _ _).trans ((bif_f hq3 _ _).trans ((bif_f hq4 _ _).trans ((bif_f hq5 _ _).trans ((bif_t hq6 _ _).trans ((bif_f hq7 _ _).trans ((bif_f hq8 _ _).trans rfl))))))))); rw [e0]; exact pChk_p8 a w y hq0 hq1 hq2 hq3 hq4 hq5 hq6 hq7 hq8
              ·
                rcases Bool.eq_false_or_eq_true (decide (a < w)) with hq9 | hq9
                ·
                  have hq7 : (y != (-1 : Int)) = true := by
                    rcases Bool.eq_false_or_eq_true (y != (-1 : Int)) with h | h
                    · exact h
                    · exfalso; (first | (simp_all only [Bool.and_eq_true, Bool.not_eq_true', Bool.false_eq_true, Bool.true_eq_false, reduceCtorEq]; done) | (simp_all; done) | (simp only [sx, sy, eq_self, ne_eq, IntKind.wrap_i64, wrapU64, Int.reduceLT] at * <;> first | contradiction | omega))
                  have e0 : pChk_c0 a w y = ((0 : Int)) := ((bif_f hq0 _ _).trans ((bif_f hq1 _ _).trans ((bif_f hq2 _ _).trans ((bif_f hq3 _ _).trans ((bif_f hq4 _ _).trans ((bif_f hq5 _ _).trans ((bif_f hq6 _ _).trans ((bif_t hq9 _ _).trans rfl)))))))); rw [e0]; exact pChk_p9 a w y hq0 hq1 hq2 hq3 hq4 hq5 hq6 hq9 hq7
                ·
                  have e0 : pChk_c0 a w y = ((3 : Int)) := ((bif_f hq0 _ _).trans ((bif_f hq1 _ _).trans ((bif_f hq2 _ _).trans ((bif_f hq3 _ _).trans ((bif_f hq4 _ _).trans ((bif_f hq5 _ _).trans ((bif_f hq6 _ _).trans ((bif_f hq9 _ _).trans rfl)))))))); rw [e0]; exact pChk_p10 a w y hq0 hq1 hq2 hq3 hq4 hq5 hq6 hq9
noncomputable def pChk_k : List Value → Option Value
  | [.agg ⟨[.int .i64 a, .int .i64 w, .int .i64 y]⟩] => some (.int .i64 (pChk_c0 a w y))
  | _ => none
theorem pChk_ok : ∀ args v, pChk_k args = some v → Known Try.prog [] 11 args v := by
  intro args v h
  unfold pChk_k at h
  split at h
  · injection h with h; subst h; exact pChk _ _ _
  · cases h

noncomputable def rChk_c0 (a w y : Int) : Int := (bif (decide (w < (1 : Int))) then ((2 : Int)) else (bif (decide (w > (20 : Int))) then ((2 : Int)) else (bif (decide (a < (0 : Int))) then ((2 : Int)) else (bif (decide (a > w)) then ((2 : Int)) else (bif (decide (y < (-1 : Int))) then ((2 : Int)) else (bif (decide (y > (1 : Int))) then ((2 : Int)) else (bif (y == (1 : Int)) then (bif (a == w) then ((3 : Int)) else ((0 : Int))) else (bif (y == (-1 : Int)) then (bif (a == (0 : Int)) then ((3 : Int)) else ((0 : Int))) else ((0 : Int))))))))))
theorem rChk_p0 (a w y : Int)  (hq0 : (decide (w < (1 : Int))) = true) : Known Try.prog [] 12 [.agg #[.int .i64 a, .int .i64 w, .int .i64 y]] (.int .i64 ((2 : Int))) :=
  open_res mix GOk.none (T := GTab.none) (fuel := 3000) (ans := [(0, .b 1)]) (log := [(decide (w < (1 : Int))) = true]) (by kernel_rfl) ⟨hq0, trivial⟩ (by kernel_rfl)
theorem rChk_p1 (a w y : Int)  (hq0 : (decide (w < (1 : Int))) = false) (hq1 : (decide (w > (20 : Int))) = true) : Known Try.prog [] 12 [.agg #[.int .i64 a, .int .i64 w, .int .i64 y]] (.int .i64 ((2 : Int))) :=
  open_res mix GOk.none (T := GTab.none) (fuel := 3000) (ans := [(0, .b 0), (4, .b 1)]) (log := [(decide (w > (20 : Int))) = true, (decide (w < (1 : Int))) = false]) (by kernel_rfl) ⟨hq1, hq0, trivial⟩ (by kernel_rfl)
theorem rChk_p2 (a w y : Int)  (hq0 : (decide (w < (1 : Int))) = false) (hq1 : (decide (w > (20 : Int))) = false) (hq2 : (decide (a < (0 : Int))) = true) : Known Try.prog [] 12 [.agg #[.int .i64 a, .int .i64 w, .int .i64 y]] (.int .i64 ((2 : Int))) :=
  open_res mix GOk.none (T := GTab.none) (fuel := 3000) (ans := [(0, .b 0), (4, .b 0), (8, .b 1)]) (log := [(decide (a < (0 : Int))) = true, (decide (w > (20 : Int))) = false, (decide (w < (1 : Int))) = false]) (by kernel_rfl) ⟨hq2, hq1, hq0, trivial⟩ (by kernel_rfl)
theorem rChk_p3 (a w y : Int)  (hq0 : (decide (w < (1 : Int))) = false) (hq1 : (decide (w > (20 : Int))) = false) (hq2 : (decide (a < (0 : Int))) = false) (hq3 : (decide (a > w)) = true) : Known Try.prog [] 12 [.agg #[.int .i64 a, .int .i64 w, .int .i64 y]] (.int .i64 ((2 : Int))) :=
  open_res mix GOk.none (T := GTab.none) (fuel := 3000) (ans := [(0, .b 0), (4, .b 0), (8, .b 0), (14, .b 1)]) (log := [(decide (a > w)) = true, (decide (a < (0 : Int))) = false, (decide (w > (20 : Int))) = false, (decide (w < (1 : Int))) = false]) (by kernel_rfl) ⟨hq3, hq2, hq1, hq0, trivial⟩ (by kernel_rfl)
theorem rChk_p4 (a w y : Int)  (hq0 : (decide (w < (1 : Int))) = false) (hq1 : (decide (w > (20 : Int))) = false) (hq2 : (decide (a < (0 : Int))) = false) (hq3 : (decide (a > w)) = false) (hq4 : (decide (y < (-1 : Int))) = true) : Known Try.prog [] 12 [.agg #[.int .i64 a, .int .i64 w, .int .i64 y]] (.int .i64 ((2 : Int))) :=
  open_res mix GOk.none (T := GTab.none) (fuel := 3000) (ans := [(0, .b 0), (4, .b 0), (8, .b 0), (14, .b 0), (18, .b 1)]) (log := [(decide (y < (-1 : Int))) = true, (decide (a > w)) = false, (decide (a < (0 : Int))) = false, (decide (w > (20 : Int))) = false, (decide (w < (1 : Int))) = false]) (by kernel_rfl) ⟨hq4, hq3, hq2, hq1, hq0, trivial⟩ (by kernel_rfl)
theorem rChk_p5 (a w y : Int)  (hq0 : (decide (w < (1 : Int))) = false) (hq1 : (decide (w > (20 : Int))) = false) (hq2 : (decide (a < (0 : Int))) = false) (hq3 : (decide (a > w)) = false) (hq4 : (decide (y < (-1 : Int))) = false) (hq5 : (decide (y > (1 : Int))) = true) : Known Try.prog [] 12 [.agg #[.int .i64 a, .int .i64 w, .int .i64 y]] (.int .i64 ((2 : Int))) :=
  open_res mix GOk.none (T := GTab.none) (fuel := 3000) (ans := [(0, .b 0), (4, .b 0), (8, .b 0), (14, .b 0), (18, .b 0), (22, .b 1)]) (log := [(decide (y > (1 : Int))) = true, (decide (y < (-1 : Int))) = false, (decide (a > w)) = false, (decide (a < (0 : Int))) = false, (decide (w > (20 : Int))) = false, (decide (w < (1 : Int))) = false]) (by kernel_rfl) ⟨hq5, hq4, hq3, hq2, hq1, hq0, trivial⟩ (by kernel_rfl)
theorem rChk_p6 (a w y : Int)  (hq0 : (decide (w < (1 : Int))) = false) (hq1 : (decide (w > (20 : Int))) = false) (hq2 : (decide (a < (0 : Int))) = false) (hq3 : (decide (a > w)) = false) (hq4 : (decide (y < (-1 : Int))) = false) (hq5 : (decide (y > (1 : Int))) = false) (hq6 : (y == (1 : Int)) = true) (hq7 : (a == w) = true) : Known Try.prog [] 12 [.agg #[.int .i64 a, .int .i64 w, .int .i64 y]] (.int .i64 ((3 : Int))) :=
  open_res mix GOk.none (T := GTab.none) (fuel := 3000) (ans := [(0, .b 0), (4, .b 0), (8, .b 0), (14, .b 0), (18, .b 0), (22, .b 0), (23, .b 1), (29, .b 1)]) (log := [(a == w) = true, (y == (1 : Int)) = true, (decide (y > (1 : Int))) = false, (decide (y < (-1 : Int))) = false, (decide (a > w)) = false, (decide (a < (0 : Int))) = false, (decide (w > (20 : Int))) = false, (decide (w < (1 : Int))) = false]) (by kernel_rfl) ⟨hq7, hq6, hq5, hq4, hq3, hq2, hq1, hq0, trivial⟩ (by kernel_rfl)
theorem rChk_p7 (a w y : Int)  (hq0 : (decide (w < (1 : Int))) = false) (hq1 : (decide (w > (20 : Int))) = false) (hq2 : (decide (a < (0 : Int))) = false) (hq3 : (decide (a > w)) = false) (hq4 : (decide (y < (-1 : Int))) = false) (hq5 : (decide (y > (1 : Int))) = false) (hq6 : (y == (1 : Int)) = true) (hq7 : (a == w) = false) (hq8 : (y == (-1 : Int)) = false) : Known Try.prog [] 12 [.agg #[.int .i64 a, .int .i64 w, .int .i64 y]] (.int .i64 ((0 : Int))) :=
  open_res mix GOk.none (T := GTab.none) (fuel := 3000) (ans := [(0, .b 0), (4, .b 0), (8, .b 0), (14, .b 0), (18, .b 0), (22, .b 0), (23, .b 1), (29, .b 0), (33, .b 0)]) (log := [(y == (-1 : Int)) = false, (a == w) = false, (y == (1 : Int)) = true, (decide (y > (1 : Int))) = false, (decide (y < (-1 : Int))) = false, (decide (a > w)) = false, (decide (a < (0 : Int))) = false, (decide (w > (20 : Int))) = false, (decide (w < (1 : Int))) = false]) (by kernel_rfl) ⟨hq8, hq7, hq6, hq5, hq4, hq3, hq2, hq1, hq0, trivial⟩ (by kernel_rfl)
theorem rChk_p8 (a w y : Int)  (hq0 : (decide (w < (1 : Int))) = false) (hq1 : (decide (w > (20 : Int))) = false) (hq2 : (decide (a < (0 : Int))) = false) (hq3 : (decide (a > w)) = false) (hq4 : (decide (y < (-1 : Int))) = false) (hq5 : (decide (y > (1 : Int))) = false) (hq6 : (y == (1 : Int)) = false) (hq8 : (y == (-1 : Int)) = true) (hq9 : (a == (0 : Int)) = true) : Known Try.prog [] 12 [.agg #[.int .i64 a, .int .i64 w, .int .i64 y]] (.int .i64 ((3 : Int))) :=
  open_res mix GOk.none (T := GTab.none) (fuel := 3000) (ans := [(0, .b 0), (4, .b 0), (8, .b 0), (14, .b 0), (18, .b 0), (22, .b 0), (23, .b 0), (33, .b 1), (39, .b 1)]) (log := [(a == (0 : Int)) = true, (y == (-1 : Int)) = true, (y == (1 : Int)) = false, (decide (y > (1 : Int))) = false, (decide (y < (-1 : Int))) = false, (decide (a > w)) = false, (decide (a < (0 : Int))) = false, (decide (w > (20 : Int))) = false, (decide (w < (1 : Int))) = false]) (by kernel_rfl) ⟨hq9, hq8, hq6, hq5, hq4, hq3, hq2, hq1, hq0, trivial⟩ (by kernel_rfl)
theorem rChk_p9 (a w y : Int)  (hq0 : (decide (w < (1 : Int))) = false) (hq1 : (decide (w > (20 : Int))) = false) (hq2 : (decide (a < (0 : Int))) = false) (hq3 : (decide (a > w)) = false) (hq4 : (decide (y < (-1 : Int))) = false) (hq5 : (decide (y > (1 : Int))) = false) (hq6 : (y == (1 : Int)) = false) (hq8 : (y == (-1 : Int)) = true) (hq9 : (a == (0 : Int)) = false) : Known Try.prog [] 12 [.agg #[.int .i64 a, .int .i64 w, .int .i64 y]] (.int .i64 ((0 : Int))) :=
  open_res mix GOk.none (T := GTab.none) (fuel := 3000) (ans := [(0, .b 0), (4, .b 0), (8, .b 0), (14, .b 0), (18, .b 0), (22, .b 0), (23, .b 0), (33, .b 1), (39, .b 0)]) (log := [(a == (0 : Int)) = false, (y == (-1 : Int)) = true, (y == (1 : Int)) = false, (decide (y > (1 : Int))) = false, (decide (y < (-1 : Int))) = false, (decide (a > w)) = false, (decide (a < (0 : Int))) = false, (decide (w > (20 : Int))) = false, (decide (w < (1 : Int))) = false]) (by kernel_rfl) ⟨hq9, hq8, hq6, hq5, hq4, hq3, hq2, hq1, hq0, trivial⟩ (by kernel_rfl)
theorem rChk_p10 (a w y : Int)  (hq0 : (decide (w < (1 : Int))) = false) (hq1 : (decide (w > (20 : Int))) = false) (hq2 : (decide (a < (0 : Int))) = false) (hq3 : (decide (a > w)) = false) (hq4 : (decide (y < (-1 : Int))) = false) (hq5 : (decide (y > (1 : Int))) = false) (hq6 : (y == (1 : Int)) = false) (hq8 : (y == (-1 : Int)) = false) : Known Try.prog [] 12 [.agg #[.int .i64 a, .int .i64 w, .int .i64 y]] (.int .i64 ((0 : Int))) :=
  open_res mix GOk.none (T := GTab.none) (fuel := 3000) (ans := [(0, .b 0), (4, .b 0), (8, .b 0), (14, .b 0), (18, .b 0), (22, .b 0), (23, .b 0), (33, .b 0)]) (log := [(y == (-1 : Int)) = false, (y == (1 : Int)) = false, (decide (y > (1 : Int))) = false, (decide (y < (-1 : Int))) = false, (decide (a > w)) = false, (decide (a < (0 : Int))) = false, (decide (w > (20 : Int))) = false, (decide (w < (1 : Int))) = false]) (by kernel_rfl) ⟨hq8, hq6, hq5, hq4, hq3, hq2, hq1, hq0, trivial⟩ (by kernel_rfl)
set_option maxHeartbeats 8000000 in
theorem rChk (a w y : Int)  : Known Try.prog [] 12 [.agg #[.int .i64 a, .int .i64 w, .int .i64 y]] (.int .i64 (rChk_c0 a w y)) := by
  rcases Bool.eq_false_or_eq_true (decide (w < (1 : Int))) with hq0 | hq0
  ·
    have e0 : rChk_c0 a w y = ((2 : Int)) := ((bif_t hq0 _ _).trans rfl); rw [e0]; exact rChk_p0 a w y hq0
  ·
    rcases Bool.eq_false_or_eq_true (decide (w > (20 : Int))) with hq1 | hq1
    ·
      have e0 : rChk_c0 a w y = ((2 : Int)) := ((bif_f hq0 _ _).trans ((bif_t hq1 _ _).trans rfl)); rw [e0]; exact rChk_p1 a w y hq0 hq1
    ·
      rcases Bool.eq_false_or_eq_true (decide (a < (0 : Int))) with hq2 | hq2
      ·
        have e0 : rChk_c0 a w y = ((2 : Int)) := ((bif_f hq0 _ _).trans ((bif_f hq1 _ _).trans ((bif_t hq2 _ _).trans rfl))); rw [e0]; exact rChk_p2 a w y hq0 hq1 hq2
      ·
        rcases Bool.eq_false_or_eq_true (decide (a > w)) with hq3 | hq3
        ·
          have e0 : rChk_c0 a w y = ((2 : Int)) := ((bif_f hq0 _ _).trans ((bif_f hq1 _ _).trans ((bif_f hq2 _ _).trans ((bif_t hq3 _ _).trans rfl)))); rw [e0]; exact rChk_p3 a w y hq0 hq1 hq2 hq3
        ·
          rcases Bool.eq_false_or_eq_true (decide (y < (-1 : Int))) with hq4 | hq4
          ·
            have e0 : rChk_c0 a w y = ((2 : Int)) := ((bif_f hq0 _ _).trans ((bif_f hq1 _ _).trans ((bif_f hq2 _ _).trans ((bif_f hq3 _ _).trans ((bif_t hq4 _ _).trans rfl))))); rw [e0]; exact rChk_p4 a w y hq0 hq1 hq2 hq3 hq4
          ·
            rcases Bool.eq_false_or_eq_true (decide (y > (1 : Int))) with hq5 | hq5
            ·
              have e0 : rChk_c0 a w y = ((2 : Int)) := ((bif_f hq0 _ _).trans ((bif_f hq1 _ _).trans ((bif_f hq2 _ _).trans ((bif_f hq3 _ _).trans ((bif_f hq4 _ _).trans ((bif_t hq5 _ _).trans rfl)))))); rw [e0]; exact rChk_p5 a w y hq0 hq1 hq2 hq3 hq4 hq5
            ·
              rcases Bool.eq_false_or_eq_true (y == (1 : Int)) with hq6 | hq6
              ·
                rcases Bool.eq_false_or_eq_true (a == w) with hq7 | hq7
                ·
                  have e0 : rChk_c0 a w y = ((3 : Int)) := ((bif_f hq0 _ _).trans ((bif_f hq1 _ _).trans ((bif_f hq2 _ _).trans ((bif_f hq3 _ _).trans ((bif_f hq4 _ _).trans ((bif_f hq5 _ _).trans ((bif_t hq6 _ _).trans ((bif_t hq7 _ _).trans rfl)))))))); rw [e0]; exact rChk_p6 a w y hq0 hq1 hq2 hq3 hq4 hq5 hq6 hq7
                ·
                  have hq8 : (y == (-1 : Int)) = false := by
                    rcases Bool.eq_false_or_eq_true (y == (-1 : Int)) with h | h
                    · exfalso; (first | (simp_all only [Bool.and_eq_true, Bool.not_eq_true', Bool.false_eq_true, Bool.true_eq_false, reduceCtorEq]; done) | (simp_all; done) | (simp only [sx, sy, eq_self, ne_eq, IntKind.wrap_i64, wrapU64, Int.reduceLT] at * <;> first | contradiction | omega))
                    · exact h
                  have e0 : rChk_c0 a w y = ((0 : Int)) := ((bif_f hq0 _ _).trans ((bif_f hq1 _ _).trans ((bif_f hq2 _ _).trans ((bif_f hq3 _ _).trans ((bif_f hq4 _ _).trans ((bif_f hq5 _ _).trans ((bif_t hq6 _ _).trans ((bif_f hq7 _ _).trans rfl)))))))); rw [e0]; exact rChk_p7 a w y hq0 hq1 hq2 hq3 hq4 hq5 hq6 hq7 hq8
              ·
                rcases Bool.eq_false_or_eq_true (y == (-1 : Int)) with hq8 | hq8
                ·
                  rcases Bool.eq_false_or_eq_true (a == (0 : Int)) with hq9 | hq9
                  ·
                    have e0 : rChk_c0 a w y = ((3 : Int)) := ((bif_f hq0 _ _).trans ((bif_f hq1 _ _).trans ((bif_f hq2 _ _).trans ((bif_f hq3 _ _).trans ((bif_f hq4 _ _).trans ((bif_f hq5 _ _).trans ((bif_f hq6 _ _).trans ((bif_t hq8 _ _).trans ((bif_t hq9 _ _).trans rfl))))))))); rw [e0]; exact rChk_p8 a w y hq0 hq1 hq2 hq3 hq4 hq5 hq6 hq8 hq9
                  ·
                    have e0 : rChk_c0 a w y = ((0 : Int)) := ((bif_f hq0 _ _).trans ((bif_f hq1 _ _).trans ((bif_f hq2 _ _).trans ((bif_f hq3 _ _).trans ((bif_f hq4 _ _).trans ((bif_f hq5 _ _).trans ((bif_f hq6 _ _).trans ((bif_t hq8 _ _).trans ((bif_f hq9 _ _).trans rfl))))))))); rw [e0]; exact rChk_p9 a w y hq0 hq1 hq2 hq3 hq4 hq5 hq6 hq8 hq9
                ·
                  have e0 : rChk_c0 a w y = ((0 : Int)) := ((bif_f hq0 _ _).trans ((bif_f hq1 _ _).trans ((bif_f hq2 _ _).trans ((bif_f hq3 _ _).trans ((bif_f hq4 _ _).trans ((bif_f hq5 _ _).trans ((bif_f hq6 _ _).trans ((bif_f hq8 _ _).trans rfl)))))))); rw [e0]; exact rChk_p10 a w y hq0 hq1 hq2 hq3 hq4 hq5 hq6 hq8
noncomputable def rChk_k : List Value → Option Value
  | [.agg ⟨[.int .i64 a, .int .i64 w, .int .i64 y]⟩] => some (.int .i64 (rChk_c0 a w y))
  | _ => none
theorem rChk_ok : ∀ args v, rChk_k args = some v → Known Try.prog [] 12 args v := by
  intro args v h
  unfold rChk_k at h
  split at h
  · injection h with h; subst h; exact rChk _ _ _
  · cases h

noncomputable def pStep_c0 (a w y : Int) : Int := (IntKind.i64.wrap (a + y))
noncomputable def pStep_c1 (a w y : Int) : Int := (w)
noncomputable def pStep_c2 (a w y : Int) : Int := (bif (y != (1 : Int)) then (bif (y != (-1 : Int)) then (y) else (bif (!decide (IntKind.i64.wrap (a + y) > (0 : Int))) then ((0 : Int)) else (y))) else (bif (decide (IntKind.i64.wrap (a + y) < w)) then (y) else ((0 : Int))))
noncomputable def pStep_c3 (a w y : Int) : Int := (bif (y != (1 : Int)) then (bif (y != (-1 : Int)) then ((0 : Int)) else (bif (!decide (IntKind.i64.wrap (a + y) > (0 : Int))) then (y) else ((0 : Int)))) else (bif (decide (IntKind.i64.wrap (a + y) < w)) then ((0 : Int)) else (y)))
theorem pStep_p0 (a w y : Int) (h1 : 1 ≤ w ∧ w ≤ 20 ∧ 0 ≤ a ∧ a ≤ w ∧ -1 ≤ y ∧ y ≤ 1 ∧ (y ≠ 1 ∨ a < w) ∧ (y ≠ -1 ∨ 0 < a)) (hq0 : (y != (1 : Int)) = true) (hq1 : (y != (-1 : Int)) = true) : Known Try.prog [] 42 [.agg #[.int .i64 a, .int .i64 w, .int .i64 y]] (.tuple #[(.agg #[(.int .i64 (IntKind.i64.wrap (a + y))), (.int .i64 (w)), (.int .i64 (y))]), (.int .i64 ((0 : Int)))]) :=
  open_res mix GOk.none (T := GTab.none) (fuel := 3000) (ans := [(0, .b 1), (10, .b 1)]) (log := [(y != (-1 : Int)) = true, (y != (1 : Int)) = true]) (by kernel_rfl) ⟨hq1, hq0, trivial⟩ (by kernel_rfl)
theorem pStep_p1 (a w y : Int) (h1 : 1 ≤ w ∧ w ≤ 20 ∧ 0 ≤ a ∧ a ≤ w ∧ -1 ≤ y ∧ y ≤ 1 ∧ (y ≠ 1 ∨ a < w) ∧ (y ≠ -1 ∨ 0 < a)) (hq0 : (y != (1 : Int)) = true) (hq1 : (y != (-1 : Int)) = false) (hq2 : (!decide (IntKind.i64.wrap (a + y) > (0 : Int))) = true) : Known Try.prog [] 42 [.agg #[.int .i64 a, .int .i64 w, .int .i64 y]] (.tuple #[(.agg #[(.int .i64 (IntKind.i64.wrap (a + y))), (.int .i64 (w)), (.int .i64 ((0 : Int)))]), (.int .i64 (y))]) :=
  open_res mix GOk.none (T := GTab.none) (fuel := 3000) (ans := [(0, .b 1), (10, .b 0), (16, .b 1)]) (log := [(!decide (IntKind.i64.wrap (a + y) > (0 : Int))) = true, (y != (-1 : Int)) = false, (y != (1 : Int)) = true]) (by kernel_rfl) ⟨hq2, hq1, hq0, trivial⟩ (by kernel_rfl)
theorem pStep_p2 (a w y : Int) (h1 : 1 ≤ w ∧ w ≤ 20 ∧ 0 ≤ a ∧ a ≤ w ∧ -1 ≤ y ∧ y ≤ 1 ∧ (y ≠ 1 ∨ a < w) ∧ (y ≠ -1 ∨ 0 < a)) (hq0 : (y != (1 : Int)) = true) (hq1 : (y != (-1 : Int)) = false) (hq2 : (!decide (IntKind.i64.wrap (a + y) > (0 : Int))) = false) : Known Try.prog [] 42 [.agg #[.int .i64 a, .int .i64 w, .int .i64 y]] (.tuple #[(.agg #[(.int .i64 (IntKind.i64.wrap (a + y))), (.int .i64 (w)), (.int .i64 (y))]), (.int .i64 ((0 : Int)))]) :=
  open_res mix GOk.none (T := GTab.none) (fuel := 3000) (ans := [(0, .b 1), (10, .b 0), (16, .b 0)]) (log := [(!decide (IntKind.i64.wrap (a + y) > (0 : Int))) = false, (y != (-1 : Int)) = false, (y != (1 : Int)) = true]) (by kernel_rfl) ⟨hq2, hq1, hq0, trivial⟩ (by kernel_rfl)
theorem pStep_p3 (a w y : Int) (h1 : 1 ≤ w ∧ w ≤ 20 ∧ 0 ≤ a ∧ a ≤ w ∧ -1 ≤ y ∧ y ≤ 1 ∧ (y ≠ 1 ∨ a < w) ∧ (y ≠ -1 ∨ 0 < a)) (hq0 : (y != (1 : Int)) = false) (hq3 : (decide (IntKind.i64.wrap (a + y) < w)) = true) (hq1 : (y != (-1 : Int)) = true) : Known Try.prog [] 42 [.agg #[.int .i64 a, .int .i64 w, .int .i64 y]] (.tuple #[(.agg #[(.int .i64 (IntKind.i64.wrap (a + y))), (.int .i64 (w)), (.int .i64 (y))]), (.int .i64 ((0 : Int)))]) :=
  open_res mix GOk.none (T := GTab.none) (fuel := 3000) (ans := [(0, .b 0), (6, .b 1), (10, .b 1)]) (log := [(y != (-1 : Int)) = true, (decide (IntKind.i64.wrap (a + y) < w)) = true, (y != (1 : Int)) = false]) (by kernel_rfl) ⟨hq1, hq3, hq0, trivial⟩ (by kernel_rfl)
theorem pStep_p4 (a w y : Int) (h1 : 1 ≤ w ∧ w ≤ 20 ∧ 0 ≤ a ∧ a ≤ w ∧ -1 ≤ y ∧ y ≤ 1 ∧ (y ≠ 1 ∨ a < w) ∧ (y ≠ -1 ∨ 0 < a)) (hq0 : (y != (1 : Int)) = false) (hq3 : (decide (IntKind.i64.wrap (a + y) < w)) = false) : Known Try.prog [] 42 [.agg #[.int .i64 a, .int .i64 w, .int .i64 y]] (.tuple #[(.agg #[(.int .i64 (IntKind.i64.wrap (a + y))), (.int .i64 (w)), (.int .i64 ((0 : Int)))]), (.int .i64 (y))]) :=
  open_res mix GOk.none (T := GTab.none) (fuel := 3000) (ans := [(0, .b 0), (6, .b 0)]) (log := [(decide (IntKind.i64.wrap (a + y) < w)) = false, (y != (1 : Int)) = false]) (by kernel_rfl) ⟨hq3, hq0, trivial⟩ (by kernel_rfl)
set_option maxHeartbeats 8000000 in
theorem pStep (a w y : Int) (h1 : 1 ≤ w ∧ w ≤ 20 ∧ 0 ≤ a ∧ a ≤ w ∧ -1 ≤ y ∧ y ≤ 1 ∧ (y ≠ 1 ∨ a < w) ∧ (y ≠ -1 ∨ 0 < a)) : Known Try.prog [] 42 [.agg #[.int .i64 a, .int .i64 w, .int .i64 y]] (.tuple #[(.agg #[(.int .i64 (pStep_c0 a w y)), (.int .i64 (pStep_c1 a w y)), (.int .i64 (pStep_c2 a w y))]), (.int .i64 (pStep_c3 a w y))]) := by
  rcases Bool.eq_false_or_eq_true (y != (1 : Int)) with hq0 | hq0
  ·
    rcases Bool.eq_false_or_eq_true (y != (-1 : Int)) with hq1 | hq1
    ·
      have e0 : pStep_c0 a w y = (IntKind.i64.wrap (a + y)) := rfl; rw [e0]; have e1 : pStep_c1 a w y = (w) := rfl; rw [e1]; have e2 : pStep_c2 a w y = (y) := ((bif_t hq0 _ _).trans ((bif_t hq1 _ _).trans rfl)); rw [e2]; have e3 : pStep_c3 a w y = ((0 : Int)) := ((bif_t hq0 _ _).trans ((bif_t hq1 _ _).trans rfl)); rw [e3]; exact pStep_p0 a w y h1 hq0 hq1
    ·
      rcases Bool.eq_false_or_eq_true (!decide (IntKind.i64.wrap (a + y) > (0 : Int))) with hq2 | hq2
      ·
        have e0 : pStep_c0 a w y = (IntKind.i64.wrap (a + y)) := rfl; rw [e0]; have e1 : pStep_c1 a w y = (w) := rfl; rw [e1]; have e2 : pStep_c2 a w y = ((0 : Int)) := ((bif_t hq0 _ _).trans ((bif_f hq1 _ _).trans ((bif_t hq2 _ _).trans rfl))); rw [e2]; have e3 : pStep_c3 a w y = (y) := ((bif_t hq0 _ _).trans ((bif_f hq1 _ _).trans ((bif_t hq2 _ _).trans rfl))); rw [e3]; exact pStep_p1 a w y h1 hq0 hq1 hq2
      ·
        have e0 : pStep_c0 a w y = (IntKind.i64.wrap (a + y)) := rfl; rw [e0]; have e1 : pStep_c1 a w y = (w) := rfl; rw [e1]; have e2 : pStep_c2 a w y = (y) := ((bif_t hq0 _ _).trans ((bif_f hq1 _ _).trans ((bif_f hq2 _ _).trans rfl))); rw [e2]; have e3 : pStep_c3 a w y = ((0 : Int)) := ((bif_t hq0 _ _).trans ((bif_f hq1 _ _).trans ((bif_f hq2 _ _).trans rfl))); rw [e3]; exact pStep_p2 a w y h1 hq0 hq1 hq2
  ·
    rcases Bool.eq_false_or_eq_true (decide (IntKind.i64.wrap (a + y) < w)) with hq3 | hq3
    ·
      have hq1 : (y != (-1 : Int)) = true := by
        rcases Bool.eq_false_or_eq_true (y != (-1 : Int)) with h | h
        · exact h
        · exfalso; (first | (simp_all only [Bool.and_eq_true, Bool.not_eq_true', Bool.false_eq_true, Bool.true_eq_false, reduceCtorEq]; done) | (simp_all; done) | (simp only [sx, sy, eq_self, ne_eq, IntKind.wrap_i64, wrapU64, Int.reduceLT] at * <;> first | contradiction | omega))
      have e0 : pStep_c0 a w y = (IntKind.i64.wrap (a + y)) := rfl; rw [e0]; have e1 : pStep_c1 a w y = (w) := rfl; rw [e1]; have e2 : pStep_c2 a w y = (y) := ((bif_f hq0 _ _).trans ((bif_t hq3 _ _).trans rfl)); rw [e2]; have e3 : pStep_c3 a w y = ((0 : Int)) := ((bif_f hq0 _ _).trans ((bif_t hq3 _ _).trans rfl)); rw [e3]; exact pStep_p3 a w y h1 hq0 hq3 hq1
    ·
      have e0 : pStep_c0 a w y = (IntKind.i64.wrap (a + y)) := rfl; rw [e0]; have e1 : pStep_c1 a w y = (w) := rfl; rw [e1]; have e2 : pStep_c2 a w y = ((0 : Int)) := ((bif_f hq0 _ _).trans ((bif_f hq3 _ _).trans rfl)); rw [e2]; have e3 : pStep_c3 a w y = (y) := ((bif_f hq0 _ _).trans ((bif_f hq3 _ _).trans rfl)); rw [e3]; exact pStep_p4 a w y h1 hq0 hq3

noncomputable def rTick_c0 (a w y : Int) : Int := (IntKind.i64.wrap (a + y))
noncomputable def rTick_c1 (a w y : Int) : Int := (w)
noncomputable def rTick_c2 (a w y : Int) : Int := (bif (y == (1 : Int)) then (bif (IntKind.i64.wrap (a + y) == w) then ((0 : Int)) else (y)) else (bif (y == (-1 : Int)) then (bif (IntKind.i64.wrap (a + y) == (0 : Int)) then ((0 : Int)) else (y)) else (y)))
noncomputable def rTick_c3 (a w y : Int) : Int := (bif (y == (1 : Int)) then (bif (IntKind.i64.wrap (a + y) == w) then (y) else ((0 : Int))) else (bif (y == (-1 : Int)) then (bif (IntKind.i64.wrap (a + y) == (0 : Int)) then (y) else ((0 : Int))) else ((0 : Int))))
theorem rTick_p0 (a w y : Int) (h1 : 1 ≤ w ∧ w ≤ 20 ∧ 0 ≤ a ∧ a ≤ w ∧ -1 ≤ y ∧ y ≤ 1 ∧ (y ≠ 1 ∨ a < w) ∧ (y ≠ -1 ∨ 0 < a)) (hq0 : (decide (w < (1 : Int))) = false) (hq1 : (decide (w > (20 : Int))) = false) (hq2 : (decide (IntKind.i64.wrap (a + y) < (0 : Int))) = false) (hq3 : (decide (IntKind.i64.wrap (a + y) > w)) = false) (hq4 : (decide (y < (-1 : Int))) = false) (hq5 : (decide (y > (1 : Int))) = false) (hq6 : (y == (1 : Int)) = true) (hq7 : (IntKind.i64.wrap (a + y) == w) = true) : Known Try.prog [] 43 [.agg #[.int .i64 a, .int .i64 w, .int .i64 y]] (.tuple #[(.agg #[(.int .i64 (IntKind.i64.wrap (a + y))), (.int .i64 (w)), (.int .i64 ((0 : Int)))]), (.int .i64 (y))]) :=
  open_res mix GOk.none (T := GTab.none) (fuel := 3000) (ans := [(0, .b 0), (4, .b 0), (8, .b 0), (14, .b 0), (18, .b 0), (22, .b 0), (23, .b 1), (29, .b 1)]) (log := [(IntKind.i64.wrap (a + y) == w) = true, (y == (1 : Int)) = true, (decide (y > (1 : Int))) = false, (decide (y < (-1 : Int))) = false, (decide (IntKind.i64.wrap (a + y) > w)) = false, (decide (IntKind.i64.wrap (a + y) < (0 : Int))) = false, (decide (w > (20 : Int))) = false, (decide (w < (1 : Int))) = false]) (by kernel_rfl) ⟨hq7, hq6, hq5, hq4, hq3, hq2, hq1, hq0, trivial⟩ (by kernel_rfl)
theorem rTick_p1 (a w y : Int) (h1 : 1 ≤ w ∧ w ≤ 20 ∧ 0 ≤ a ∧ a ≤ w ∧ -1 ≤ y ∧ y ≤ 1 ∧ (y ≠ 1 ∨ a < w) ∧ (y ≠ -1 ∨ 0 < a)) (hq0 : (decide (w < (1 : Int))) = false) (hq1 : (decide (w > (20 : Int))) = false) (hq2 : (decide (IntKind.i64.wrap (a + y) < (0 : Int))) = false) (hq3 : (decide (IntKind.i64.wrap (a + y) > w)) = false) (hq4 : (decide (y < (-1 : Int))) = false) (hq5 : (decide (y > (1 : Int))) = false) (hq6 : (y == (1 : Int)) = true) (hq7 : (IntKind.i64.wrap (a + y) == w) = false) (hq8 : (y == (-1 : Int)) = false) : Known Try.prog [] 43 [.agg #[.int .i64 a, .int .i64 w, .int .i64 y]] (.tuple #[(.agg #[(.int .i64 (IntKind.i64.wrap (a + y))), (.int .i64 (w)), (.int .i64 (y))]), (.int .i64 ((0 : Int)))]) :=
  open_res mix GOk.none (T := GTab.none) (fuel := 3000) (ans := [(0, .b 0), (4, .b 0), (8, .b 0), (14, .b 0), (18, .b 0), (22, .b 0), (23, .b 1), (29, .b 0), (33, .b 0)]) (log := [(y == (-1 : Int)) = false, (IntKind.i64.wrap (a + y) == w) = false, (y == (1 : Int)) = true, (decide (y > (1 : Int))) = false, (decide (y < (-1 : Int))) = false, (decide (IntKind.i64.wrap (a + y) > w)) = false, (decide (IntKind.i64.wrap (a + y) < (0 : Int))) = false, (decide (w > (20 : Int))) = false, (decide (w < (1 : Int))) = false]) (by kernel_rfl) ⟨hq8, hq7, hq6, hq5, hq4, hq3, hq2, hq1, hq0, trivial⟩ (by kernel_rfl)
theorem rTick_p2 (a w y : Int) (h1 : 1 ≤ w ∧ w ≤ 20 ∧ 0 ≤ a ∧ a ≤ w ∧ -1 ≤ y ∧ y ≤ 1 ∧ (y ≠ 1 ∨ a < w) ∧ (y ≠ -1 ∨ 0 < a)) (hq0 : (decide (w < (1 : Int))) = false) (hq1 : (decide (w > (20 : Int))) = false) (hq2 : (decide (IntKind.i64.wrap (a + y) < (0 : Int))) = false) (hq3 : (decide (IntKind.i64.wrap (a + y) > w)) = false) (hq4 : (decide (y < (-1 : Int))) = false) (hq5 : (decide (y > (1 : Int))) = false) (hq6 : (y == (1 : Int)) = false) (hq8 : (y == (-1 : Int)) = true) (hq9 : (IntKind.i64.wrap (a + y) == (0 : Int)) = true) : Known Try.prog [] 43 [.agg #[.int .i64 a, .int .i64 w, .int .i64 y]] (.tuple #[(.agg #[(.int .i64 (IntKind.i64.wrap (a + y))), (.int .i64 (w)), (.int .i64 ((0 : Int)))]), (.int .i64 (y))]) :=
  open_res mix GOk.none (T := GTab.none) (fuel := 3000) (ans := [(0, .b 0), (4, .b 0), (8, .b 0), (14, .b 0), (18, .b 0), (22, .b 0), (23, .b 0), (33, .b 1), (39, .b 1)]) (log := [(IntKind.i64.wrap (a + y) == (0 : Int)) = true, (y == (-1 : Int)) = true, (y == (1 : Int)) = false, (decide (y > (1 : Int))) = false, (decide (y < (-1 : Int))) = false, (decide (IntKind.i64.wrap (a + y) > w)) = false, (decide (IntKind.i64.wrap (a + y) < (0 : Int))) = false, (decide (w > (20 : Int))) = false, (decide (w < (1 : Int))) = false]) (by kernel_rfl) ⟨hq9, hq8, hq6, hq5, hq4, hq3, hq2, hq1, hq0, trivial⟩ (by kernel_rfl)
theorem rTick_p3 (a w y : Int) (h1 : 1 ≤ w ∧ w ≤ 20 ∧ 0 ≤ a ∧ a ≤ w ∧ -1 ≤ y ∧ y ≤ 1 ∧ (y ≠ 1 ∨ a < w) ∧ (y ≠ -1 ∨ 0 < a)) (hq0 : (decide (w < (1 : Int))) = false) (hq1 : (decide (w > (20 : Int))) = false) (hq2 : (decide (IntKind.i64.wrap (a + y) < (0 : Int))) = false) (hq3 : (decide (IntKind.i64.wrap (a + y) > w)) = false) (hq4 : (decide (y < (-1 : Int))) = false) (hq5 : (decide (y > (1 : Int))) = false) (hq6 : (y == (1 : Int)) = false) (hq8 : (y == (-1 : Int)) = true) (hq9 : (IntKind.i64.wrap (a + y) == (0 : Int)) = false) : Known Try.prog [] 43 [.agg #[.int .i64 a, .int .i64 w, .int .i64 y]] (.tuple #[(.agg #[(.int .i64 (IntKind.i64.wrap (a + y))), (.int .i64 (w)), (.int .i64 (y))]), (.int .i64 ((0 : Int)))]) :=
  open_res mix GOk.none (T := GTab.none) (fuel := 3000) (ans := [(0, .b 0), (4, .b 0), (8, .b 0), (14, .b 0), (18, .b 0), (22, .b 0), (23, .b 0), (33, .b 1), (39, .b 0)]) (log := [(IntKind.i64.wrap (a + y) == (0 : Int)) = false, (y == (-1 : Int)) = true, (y == (1 : Int)) = false, (decide (y > (1 : Int))) = false, (decide (y < (-1 : Int))) = false, (decide (IntKind.i64.wrap (a + y) > w)) = false, (decide (IntKind.i64.wrap (a + y) < (0 : Int))) = false, (decide (w > (20 : Int))) = false, (decide (w < (1 : Int))) = false]) (by kernel_rfl) ⟨hq9, hq8, hq6, hq5, hq4, hq3, hq2, hq1, hq0, trivial⟩ (by kernel_rfl)
theorem rTick_p4 (a w y : Int) (h1 : 1 ≤ w ∧ w ≤ 20 ∧ 0 ≤ a ∧ a ≤ w ∧ -1 ≤ y ∧ y ≤ 1 ∧ (y ≠ 1 ∨ a < w) ∧ (y ≠ -1 ∨ 0 < a)) (hq0 : (decide (w < (1 : Int))) = false) (hq1 : (decide (w > (20 : Int))) = false) (hq2 : (decide (IntKind.i64.wrap (a + y) < (0 : Int))) = false) (hq3 : (decide (IntKind.i64.wrap (a + y) > w)) = false) (hq4 : (decide (y < (-1 : Int))) = false) (hq5 : (decide (y > (1 : Int))) = false) (hq6 : (y == (1 : Int)) = false) (hq8 : (y == (-1 : Int)) = false) : Known Try.prog [] 43 [.agg #[.int .i64 a, .int .i64 w, .int .i64 y]] (.tuple #[(.agg #[(.int .i64 (IntKind.i64.wrap (a + y))), (.int .i64 (w)), (.int .i64 (y))]), (.int .i64 ((0 : Int)))]) :=
  open_res mix GOk.none (T := GTab.none) (fuel := 3000) (ans := [(0, .b 0), (4, .b 0), (8, .b 0), (14, .b 0), (18, .b 0), (22, .b 0), (23, .b 0), (33, .b 0)]) (log := [(y == (-1 : Int)) = false, (y == (1 : Int)) = false, (decide (y > (1 : Int))) = false, (decide (y < (-1 : Int))) = false, (decide (IntKind.i64.wrap (a + y) > w)) = false, (decide (IntKind.i64.wrap (a + y) < (0 : Int))) = false, (decide (w > (20 : Int))) = false, (decide (w < (1 : Int))) = false]) (by kernel_rfl) ⟨hq8, hq6, hq5, hq4, hq3, hq2, hq1, hq0, trivial⟩ (by kernel_rfl)
set_option maxHeartbeats 8000000 in
theorem rTick (a w y : Int) (h1 : 1 ≤ w ∧ w ≤ 20 ∧ 0 ≤ a ∧ a ≤ w ∧ -1 ≤ y ∧ y ≤ 1 ∧ (y ≠ 1 ∨ a < w) ∧ (y ≠ -1 ∨ 0 < a)) : Known Try.prog [] 43 [.agg #[.int .i64 a, .int .i64 w, .int .i64 y]] (.tuple #[(.agg #[(.int .i64 (rTick_c0 a w y)), (.int .i64 (rTick_c1 a w y)), (.int .i64 (rTick_c2 a w y))]), (.int .i64 (rTick_c3 a w y))]) := by
  have hq0 : (decide (w < (1 : Int))) = false := by
    rcases Bool.eq_false_or_eq_true (decide (w < (1 : Int))) with h | h
    · exfalso; (first | (simp_all only [Bool.and_eq_true, Bool.not_eq_true', Bool.false_eq_true, Bool.true_eq_false, reduceCtorEq]; done) | (simp_all; done) | (simp only [sx, sy, eq_self, ne_eq, IntKind.wrap_i64, wrapU64, Int.reduceLT] at * <;> first | contradiction | omega))
    · exact h
  have hq1 : (decide (w > (20 : Int))) = false := by
    rcases Bool.eq_false_or_eq_true (decide (w > (20 : Int))) with h | h
    · exfalso; (first | (simp_all only [Bool.and_eq_true, Bool.not_eq_true', Bool.false_eq_true, Bool.true_eq_false, reduceCtorEq]; done) | (simp_all; done) | (simp only [sx, sy, eq_self, ne_eq, IntKind.wrap_i64, wrapU64, Int.reduceLT] at * <;> first | contradiction | omega))
    · exact h
  have hq2 : (decide (IntKind.i64.wrap (a + y) < (0 : Int))) = false := by
    rcases Bool.eq_false_or_eq_true (decide (IntKind.i64.wrap (a + y) < (0 : Int))) with h | h
    · exfalso; (first | (simp_all only [Bool.and_eq_true, Bool.not_eq_true', Bool.false_eq_true, Bool.true_eq_false, reduceCtorEq]; done) | (simp_all; done) | (simp only [sx, sy, eq_self, ne_eq, IntKind.wrap_i64, wrapU64, Int.reduceLT] at * <;> first | contradiction | omega))
    · exact h
  have hq3 : (decide (IntKind.i64.wrap (a + y) > w)) = false := by
    rcases Bool.eq_false_or_eq_true (decide (IntKind.i64.wrap (a + y) > w)) with h | h
    · exfalso; (first | (simp_all only [Bool.and_eq_true, Bool.not_eq_true', Bool.false_eq_true, Bool.true_eq_false, reduceCtorEq]; done) | (simp_all; done) | (simp only [sx, sy, eq_self, ne_eq, IntKind.wrap_i64, wrapU64, Int.reduceLT] at * <;> first | contradiction | omega))
    · exact h
  have hq4 : (decide (y < (-1 : Int))) = false := by
    rcases Bool.eq_false_or_eq_true (decide (y < (-1 : Int))) with h | h
    · exfalso; (first | (simp_all only [Bool.and_eq_true, Bool.not_eq_true', Bool.false_eq_true, Bool.true_eq_false, reduceCtorEq]; done) | (simp_all; done) | (simp only [sx, sy, eq_self, ne_eq, IntKind.wrap_i64, wrapU64, Int.reduceLT] at * <;> first | contradiction | omega))
    · exact h
  have hq5 : (decide (y > (1 : Int))) = false := by
    rcases Bool.eq_false_or_eq_true (decide (y > (1 : Int))) with h | h
    · exfalso; (first | (simp_all only [Bool.and_eq_true, Bool.not_eq_true', Bool.false_eq_true, Bool.true_eq_false, reduceCtorEq]; done) | (simp_all; done) | (simp only [sx, sy, eq_self, ne_eq, IntKind.wrap_i64, wrapU64, Int.reduceLT] at * <;> first | contradiction | omega))
    · exact h
  rcases Bool.eq_false_or_eq_true (y == (1 : Int)) with hq6 | hq6
  ·
    rcases Bool.eq_false_or_eq_true (IntKind.i64.wrap (a + y) == w) with hq7 | hq7
    ·
      have e0 : rTick_c0 a w y = (IntKind.i64.wrap (a + y)) := rfl; rw [e0]; have e1 : rTick_c1 a w y = (w) := rfl; rw [e1]; have e2 : rTick_c2 a w y = ((0 : Int)) := ((bif_t hq6 _ _).trans ((bif_t hq7 _ _).trans rfl)); rw [e2]; have e3 : rTick_c3 a w y = (y) := ((bif_t hq6 _ _).trans ((bif_t hq7 _ _).trans rfl)); rw [e3]; exact rTick_p0 a w y h1 hq0 hq1 hq2 hq3 hq4 hq5 hq6 hq7
    ·
      have hq8 : (y == (-1 : Int)) = false := by
        rcases Bool.eq_false_or_eq_true (y == (-1 : Int)) with h | h
        · exfalso; (first | (simp_all only [Bool.and_eq_true, Bool.not_eq_true', Bool.false_eq_true, Bool.true_eq_false, reduceCtorEq]; done) | (simp_all; done) | (simp only [sx, sy, eq_self, ne_eq, IntKind.wrap_i64, wrapU64, Int.reduceLT] at * <;> first | contradiction | omega))
        · exact h
      have e0 : rTick_c0 a w y = (IntKind.i64.wrap (a + y)) := rfl; rw [e0]; have e1 : rTick_c1 a w y = (w) := rfl; rw [e1]; have e2 : rTick_c2 a w y = (y) := ((bif_t hq6 _ _).trans ((bif_f hq7 _ _).trans rfl)); rw [e2]; have e3 : rTick_c3 a w y = ((0 : Int)) := ((bif_t hq6 _ _).trans ((bif_f hq7 _ _).trans rfl)); rw [e3]; exact rTick_p1 a w y h1 hq0 hq1 hq2 hq3 hq4 hq5 hq6 hq7 hq8
  ·
    rcases Bool.eq_false_or_eq_true (y == (-1 : Int)) with hq8 | hq8
    ·
      rcases Bool.eq_false_or_eq_true (IntKind.i64.wrap (a + y) == (0 : Int)) with hq9 | hq9
      ·
        have e0 : rTick_c0 a w y = (IntKind.i64.wrap (a + y)) := rfl; rw [e0]; have e1 : rTick_c1 a w y = (w) := rfl; rw [e1]; have e2 : rTick_c2 a w y = ((0 : Int)) := ((bif_f hq6 _ _).trans ((bif_t hq8 _ _).trans ((bif_t hq9 _ _).trans rfl))); rw [e2]; have e3 : rTick_c3 a w y = (y) := ((bif_f hq6 _ _).trans ((bif_t hq8 _ _).trans ((bif_t hq9 _ _).trans rfl))); rw [e3]; exact rTick_p2 a w y h1 hq0 hq1 hq2 hq3 hq4 hq5 hq6 hq8 hq9
      ·
        have e0 : rTick_c0 a w y = (IntKind.i64.wrap (a + y)) := rfl; rw [e0]; have e1 : rTick_c1 a w y = (w) := rfl; rw [e1]; have e2 : rTick_c2 a w y = (y) := ((bif_f hq6 _ _).trans ((bif_t hq8 _ _).trans ((bif_f hq9 _ _).trans rfl))); rw [e2]; have e3 : rTick_c3 a w y = ((0 : Int)) := ((bif_f hq6 _ _).trans ((bif_t hq8 _ _).trans ((bif_f hq9 _ _).trans rfl))); rw [e3]; exact rTick_p3 a w y h1 hq0 hq1 hq2 hq3 hq4 hq5 hq6 hq8 hq9
    ·
      have e0 : rTick_c0 a w y = (IntKind.i64.wrap (a + y)) := rfl; rw [e0]; have e1 : rTick_c1 a w y = (w) := rfl; rw [e1]; have e2 : rTick_c2 a w y = (y) := ((bif_f hq6 _ _).trans ((bif_f hq8 _ _).trans rfl)); rw [e2]; have e3 : rTick_c3 a w y = ((0 : Int)) := ((bif_f hq6 _ _).trans ((bif_f hq8 _ _).trans rfl)); rw [e3]; exact rTick_p4 a w y h1 hq0 hq1 hq2 hq3 hq4 hq5 hq6 hq8

noncomputable def pOb_c0 (a w y o : Int) : Int := (a)
noncomputable def pOb_c1 (a w y o : Int) : Int := (w)
noncomputable def pOb_c2 (a w y o : Int) : Int := (bif (o == (4 : Int)) then (bif (IntKind.i64.wrap ((0 : Int) - y) != (1 : Int)) then (bif (IntKind.i64.wrap ((0 : Int) - y) != (-1 : Int)) then (IntKind.i64.wrap ((0 : Int) - y)) else (bif (!decide (a > (0 : Int))) then ((0 : Int)) else (IntKind.i64.wrap ((0 : Int) - y)))) else (bif (decide (a < w)) then (IntKind.i64.wrap ((0 : Int) - y)) else ((0 : Int)))) else (bif (o == (0 : Int)) then (y) else (bif (o == (1 : Int)) then (bif (decide (a < w)) then ((1 : Int)) else ((0 : Int))) else (bif (o == (2 : Int)) then (bif (!decide (a > (0 : Int))) then ((0 : Int)) else ((-1 : Int))) else ((0 : Int))))))
theorem pOb_p0 (a w y o : Int) (h1 : 1 ≤ w ∧ w ≤ 20 ∧ 0 ≤ a ∧ a ≤ w ∧ -1 ≤ y ∧ y ≤ 1 ∧ (y ≠ 1 ∨ a < w) ∧ (y ≠ -1 ∨ 0 < a)) (h2 : 0 ≤ o ∧ o ≤ 4) (hq0 : (o == (4 : Int)) = true) (hq1 : (IntKind.i64.wrap ((0 : Int) - y) != (1 : Int)) = true) (hq2 : (IntKind.i64.wrap ((0 : Int) - y) != (-1 : Int)) = true) : Known Try.prog [] 40 [.agg #[.int .i64 a, .int .i64 w, .int .i64 y], .int .i64 o] (.agg #[(.int .i64 (a)), (.int .i64 (w)), (.int .i64 (IntKind.i64.wrap ((0 : Int) - y)))]) :=
  open_res mix GOk.none (T := GTab.none) (fuel := 3000) (ans := [(0, .b 1), (1, .b 1), (11, .b 1)]) (log := [(IntKind.i64.wrap ((0 : Int) - y) != (-1 : Int)) = true, (IntKind.i64.wrap ((0 : Int) - y) != (1 : Int)) = true, (o == (4 : Int)) = true]) (by kernel_rfl) ⟨hq2, hq1, hq0, trivial⟩ (by kernel_rfl)
theorem pOb_p1 (a w y o : Int) (h1 : 1 ≤ w ∧ w ≤ 20 ∧ 0 ≤ a ∧ a ≤ w ∧ -1 ≤ y ∧ y ≤ 1 ∧ (y ≠ 1 ∨ a < w) ∧ (y ≠ -1 ∨ 0 < a)) (h2 : 0 ≤ o ∧ o ≤ 4) (hq0 : (o == (4 : Int)) = true) (hq1 : (IntKind.i64.wrap ((0 : Int) - y) != (1 : Int)) = true) (hq2 : (IntKind.i64.wrap ((0 : Int) - y) != (-1 : Int)) = false) (hq3 : (!decide (a > (0 : Int))) = true) : Known Try.prog [] 40 [.agg #[.int .i64 a, .int .i64 w, .int .i64 y], .int .i64 o] (.agg #[(.int .i64 (a)), (.int .i64 (w)), (.int .i64 ((0 : Int)))]) :=
  open_res mix GOk.none (T := GTab.none) (fuel := 3000) (ans := [(0, .b 1), (1, .b 1), (11, .b 0), (17, .b 1)]) (log := [(!decide (a > (0 : Int))) = true, (IntKind.i64.wrap ((0 : Int) - y) != (-1 : Int)) = false, (IntKind.i64.wrap ((0 : Int) - y) != (1 : Int)) = true, (o == (4 : Int)) = true]) (by kernel_rfl) ⟨hq3, hq2, hq1, hq0, trivial⟩ (by kernel_rfl)
theorem pOb_p2 (a w y o : Int) (h1 : 1 ≤ w ∧ w ≤ 20 ∧ 0 ≤ a ∧ a ≤ w ∧ -1 ≤ y ∧ y ≤ 1 ∧ (y ≠ 1 ∨ a < w) ∧ (y ≠ -1 ∨ 0 < a)) (h2 : 0 ≤ o ∧ o ≤ 4) (hq0 : (o == (4 : Int)) = true) (hq1 : (IntKind.i64.wrap ((0 : Int) - y) != (1 : Int)) = true) (hq2 : (IntKind.i64.wrap ((0 : Int) - y) != (-1 : Int)) = false) (hq3 : (!decide (a > (0 : Int))) = false) : Known Try.prog [] 40 [.agg #[.int .i64 a, .int .i64 w, .int .i64 y], .int .i64 o] (.agg #[(.int .i64 (a)), (.int .i64 (w)), (.int .i64 (IntKind.i64.wrap ((0 : Int) - y)))]) :=
  open_res mix GOk.none (T := GTab.none) (fuel := 3000) (ans := [(0, .b 1), (1, .b 1), (11, .b 0), (17, .b 0)]) (log := [(!decide (a > (0 : Int))) = false, (IntKind.i64.wrap ((0 : Int) - y) != (-1 : Int)) = false, (IntKind.i64.wrap ((0 : Int) - y) != (1 : Int)) = true, (o == (4 : Int)) = true]) (by kernel_rfl) ⟨hq3, hq2, hq1, hq0, trivial⟩ (by kernel_rfl)
theorem pOb_p3 (a w y o : Int) (h1 : 1 ≤ w ∧ w ≤ 20 ∧ 0 ≤ a ∧ a ≤ w ∧ -1 ≤ y ∧ y ≤ 1 ∧ (y ≠ 1 ∨ a < w) ∧ (y ≠ -1 ∨ 0 < a)) (h2 : 0 ≤ o ∧ o ≤ 4) (hq0 : (o == (4 : Int)) = true) (hq1 : (IntKind.i64.wrap ((0 : Int) - y) != (1 : Int)) = false) (hq4 : (decide (a < w)) = true) (hq2 : (IntKind.i64.wrap ((0 : Int) - y) != (-1 : Int)) = true) : Known Try.prog [] 40 [.agg #[.int .i64 a, .int .i64 w, .int .i64 y], .int .i64 o] (.agg #[(.int .i64 (a)), (.int .i64 (w)), (.int .i64 (IntKind.i64.wrap ((0 : Int) - y)))]) :=
  open_res mix GOk.none (T := GTab.none) (fuel := 3000) (ans := [(0, .b 1), (1, .b 0), (7, .b 1), (11, .b 1)]) (log := [(IntKind.i64.wrap ((0 : Int) - y) != (-1 : Int)) = true, (decide (a < w)) = true, (IntKind.i64.wrap ((0 : Int) - y) != (1 : Int)) = false, (o == (4 : Int)) = true]) (by kernel_rfl) ⟨hq2, hq4, hq1, hq0, trivial⟩ (by kernel_rfl)
theorem pOb_p4 (a w y o : Int) (h1 : 1 ≤ w ∧ w ≤ 20 ∧ 0 ≤ a ∧ a ≤ w ∧ -1 ≤ y ∧ y ≤ 1 ∧ (y ≠ 1 ∨ a < w) ∧ (y ≠ -1 ∨ 0 < a)) (h2 : 0 ≤ o ∧ o ≤ 4) (hq0 : (o == (4 : Int)) = true) (hq1 : (IntKind.i64.wrap ((0 : Int) - y) != (1 : Int)) = false) (hq4 : (decide (a < w)) = false) : Known Try.prog [] 40 [.agg #[.int .i64 a, .int .i64 w, .int .i64 y], .int .i64 o] (.agg #[(.int .i64 (a)), (.int .i64 (w)), (.int .i64 ((0 : Int)))]) :=
  open_res mix GOk.none (T := GTab.none) (fuel := 3000) (ans := [(0, .b 1), (1, .b 0), (7, .b 0)]) (log := [(decide (a < w)) = false, (IntKind.i64.wrap ((0 : Int) - y) != (1 : Int)) = false, (o == (4 : Int)) = true]) (by kernel_rfl) ⟨hq4, hq1, hq0, trivial⟩ (by kernel_rfl)
theorem pOb_p5 (a w y o : Int) (h1 : 1 ≤ w ∧ w ≤ 20 ∧ 0 ≤ a ∧ a ≤ w ∧ -1 ≤ y ∧ y ≤ 1 ∧ (y ≠ 1 ∨ a < w) ∧ (y ≠ -1 ∨ 0 < a)) (h2 : 0 ≤ o ∧ o ≤ 4) (hq0 : (o == (4 : Int)) = false) (hq5 : (o == (0 : Int)) = true) (hq6 : (y != (1 : Int)) = true) (hq7 : (y != (-1 : Int)) = true) : Known Try.prog [] 40 [.agg #[.int .i64 a, .int .i64 w, .int .i64 y], .int .i64 o] (.agg #[(.int .i64 (a)), (.int .i64 (w)), (.int .i64 (y))]) :=
  open_res mix GOk.none (T := GTab.none) (fuel := 3000) (ans := [(0, .b 0), (1, .b 1), (2, .b 1), (12, .b 1)]) (log := [(y != (-1 : Int)) = true, (y != (1 : Int)) = true, (o == (0 : Int)) = true, (o == (4 : Int)) = false]) (by kernel_rfl) ⟨hq7, hq6, hq5, hq0, trivial⟩ (by kernel_rfl)
theorem pOb_p6 (a w y o : Int) (h1 : 1 ≤ w ∧ w ≤ 20 ∧ 0 ≤ a ∧ a ≤ w ∧ -1 ≤ y ∧ y ≤ 1 ∧ (y ≠ 1 ∨ a < w) ∧ (y ≠ -1 ∨ 0 < a)) (h2 : 0 ≤ o ∧ o ≤ 4) (hq0 : (o == (4 : Int)) = false) (hq5 : (o == (0 : Int)) = true) (hq6 : (y != (1 : Int)) = true) (hq7 : (y != (-1 : Int)) = false) (hq3 : (!decide (a > (0 : Int))) = false) : Known Try.prog [] 40 [.agg #[.int .i64 a, .int .i64 w, .int .i64 y], .int .i64 o] (.agg #[(.int .i64 (a)), (.int .i64 (w)), (.int .i64 (y))]) :=
  open_res mix GOk.none (T := GTab.none) (fuel := 3000) (ans := [(0, .b 0), (1, .b 1), (2, .b 1), (12, .b 0), (18, .b 0)]) (log := [(!decide (a > (0 : Int))) = false, (y != (-1 : Int)) = false, (y != (1 : Int)) = true, (o == (0 : Int)) = true, (o == (4 : Int)) = false]) (by kernel_rfl) ⟨hq3, hq7, hq6, hq5, hq0, trivial⟩ (by kernel_rfl)
theorem pOb_p7 (a w y o : Int) (h1 : 1 ≤ w ∧ w ≤ 20 ∧ 0 ≤ a ∧ a ≤ w ∧ -1 ≤ y ∧ y ≤ 1 ∧ (y ≠ 1 ∨ a < w) ∧ (y ≠ -1 ∨ 0 < a)) (h2 : 0 ≤ o ∧ o ≤ 4) (hq0 : (o == (4 : Int)) = false) (hq5 : (o == (0 : Int)) = true) (hq6 : (y != (1 : Int)) = false) (hq4 : (decide (a < w)) = true) (hq7 : (y != (-1 : Int)) = true) : Known Try.prog [] 40 [.agg #[.int .i64 a, .int .i64 w, .int .i64 y], .int .i64 o] (.agg #[(.int .i64 (a)), (.int .i64 (w)), (.int .i64 (y))]) :=
  open_res mix GOk.none (T := GTab.none) (fuel := 3000) (ans := [(0, .b 0), (1, .b 1), (2, .b 0), (8, .b 1), (12, .b 1)]) (log := [(y != (-1 : Int)) = true, (decide (a < w)) = true, (y != (1 : Int)) = false, (o == (0 : Int)) = true, (o == (4 : Int)) = false]) (by kernel_rfl) ⟨hq7, hq4, hq6, hq5, hq0, trivial⟩ (by kernel_rfl)
theorem pOb_p8 (a w y o : Int) (h1 : 1 ≤ w ∧ w ≤ 20 ∧ 0 ≤ a ∧ a ≤ w ∧ -1 ≤ y ∧ y ≤ 1 ∧ (y ≠ 1 ∨ a < w) ∧ (y ≠ -1 ∨ 0 < a)) (h2 : 0 ≤ o ∧ o ≤ 4) (hq0 : (o == (4 : Int)) = false) (hq5 : (o == (0 : Int)) = false) (hq8 : (o == (1 : Int)) = true) (hq4 : (decide (a < w)) = true) : Known Try.prog [] 40 [.agg #[.int .i64 a, .int .i64 w, .int .i64 y], .int .i64 o] (.agg #[(.int .i64 (a)), (.int .i64 (w)), (.int .i64 ((1 : Int)))]) :=
  open_res mix GOk.none (T := GTab.none) (fuel := 3000) (ans := [(0, .b 0), (1, .b 0), (2, .b 1), (9, .b 1)]) (log := [(decide (a < w)) = true, (o == (1 : Int)) = true, (o == (0 : Int)) = false, (o == (4 : Int)) = false]) (by kernel_rfl) ⟨hq4, hq8, hq5, hq0, trivial⟩ (by kernel_rfl)
theorem pOb_p9 (a w y o : Int) (h1 : 1 ≤ w ∧ w ≤ 20 ∧ 0 ≤ a ∧ a ≤ w ∧ -1 ≤ y ∧ y ≤ 1 ∧ (y ≠ 1 ∨ a < w) ∧ (y ≠ -1 ∨ 0 < a)) (h2 : 0 ≤ o ∧ o ≤ 4) (hq0 : (o == (4 : Int)) = false) (hq5 : (o == (0 : Int)) = false) (hq8 : (o == (1 : Int)) = true) (hq4 : (decide (a < w)) = false) : Known Try.prog [] 40 [.agg #[.int .i64 a, .int .i64 w, .int .i64 y], .int .i64 o] (.agg #[(.int .i64 (a)), (.int .i64 (w)), (.int .i64 ((0 : Int)))]) :=
  open_res mix GOk.none (T := GTab.none) (fuel := 3000) (ans := [(0, .b 0), (1, .b 0), (2, .b 1), (9, .b 0)]) (log := [(decide (a < w)) = false, (o == (1 : Int)) = true, (o == (0 : Int)) = false, (o == (4 : Int)) = false]) (by kernel_rfl) ⟨hq4, hq8, hq5, hq0, trivial⟩ (by kernel_rfl)
theorem pOb_p10 (a w y o : Int) (h1 : 1 ≤ w ∧ w ≤ 20 ∧ 0 ≤ a ∧ a ≤ w ∧ -1 ≤ y ∧ y ≤ 1 ∧ (y ≠ 1 ∨ a < w) ∧ (y ≠ -1 ∨ 0 < a)) (h2 : 0 ≤ o ∧ o ≤ 4) (hq0 : (o == (4 : Int)) = false) (hq5 : (o == (0 : Int)) = false) (hq8 : (o == (1 : Int)) = false) (hq9 : (o == (2 : Int)) = true) (hq3 : (!decide (a > (0 : Int))) = true) : Known Try.prog [] 40 [.agg #[.int .i64 a, .int .i64 w, .int .i64 y], .int .i64 o] (.agg #[(.int .i64 (a)), (.int .i64 (w)), (.int .i64 ((0 : Int)))]) :=
  open_res mix GOk.none (T := GTab.none) (fuel := 3000) (ans := [(0, .b 0), (1, .b 0), (2, .b 0), (3, .b 1), (20, .b 1)]) (log := [(!decide (a > (0 : Int))) = true, (o == (2 : Int)) = true, (o == (1 : Int)) = false, (o == (0 : Int)) = false, (o == (4 : Int)) = false]) (by kernel_rfl) ⟨hq3, hq9, hq8, hq5, hq0, trivial⟩ (by kernel_rfl)
theorem pOb_p11 (a w y o : Int) (h1 : 1 ≤ w ∧ w ≤ 20 ∧ 0 ≤ a ∧ a ≤ w ∧ -1 ≤ y ∧ y ≤ 1 ∧ (y ≠ 1 ∨ a < w) ∧ (y ≠ -1 ∨ 0 < a)) (h2 : 0 ≤ o ∧ o ≤ 4) (hq0 : (o == (4 : Int)) = false) (hq5 : (o == (0 : Int)) = false) (hq8 : (o == (1 : Int)) = false) (hq9 : (o == (2 : Int)) = true) (hq3 : (!decide (a > (0 : Int))) = false) : Known Try.prog [] 40 [.agg #[.int .i64 a, .int .i64 w, .int .i64 y], .int .i64 o] (.agg #[(.int .i64 (a)), (.int .i64 (w)), (.int .i64 ((-1 : Int)))]) :=
  open_res mix GOk.none (T := GTab.none) (fuel := 3000) (ans := [(0, .b 0), (1, .b 0), (2, .b 0), (3, .b 1), (20, .b 0)]) (log := [(!decide (a > (0 : Int))) = false, (o == (2 : Int)) = true, (o == (1 : Int)) = false, (o == (0 : Int)) = false, (o == (4 : Int)) = false]) (by kernel_rfl) ⟨hq3, hq9, hq8, hq5, hq0, trivial⟩ (by kernel_rfl)
theorem pOb_p12 (a w y o : Int) (h1 : 1 ≤ w ∧ w ≤ 20 ∧ 0 ≤ a ∧ a ≤ w ∧ -1 ≤ y ∧ y ≤ 1 ∧ (y ≠ 1 ∨ a < w) ∧ (y ≠ -1 ∨ 0 < a)) (h2 : 0 ≤ o ∧ o ≤ 4) (hq0 : (o == (4 : Int)) = false) (hq5 : (o == (0 : Int)) = false) (hq8 : (o == (1 : Int)) = false) (hq9 : (o == (2 : Int)) = false) : Known Try.prog [] 40 [.agg #[.int .i64 a, .int .i64 w, .int .i64 y], .int .i64 o] (.agg #[(.int .i64 (a)), (.int .i64 (w)), (.int .i64 ((0 : Int)))]) :=
  open_res mix GOk.none (T := GTab.none) (fuel := 3000) (ans := [(0, .b 0), (1, .b 0), (2, .b 0), (3, .b 0)]) (log := [(o == (2 : Int)) = false, (o == (1 : Int)) = false, (o == (0 : Int)) = false, (o == (4 : Int)) = false]) (by kernel_rfl) ⟨hq9, hq8, hq5, hq0, trivial⟩ (by kernel_rfl)
set_option maxHeartbeats 8000000 in
theorem pOb (a w y o : Int) (h1 : 1 ≤ w ∧ w ≤ 20 ∧ 0 ≤ a ∧ a ≤ w ∧ -1 ≤ y ∧ y ≤ 1 ∧ (y ≠ 1 ∨ a < w) ∧ (y ≠ -1 ∨ 0 < a)) (h2 : 0 ≤ o ∧ o ≤ 4) : Known Try.prog [] 40 [.agg #[.int .i64 a, .int .i64 w, .int .i64 y], .int .i64 o] (.agg #[(.int .i64 (pOb_c0 a w y o)), (.int .i64 (pOb_c1 a w y o)), (.int .i64 (pOb_c2 a w y o))]) := by
  rcases Bool.eq_false_or_eq_true (o == (4 : Int)) with hq0 | hq0
  ·
    rcases Bool.eq_false_or_eq_true (IntKind.i64.wrap ((0 : Int) - y) != (1 : Int)) with hq1 | hq1
    ·
      rcases Bool.eq_false_or_eq_true (IntKind.i64.wrap ((0 : Int) - y) != (-1 : Int)) with hq2 | hq2
      ·
        have e0 : pOb_c0 a w y o = (a) := rfl; rw [e0]; have e1 : pOb_c1 a w y o = (w) := rfl; rw [e1]; have e2 : pOb_c2 a w y o = (IntKind.i64.wrap ((0 : Int) - y)) := ((bif_t hq0 _ _).trans ((bif_t hq1 _ _).trans ((bif_t hq2 _ _).trans rfl))); rw [e2]; exact pOb_p0 a w y o h1 h2 hq0 hq1 hq2
      ·
        rcases Bool.eq_false_or_eq_true (!decide (a > (0 : Int))) with hq3 | hq3
        ·
          have e0 : pOb_c0 a w y o = (a) := rfl; rw [e0]; have e1 : pOb_c1 a w y o = (w) := rfl; rw [e1]; have e2 : pOb_c2 a w y o = ((0 : Int)) := ((bif_t hq0 _ _).trans ((bif_t hq1 _ _).trans ((bif_f hq2 _ _).trans ((bif_t hq3 _ _).trans rfl)))); rw [e2]; exact pOb_p1 a w y o h1 h2 hq0 hq1 hq2 hq3
        ·
          have e0 : pOb_c0 a w y o = (a) := rfl; rw [e0]; have e1 : pOb_c1 a w y o = (w) := rfl; rw [e1]; have e2 : pOb_c2 a w y o = (IntKind.i64.wrap ((0 : Int) - y)) := ((bif_t hq0 _ _).trans ((bif_t hq1 _ _).trans ((bif_f hq2 _ _).trans ((bif_f hq3 _ _).trans rfl)))); rw [e2]; exact pOb_p2 a w y o h1 h2 hq0 hq1 hq2 hq3
    ·
      rcases Bool.eq_false_or_eq_true (decide (a < w)) with hq4 | hq4
      ·
        have hq2 : (IntKind.i64.wrap ((0 : Int) - y) != (-1 : Int)) = true := by
          rcases Bool.eq_false_or_eq_true (IntKind.i64.wrap ((0 : Int) - y) != (-1 : Int)) with h | h
          · exact h
          · exfalso; (first | (simp_all only [Bool.and_eq_true, Bool.not_eq_true', Bool.false_eq_true, Bool.true_eq_false, reduceCtorEq]; done) | (simp_all; done) | (simp only [sx, sy, eq_self, ne_eq, IntKind.wrap_i64, wrapU64, Int.reduceLT] at * <;> first | contradiction | omega))
        have e0 : pOb_c0 a w y o = (a) := rfl; rw [e0]; have e1 : pOb_c1 a w y o = (w) := rfl; rw [e1]; have e2 : pOb_c2 a w y o = (IntKind.i64.wrap ((0 : Int) - y)) := ((bif_t hq0 _ _).trans ((bif_f hq1 _ _).trans ((bif_t hq4 _ _).trans rfl))); rw [e2]; exact pOb_p3 a w y o h1 h2 hq0 hq1 hq4 hq2
      ·
        have e0 : pOb_c0 a w y o = (a) := rfl; rw [e0]; have e1 : pOb_c1 a w y o = (w) := rfl; rw [e1]; have e2 : pOb_c2 a w y o = ((0 : Int)) := ((bif_t hq0 _ _).trans ((bif_f hq1 _ _).trans ((bif_f hq4 _ _).trans rfl))); rw [e2]; exact pOb_p4 a w y o h1 h2 hq0 hq1 hq4
  ·
    rcases Bool.eq_false_or_eq_true (o == (0 : Int)) with hq5 | hq5
    ·
      rcases Bool.eq_false_or_eq_true (y != (1 : Int)) with hq6 | hq6
      ·
        rcases Bool.eq_false_or_eq_true (y != (-1 : Int)) with hq7 | hq7
        ·
          have e0 : pOb_c0 a w y o = (a) := rfl; rw [e0]; have e1 : pOb_c1 a w y o = (w) := rfl; rw [e1]; have e2 : pOb_c2 a w y o = (y) := ((bif_f hq0 _ _).trans ((bif_t hq5 _ _).trans rfl)); rw [e2]; exact pOb_p5 a w y o h1 h2 hq0 hq5 hq6 hq7
        ·
          have hq3 : (!decide (a > (0 : Int))) = false := by
            rcases Bool.eq_false_or_eq_true (!decide (a > (0 : Int))) with h | h
            · exfalso; (first | (simp_all only [Bool.and_eq_true, Bool.not_eq_true', Bool.false_eq_true, Bool.true_eq_false, reduceCtorEq]; done) | (simp_all; done) | (simp only [sx, sy, eq_self, ne_eq, IntKind.wrap_i64, wrapU64, Int.reduceLT] at * <;> first | contradiction | omega))
            · exact h
          have e0 : pOb_c0 a w y o = (a) := rfl; rw [e0]; have e1 : pOb_c1 a w y o = (w) := rfl; rw [e1]; have e2 : pOb_c2 a w y o = (y) := ((bif_f hq0 _ _).trans ((bif_t hq5 _ _).trans rfl)); rw [e2]; exact pOb_p6 a w y o h1 h2 hq0 hq5 hq6 hq7 hq3
      ·
        have hq4 : (decide (a < w)) = true := by
          rcases Bool.eq_false_or_eq_true (decide (a < w)) with h | h
          · exact h
          · exfalso; (first | (simp_all only [Bool.and_eq_true, Bool.not_eq_true', Bool.false_eq_true, Bool.true_eq_false, reduceCtorEq]; done) | (simp_all; done) | (simp only [sx, sy, eq_self, ne_eq, IntKind.wrap_i64, wrapU64, Int.reduceLT] at * <;> first | contradiction | omega))
        have hq7 : (y != (-1 : Int)) = true := by
          rcases Bool.eq_false_or_eq_true (y != (-1 : Int)) with h | h
          · exact h
          · exfalso; (first | (simp_all only [Bool.and_eq_true, Bool.not_eq_true', Bool.false_eq_true, Bool.true_eq_false, reduceCtorEq]; done) | (simp_all; done) | (simp only [sx, sy, eq_self, ne_eq, IntKind.wrap_i64, wrapU64, Int.reduceLT] at * <;> first | contradiction | omega))
        have e0 : pOb_c0 a w y o = (a) := rfl; rw [e0]; have e1 : pOb_c1 a w y o = (w) := rfl; rw [e1]; have e2 : pOb_c2 a w y o = (y) := ((bif_f hq0 _ _).trans ((bif_t hq5 _ _).trans rfl)); rw [e2]; exact pOb_p7 a w y o h1 h2 hq0 hq5 hq6 hq4 hq7
    ·
      rcases Bool.eq_false_or_eq_true (o == (1 : Int)) with hq8 | hq8
      ·
        rcases Bool.eq_false_or_eq_true (decide (a < w)) with hq4 | hq4
        ·
          have e0 : pOb_c0 a w y o = (a) := rfl; rw [e0]; have e1 : pOb_c1 a w y o = (w) := rfl; rw [e1]; have e2 : pOb_c2 a w y o = ((1 : Int)) := ((bif_f hq0 _ _).trans ((bif_f hq5 _ _).trans ((bif_t hq8 _ _).trans ((bif_t hq4 _ _).trans rfl)))); rw [e2]; exact pOb_p8 a w y o h1 h2 hq0 hq5 hq8 hq4
        ·
          have e0 : pOb_c0 a w y o = (a) := rfl; rw [e0]; have e1 : pOb_c1 a w y o = (w) := rfl; rw [e1]; have e2 : pOb_c2 a w y o = ((0 : Int)) := ((bif_f hq0 _ _).trans ((bif_f hq5 _ _).trans ((bif_t hq8 _ _).trans ((bif_f hq4 _ _).trans rfl)))); rw [e2]; exact pOb_p9 a w y o h1 h2 hq0 hq5 hq8 hq4
      ·
        rcases Bool.eq_false_or_eq_true (o == (2 : Int)) with hq9 | hq9
        ·
          rcases Bool.eq_false_or_eq_true (!decide (a > (0 : Int))) with hq3 | hq3
          ·
            have e0 : pOb_c0 a w y o = (a) := rfl; rw [e0]; have e1 : pOb_c1 a w y o = (w) := rfl; rw [e1]; have e2 : pOb_c2 a w y o = ((0 : Int)) := ((bif_f hq0 _ _).trans ((bif_f hq5 _ _).trans ((bif_f hq8 _ _).trans ((bif_t hq9 _ _).trans ((bif_t hq3 _ _).trans rfl))))); rw [e2]; exact pOb_p10 a w y o h1 h2 hq0 hq5 hq8 hq9 hq3
          ·
            have e0 : pOb_c0 a w y o = (a) := rfl; rw [e0]; have e1 : pOb_c1 a w y o = (w) := rfl; rw [e1]; have e2 : pOb_c2 a w y o = ((-1 : Int)) := ((bif_f hq0 _ _).trans ((bif_f hq5 _ _).trans ((bif_f hq8 _ _).trans ((bif_t hq9 _ _).trans ((bif_f hq3 _ _).trans rfl))))); rw [e2]; exact pOb_p11 a w y o h1 h2 hq0 hq5 hq8 hq9 hq3
        ·
          have e0 : pOb_c0 a w y o = (a) := rfl; rw [e0]; have e1 : pOb_c1 a w y o = (w) := rfl; rw [e1]; have e2 : pOb_c2 a w y o = ((0 : Int)) := ((bif_f hq0 _ _).trans ((bif_f hq5 _ _).trans ((bif_f hq8 _ _).trans ((bif_f hq9 _ _).trans rfl)))); rw [e2]; exact pOb_p12 a w y o h1 h2 hq0 hq5 hq8 hq9

noncomputable def rTo_c0 (a w y o : Int) : Int := (a)
noncomputable def rTo_c1 (a w y o : Int) : Int := (w)
noncomputable def rTo_c2 (a w y o : Int) : Int := (bif (o == (1 : Int)) then (bif (a == w) then ((0 : Int)) else ((1 : Int))) else (bif (o == (2 : Int)) then (bif (a == (0 : Int)) then ((0 : Int)) else ((-1 : Int))) else (bif (o == (3 : Int)) then ((0 : Int)) else (bif (o == (4 : Int)) then (bif (IntKind.i64.wrap ((0 : Int) - y) == (1 : Int)) then (bif (a == w) then ((0 : Int)) else (IntKind.i64.wrap ((0 : Int) - y))) else (bif (IntKind.i64.wrap ((0 : Int) - y) == (-1 : Int)) then (bif (a == (0 : Int)) then ((0 : Int)) else (IntKind.i64.wrap ((0 : Int) - y))) else (IntKind.i64.wrap ((0 : Int) - y)))) else (y)))))
theorem rTo_p0 (a w y o : Int) (h1 : 1 ≤ w ∧ w ≤ 20 ∧ 0 ≤ a ∧ a ≤ w ∧ -1 ≤ y ∧ y ≤ 1 ∧ (y ≠ 1 ∨ a < w) ∧ (y ≠ -1 ∨ 0 < a)) (h2 : 0 ≤ o ∧ o ≤ 4) (hq0 : (o == (1 : Int)) = true) (hq1 : (decide (w < (1 : Int))) = false) (hq2 : (decide (w > (20 : Int))) = false) (hq3 : (decide (a < (0 : Int))) = false) (hq4 : (decide (a > w)) = false) (hq5 : (a == w) = true) : Known Try.prog [] 41 [.agg #[.int .i64 a, .int .i64 w, .int .i64 y], .int .i64 o] (.agg #[(.int .i64 (a)), (.int .i64 (w)), (.int .i64 ((0 : Int)))]) :=
  open_res mix GOk.none (T := GTab.none) (fuel := 3000) (ans := [(0, .b 1), (1, .b 0), (5, .b 0), (9, .b 0), (15, .b 0), (30, .b 1)]) (log := [(a == w) = true, (decide (a > w)) = false, (decide (a < (0 : Int))) = false, (decide (w > (20 : Int))) = false, (decide (w < (1 : Int))) = false, (o == (1 : Int)) = true]) (by kernel_rfl) ⟨hq5, hq4, hq3, hq2, hq1, hq0, trivial⟩ (by kernel_rfl)
theorem rTo_p1 (a w y o : Int) (h1 : 1 ≤ w ∧ w ≤ 20 ∧ 0 ≤ a ∧ a ≤ w ∧ -1 ≤ y ∧ y ≤ 1 ∧ (y ≠ 1 ∨ a < w) ∧ (y ≠ -1 ∨ 0 < a)) (h2 : 0 ≤ o ∧ o ≤ 4) (hq0 : (o == (1 : Int)) = true) (hq1 : (decide (w < (1 : Int))) = false) (hq2 : (decide (w > (20 : Int))) = false) (hq3 : (decide (a < (0 : Int))) = false) (hq4 : (decide (a > w)) = false) (hq5 : (a == w) = false) : Known Try.prog [] 41 [.agg #[.int .i64 a, .int .i64 w, .int .i64 y], .int .i64 o] (.agg #[(.int .i64 (a)), (.int .i64 (w)), (.int .i64 ((1 : Int)))]) :=
  open_res mix GOk.none (T := GTab.none) (fuel := 3000) (ans := [(0, .b 1), (1, .b 0), (5, .b 0), (9, .b 0), (15, .b 0), (30, .b 0)]) (log := [(a == w) = false, (decide (a > w)) = false, (decide (a < (0 : Int))) = false, (decide (w > (20 : Int))) = false, (decide (w < (1 : Int))) = false, (o == (1 : Int)) = true]) (by kernel_rfl) ⟨hq5, hq4, hq3, hq2, hq1, hq0, trivial⟩ (by kernel_rfl)
theorem rTo_p2 (a w y o : Int) (h1 : 1 ≤ w ∧ w ≤ 20 ∧ 0 ≤ a ∧ a ≤ w ∧ -1 ≤ y ∧ y ≤ 1 ∧ (y ≠ 1 ∨ a < w) ∧ (y ≠ -1 ∨ 0 < a)) (h2 : 0 ≤ o ∧ o ≤ 4) (hq0 : (o == (1 : Int)) = false) (hq6 : (o == (2 : Int)) = true) (hq1 : (decide (w < (1 : Int))) = false) (hq2 : (decide (w > (20 : Int))) = false) (hq3 : (decide (a < (0 : Int))) = false) (hq4 : (decide (a > w)) = false) (hq7 : (a == (0 : Int)) = true) : Known Try.prog [] 41 [.agg #[.int .i64 a, .int .i64 w, .int .i64 y], .int .i64 o] (.agg #[(.int .i64 (a)), (.int .i64 (w)), (.int .i64 ((0 : Int)))]) :=
  open_res mix GOk.none (T := GTab.none) (fuel := 3000) (ans := [(0, .b 0), (1, .b 1), (2, .b 0), (6, .b 0), (10, .b 0), (16, .b 0), (41, .b 1)]) (log := [(a == (0 : Int)) = true, (decide (a > w)) = false, (decide (a < (0 : Int))) = false, (decide (w > (20 : Int))) = false, (decide (w < (1 : Int))) = false, (o == (2 : Int)) = true, (o == (1 : Int)) = false]) (by kernel_rfl) ⟨hq7, hq4, hq3, hq2, hq1, hq6, hq0, trivial⟩ (by kernel_rfl)
theorem rTo_p3 (a w y o : Int) (h1 : 1 ≤ w ∧ w ≤ 20 ∧ 0 ≤ a ∧ a ≤ w ∧ -1 ≤ y ∧ y ≤ 1 ∧ (y ≠ 1 ∨ a < w) ∧ (y ≠ -1 ∨ 0 < a)) (h2 : 0 ≤ o ∧ o ≤ 4) (hq0 : (o == (1 : Int)) = false) (hq6 : (o == (2 : Int)) = true) (hq1 : (decide (w < (1 : Int))) = false) (hq2 : (decide (w > (20 : Int))) = false) (hq3 : (decide (a < (0 : Int))) = false) (hq4 : (decide (a > w)) = false) (hq7 : (a == (0 : Int)) = false) : Known Try.prog [] 41 [.agg #[.int .i64 a, .int .i64 w, .int .i64 y], .int .i64 o] (.agg #[(.int .i64 (a)), (.int .i64 (w)), (.int .i64 ((-1 : Int)))]) :=
  open_res mix GOk.none (T := GTab.none) (fuel := 3000) (ans := [(0, .b 0), (1, .b 1), (2, .b 0), (6, .b 0), (10, .b 0), (16, .b 0), (41, .b 0)]) (log := [(a == (0 : Int)) = false, (decide (a > w)) = false, (decide (a < (0 : Int))) = false, (decide (w > (20 : Int))) = false, (decide (w < (1 : Int))) = false, (o == (2 : Int)) = true, (o == (1 : Int)) = false]) (by kernel_rfl) ⟨hq7, hq4, hq3, hq2, hq1, hq6, hq0, trivial⟩ (by kernel_rfl)
theorem rTo_p4 (a w y o : Int) (h1 : 1 ≤ w ∧ w ≤ 20 ∧ 0 ≤ a ∧ a ≤ w ∧ -1 ≤ y ∧ y ≤ 1 ∧ (y ≠ 1 ∨ a < w) ∧ (y ≠ -1 ∨ 0 < a)) (h2 : 0 ≤ o ∧ o ≤ 4) (hq0 : (o == (1 : Int)) = false) (hq6 : (o == (2 : Int)) = false) (hq8 : (o == (3 : Int)) = true) (hq1 : (decide (w < (1 : Int))) = false) (hq2 : (decide (w > (20 : Int))) = false) (hq3 : (decide (a < (0 : Int))) = false) (hq4 : (decide (a > w)) = false) : Known Try.prog [] 41 [.agg #[.int .i64 a, .int .i64 w, .int .i64 y], .int .i64 o] (.agg #[(.int .i64 (a)), (.int .i64 (w)), (.int .i64 ((0 : Int)))]) :=
  open_res mix GOk.none (T := GTab.none) (fuel := 3000) (ans := [(0, .b 0), (1, .b 0), (2, .b 1), (3, .b 0), (7, .b 0), (11, .b 0), (17, .b 0)]) (log := [(decide (a > w)) = false, (decide (a < (0 : Int))) = false, (decide (w > (20 : Int))) = false, (decide (w < (1 : Int))) = false, (o == (3 : Int)) = true, (o == (2 : Int)) = false, (o == (1 : Int)) = false]) (by kernel_rfl) ⟨hq4, hq3, hq2, hq1, hq8, hq6, hq0, trivial⟩ (by kernel_rfl)
theorem rTo_p5 (a w y o : Int) (h1 : 1 ≤ w ∧ w ≤ 20 ∧ 0 ≤ a ∧ a ≤ w ∧ -1 ≤ y ∧ y ≤ 1 ∧ (y ≠ 1 ∨ a < w) ∧ (y ≠ -1 ∨ 0 < a)) (h2 : 0 ≤ o ∧ o ≤ 4) (hq0 : (o == (1 : Int)) = false) (hq6 : (o == (2 : Int)) = false) (hq8 : (o == (3 : Int)) = false) (hq9 : (o == (4 : Int)) = true) (hq1 : (decide (w < (1 : Int))) = false) (hq2 : (decide (w > (20 : Int))) = false) (hq3 : (decide (a < (0 : Int))) = false) (hq4 : (decide (a > w)) = false) (hq10 : (decide (IntKind.i64.wrap ((0 : Int) - y) < (-1 : Int))) = false) (hq11 : (decide (IntKind.i64.wrap ((0 : Int) - y) > (1 : Int))) = false) (hq12 : (IntKind.i64.wrap ((0 : Int) - y) == (1 : Int)) = true) (hq5 : (a == w) = true) : Known Try.prog [] 41 [.agg #[.int .i64 a, .int .i64 w, .int .i64 y], .int .i64 o] (.agg #[(.int .i64 (a)), (.int .i64 (w)), (.int .i64 ((0 : Int)))]) :=
  open_res mix GOk.none (T := GTab.none) (fuel := 3000) (ans := [(0, .b 0), (1, .b 0), (2, .b 0), (3, .b 1), (4, .b 0), (8, .b 0), (12, .b 0), (18, .b 0), (22, .b 0), (26, .b 0), (27, .b 1), (33, .b 1)]) (log := [(a == w) = true, (IntKind.i64.wrap ((0 : Int) - y) == (1 : Int)) = true, (decide (IntKind.i64.wrap ((0 : Int) - y) > (1 : Int))) = false, (decide (IntKind.i64.wrap ((0 : Int) - y) < (-1 : Int))) = false, (decide (a > w)) = false, (decide (a < (0 : Int))) = false, (decide (w > (20 : Int))) = false, (decide (w < (1 : Int))) = false, (o == (4 : Int)) = true, (o == (3 : Int)) = false, (o == (2 : Int)) = false, (o == (1 : Int)) = false]) (by kernel_rfl) ⟨hq5, hq12, hq11, hq10, hq4, hq3, hq2, hq1, hq9, hq8, hq6, hq0, trivial⟩ (by kernel_rfl)
theorem rTo_p6 (a w y o : Int) (h1 : 1 ≤ w ∧ w ≤ 20 ∧ 0 ≤ a ∧ a ≤ w ∧ -1 ≤ y ∧ y ≤ 1 ∧ (y ≠ 1 ∨ a < w) ∧ (y ≠ -1 ∨ 0 < a)) (h2 : 0 ≤ o ∧ o ≤ 4) (hq0 : (o == (1 : Int)) = false) (hq6 : (o == (2 : Int)) = false) (hq8 : (o == (3 : Int)) = false) (hq9 : (o == (4 : Int)) = true) (hq1 : (decide (w < (1 : Int))) = false) (hq2 : (decide (w > (20 : Int))) = false) (hq3 : (decide (a < (0 : Int))) = false) (hq4 : (decide (a > w)) = false) (hq10 : (decide (IntKind.i64.wrap ((0 : Int) - y) < (-1 : Int))) = false) (hq11 : (decide (IntKind.i64.wrap ((0 : Int) - y) > (1 : Int))) = false) (hq12 : (IntKind.i64.wrap ((0 : Int) - y) == (1 : Int)) = true) (hq5 : (a == w) = false) (hq13 : (IntKind.i64.wrap ((0 : Int) - y) == (-1 : Int)) = false) : Known Try.prog [] 41 [.agg #[.int .i64 a, .int .i64 w, .int .i64 y], .int .i64 o] (.agg #[(.int .i64 (a)), (.int .i64 (w)), (.int .i64 (IntKind.i64.wrap ((0 : Int) - y)))]) :=
  open_res mix GOk.none (T := GTab.none) (fuel := 3000) (ans := [(0, .b 0), (1, .b 0), (2, .b 0), (3, .b 1), (4, .b 0), (8, .b 0), (12, .b 0), (18, .b 0), (22, .b 0), (26, .b 0), (27, .b 1), (33, .b 0), (37, .b 0)]) (log := [(IntKind.i64.wrap ((0 : Int) - y) == (-1 : Int)) = false, (a == w) = false, (IntKind.i64.wrap ((0 : Int) - y) == (1 : Int)) = true, (decide (IntKind.i64.wrap ((0 : Int) - y) > (1 : Int))) = false, (decide (IntKind.i64.wrap ((0 : Int) - y) < (-1 : Int))) = false, (decide (a > w)) = false, (decide (a < (0 : Int))) = false, (decide (w > (20 : Int))) = false, (decide (w < (1 : Int))) = false, (o == (4 : Int)) = true, (o == (3 : Int)) = false, (o == (2 : Int)) = false, (o == (1 : Int)) = false]) (by kernel_rfl) ⟨hq13, hq5, hq12, hq11, hq10, hq4, hq3, hq2, hq1, hq9, hq8, hq6, hq0, trivial⟩ (by kernel_rfl)
theorem rTo_p7 (a w y o : Int) (h1 : 1 ≤ w ∧ w ≤ 20 ∧ 0 ≤ a ∧ a ≤ w ∧ -1 ≤ y ∧ y ≤ 1 ∧ (y ≠ 1 ∨ a < w) ∧ (y ≠ -1 ∨ 0 < a)) (h2 : 0 ≤ o ∧ o ≤ 4) (hq0 : (o == (1 : Int)) = false) (hq6 : (o == (2 : Int)) = false) (hq8 : (o == (3 : Int)) = false) (hq9 : (o == (4 : Int)) = true) (hq1 : (decide (w < (1 : Int))) = false) (hq2 : (decide (w > (20 : Int))) = false) (hq3 : (decide (a < (0 : Int))) = false) (hq4 : (decide (a > w)) = false) (hq10 : (decide (IntKind.i64.wrap ((0 : Int) - y) < (-1 : Int))) = false) (hq11 : (decide (IntKind.i64.wrap ((0 : Int) - y) > (1 : Int))) = false) (hq12 : (IntKind.i64.wrap ((0 : Int) - y) == (1 : Int)) = false) (hq13 : (IntKind.i64.wrap ((0 : Int) - y) == (-1 : Int)) = true) (hq7 : (a == (0 : Int)) = true) : Known Try.prog [] 41 [.agg #[.int .i64 a, .int .i64 w, .int .i64 y], .int .i64 o] (.agg #[(.int .i64 (a)), (.int .i64 (w)), (.int .i64 ((0 : Int)))]) :=
  open_res mix GOk.none (T := GTab.none) (fuel := 3000) (ans := [(0, .b 0), (1, .b 0), (2, .b 0), (3, .b 1), (4, .b 0), (8, .b 0), (12, .b 0), (18, .b 0), (22, .b 0), (26, .b 0), (27, .b 0), (37, .b 1), (43, .b 1)]) (log := [(a == (0 : Int)) = true, (IntKind.i64.wrap ((0 : Int) - y) == (-1 : Int)) = true, (IntKind.i64.wrap ((0 : Int) - y) == (1 : Int)) = false, (decide (IntKind.i64.wrap ((0 : Int) - y) > (1 : Int))) = false, (decide (IntKind.i64.wrap ((0 : Int) - y) < (-1 : Int))) = false, (decide (a > w)) = false, (decide (a < (0 : Int))) = false, (decide (w > (20 : Int))) = false, (decide (w < (1 : Int))) = false, (o == (4 : Int)) = true, (o == (3 : Int)) = false, (o == (2 : Int)) = false, (o == (1 : Int)) = false]) (by kernel_rfl) ⟨hq7, hq13, hq12, hq11, hq10, hq4, hq3, hq2, hq1, hq9, hq8, hq6, hq0, trivial⟩ (by kernel_rfl)
theorem rTo_p8 (a w y o : Int) (h1 : 1 ≤ w ∧ w ≤ 20 ∧ 0 ≤ a ∧ a ≤ w ∧ -1 ≤ y ∧ y ≤ 1 ∧ (y ≠ 1 ∨ a < w) ∧ (y ≠ -1 ∨ 0 < a)) (h2 : 0 ≤ o ∧ o ≤ 4) (hq0 : (o == (1 : Int)) = false) (hq6 : (o == (2 : Int)) = false) (hq8 : (o == (3 : Int)) = false) (hq9 : (o == (4 : Int)) = true) (hq1 : (decide (w < (1 : Int))) = false) (hq2 : (decide (w > (20 : Int))) = false) (hq3 : (decide (a < (0 : Int))) = false) (hq4 : (decide (a > w)) = false) (hq10 : (decide (IntKind.i64.wrap ((0 : Int) - y) < (-1 : Int))) = false) (hq11 : (decide (IntKind.i64.wrap ((0 : Int) - y) > (1 : Int))) = false) (hq12 : (IntKind.i64.wrap ((0 : Int) - y) == (1 : Int)) = false) (hq13 : (IntKind.i64.wrap ((0 : Int) - y) == (-1 : Int)) = true) (hq7 : (a == (0 : Int)) = false) : Known Try.prog [] 41 [.agg #[.int .i64 a, .int .i64 w, .int .i64 y], .int .i64 o] (.agg #[(.int .i64 (a)), (.int .i64 (w)), (.int .i64 (IntKind.i64.wrap ((0 : Int) - y)))]) :=
  open_res mix GOk.none (T := GTab.none) (fuel := 3000) (ans := [(0, .b 0), (1, .b 0), (2, .b 0), (3, .b 1), (4, .b 0), (8, .b 0), (12, .b 0), (18, .b 0), (22, .b 0), (26, .b 0), (27, .b 0), (37, .b 1), (43, .b 0)]) (log := [(a == (0 : Int)) = false, (IntKind.i64.wrap ((0 : Int) - y) == (-1 : Int)) = true, (IntKind.i64.wrap ((0 : Int) - y) == (1 : Int)) = false, (decide (IntKind.i64.wrap ((0 : Int) - y) > (1 : Int))) = false, (decide (IntKind.i64.wrap ((0 : Int) - y) < (-1 : Int))) = false, (decide (a > w)) = false, (decide (a < (0 : Int))) = false, (decide (w > (20 : Int))) = false, (decide (w < (1 : Int))) = false, (o == (4 : Int)) = true, (o == (3 : Int)) = false, (o == (2 : Int)) = false, (o == (1 : Int)) = false]) (by kernel_rfl) ⟨hq7, hq13, hq12, hq11, hq10, hq4, hq3, hq2, hq1, hq9, hq8, hq6, hq0, trivial⟩ (by kernel_rfl)
theorem rTo_p9 (a w y o : Int) (h1 : 1 ≤ w ∧ w ≤ 20 ∧ 0 ≤ a ∧ a ≤ w ∧ -1 ≤ y ∧ y ≤ 1 ∧ (y ≠ 1 ∨ a < w) ∧ (y ≠ -1 ∨ 0 < a)) (h2 : 0 ≤ o ∧ o ≤ 4) (hq0 : (o == (1 : Int)) = false) (hq6 : (o == (2 : Int)) = false) (hq8 : (o == (3 : Int)) = false) (hq9 : (o == (4 : Int)) = true) (hq1 : (decide (w < (1 : Int))) = false) (hq2 : (decide (w > (20 : Int))) = false) (hq3 : (decide (a < (0 : Int))) = false) (hq4 : (decide (a > w)) = false) (hq10 : (decide (IntKind.i64.wrap ((0 : Int) - y) < (-1 : Int))) = false) (hq11 : (decide (IntKind.i64.wrap ((0 : Int) - y) > (1 : Int))) = false) (hq12 : (IntKind.i64.wrap ((0 : Int) - y) == (1 : Int)) = false) (hq13 : (IntKind.i64.wrap ((0 : Int) - y) == (-1 : Int)) = false) : Known Try.prog [] 41 [.agg #[.int .i64 a, .int .i64 w, .int .i64 y], .int .i64 o] (.agg #[(.int .i64 (a)), (.int .i64 (w)), (.int .i64 (IntKind.i64.wrap ((0 : Int) - y)))]) :=
  open_res mix GOk.none (T := GTab.none) (fuel := 3000) (ans := [(0, .b 0), (1, .b 0), (2, .b 0), (3, .b 1), (4, .b 0), (8, .b 0), (12, .b 0), (18, .b 0), (22, .b 0), (26, .b 0), (27, .b 0), (37, .b 0)]) (log := [(IntKind.i64.wrap ((0 : Int) - y) == (-1 : Int)) = false, (IntKind.i64.wrap ((0 : Int) - y) == (1 : Int)) = false, (decide (IntKind.i64.wrap ((0 : Int) - y) > (1 : Int))) = false, (decide (IntKind.i64.wrap ((0 : Int) - y) < (-1 : Int))) = false, (decide (a > w)) = false, (decide (a < (0 : Int))) = false, (decide (w > (20 : Int))) = false, (decide (w < (1 : Int))) = false, (o == (4 : Int)) = true, (o == (3 : Int)) = false, (o == (2 : Int)) = false, (o == (1 : Int)) = false]) (by kernel_rfl) ⟨hq13, hq12, hq11, hq10, hq4, hq3, hq2, hq1, hq9, hq8, hq6, hq0, trivial⟩ (by kernel_rfl)
theorem rTo_p10 (a w y o : Int) (h1 : 1 ≤ w ∧ w ≤ 20 ∧ 0 ≤ a ∧ a ≤ w ∧ -1 ≤ y ∧ y ≤ 1 ∧ (y ≠ 1 ∨ a < w) ∧ (y ≠ -1 ∨ 0 < a)) (h2 : 0 ≤ o ∧ o ≤ 4) (hq0 : (o == (1 : Int)) = false) (hq6 : (o == (2 : Int)) = false) (hq8 : (o == (3 : Int)) = false) (hq9 : (o == (4 : Int)) = false) (hq1 : (decide (w < (1 : Int))) = false) (hq2 : (decide (w > (20 : Int))) = false) (hq3 : (decide (a < (0 : Int))) = false) (hq4 : (decide (a > w)) = false) (hq14 : (decide (y < (-1 : Int))) = false) (hq15 : (decide (y > (1 : Int))) = false) (hq16 : (y == (1 : Int)) = true) (hq5 : (a == w) = false) (hq17 : (y == (-1 : Int)) = false) : Known Try.prog [] 41 [.agg #[.int .i64 a, .int .i64 w, .int .i64 y], .int .i64 o] (.agg #[(.int .i64 (a)), (.int .i64 (w)), (.int .i64 (y))]) :=
  open_res mix GOk.none (T := GTab.none) (fuel := 3000) (ans := [(0, .b 0), (1, .b 0), (2, .b 0), (3, .b 0), (4, .b 0), (8, .b 0), (12, .b 0), (18, .b 0), (22, .b 0), (26, .b 0), (27, .b 1), (33, .b 0), (37, .b 0)]) (log := [(y == (-1 : Int)) = false, (a == w) = false, (y == (1 : Int)) = true, (decide (y > (1 : Int))) = false, (decide (y < (-1 : Int))) = false, (decide (a > w)) = false, (decide (a < (0 : Int))) = false, (decide (w > (20 : Int))) = false, (decide (w < (1 : Int))) = false, (o == (4 : Int)) = false, (o == (3 : Int)) = false, (o == (2 : Int)) = false, (o == (1 : Int)) = false]) (by kernel_rfl) ⟨hq17, hq5, hq16, hq15, hq14, hq4, hq3, hq2, hq1, hq9, hq8, hq6, hq0, trivial⟩ (by kernel_rfl)
theorem rTo_p11 (a w y o : Int) (h1 : 1 ≤ w ∧ w ≤ 20 ∧ 0 ≤ a ∧ a ≤ w ∧ -1 ≤ y ∧ y ≤ 1 ∧ (y ≠ 1 ∨ a < w) ∧ (y ≠ -1 ∨ 0 < a)) (h2 : 0 ≤ o ∧ o ≤ 4) (hq0 : (o == (1 : Int)) = false) (hq6 : (o == (2 : Int)) = false) (hq8 : (o == (3 : Int)) = false) (hq9 : (o == (4 : Int)) = false) (hq1 : (decide (w < (1 : Int))) = false) (hq2 : (decide (w > (20 : Int))) = false) (hq3 : (decide (a < (0 : Int))) = false) (hq4 : (decide (a > w)) = false) (hq14 : (decide (y < (-1 : Int))) = false) (hq15 : (decide (y > (1 : Int))) = false) (hq16 : (y == (1 : Int)) = false) (hq17 : (y == (-1 : Int)) = true) (hq7 : (a == (0 : Int)) = false) : Known Try.prog [] 41 [.agg #[.int .i64 a, .int .i64 w, .int .i64 y], .int .i64 o] (.agg #[(.int .i64 (a)), (.int .i64 (w)), (.int .i64 (y))]) :=
  open_res mix GOk.none (T := GTab.none) (fuel := 3000) (ans := [(0, .b 0), (1, .b 0), (2, .b 0), (3, .b 0), (4, .b 0), (8, .b 0), (12, .b 0), (18, .b 0), (22, .b 0), (26, .b 0), (27, .b 0), (37, .b 1), (43, .b 0)]) (log := [(a == (0 : Int)) = false, (y == (-1 : Int)) = true, (y == (1 : Int)) = false, (decide (y > (1 : Int))) = false, (decide (y < (-1 : Int))) = false, (decide (a > w)) = false, (decide (a < (0 : Int))) = false, (decide (w > (20 : Int))) = false, (decide (w < (1 : Int))) = false, (o == (4 : Int)) = false, (o == (3 : Int)) = false, (o == (2 : Int)) = false, (o == (1 : Int)) = false]) (by kernel_rfl) ⟨hq7, hq17, hq16, hq15, hq14, hq4, hq3, hq2, hq1, hq9, hq8, hq6, hq0, trivial⟩ (by kernel_rfl)
theorem rTo_p12 (a w y o : Int) (h1 : 1 ≤ w ∧ w ≤ 20 ∧ 0 ≤ a ∧ a ≤ w ∧ -1 ≤ y ∧ y ≤ 1 ∧ (y ≠ 1 ∨ a < w) ∧ (y ≠ -1 ∨ 0 < a)) (h2 : 0 ≤ o ∧ o ≤ 4) (hq0 : (o == (1 : Int)) = false) (hq6 : (o == (2 : Int)) = false) (hq8 : (o == (3 : Int)) = false) (hq9 : (o == (4 : Int)) = false) (hq1 : (decide (w < (1 : Int))) = false) (hq2 : (decide (w > (20 : Int))) = false) (hq3 : (decide (a < (0 : Int))) = false) (hq4 : (decide (a > w)) = false) (hq14 : (decide (y < (-1 : Int))) = false) (hq15 : (decide (y > (1 : Int))) = false) (hq16 : (y == (1 : Int)) = false) (hq17 : (y == (-1 : Int)) = false) : Known Try.prog [] 41 [.agg #[.int .i64 a, .int .i64 w, .int .i64 y], .int .i64 o] (.agg #[(.int .i64 (a)), (.int .i64 (w)), (.int .i64 (y))]) :=
  open_res mix GOk.none (T := GTab.none) (fuel := 3000) (ans := [(0, .b 0), (1, .b 0), (2, .b 0), (3, .b 0), (4, .b 0), (8, .b 0), (12, .b 0), (18, .b 0), (22, .b 0), (26, .b 0), (27, .b 0), (37, .b 0)]) (log := [(y == (-1 : Int)) = false, (y == (1 : Int)) = false, (decide (y > (1 : Int))) = false, (decide (y < (-1 : Int))) = false, (decide (a > w)) = false, (decide (a < (0 : Int))) = false, (decide (w > (20 : Int))) = false, (decide (w < (1 : Int))) = false, (o == (4 : Int)) = false, (o == (3 : Int)) = false, (o == (2 : Int)) = false, (o == (1 : Int)) = false]) (by kernel_rfl) ⟨hq17, hq16, hq15, hq14, hq4, hq3, hq2, hq1, hq9, hq8, hq6, hq0, trivial⟩ (by kernel_rfl)
set_option maxHeartbeats 8000000 in
theorem rTo (a w y o : Int) (h1 : 1 ≤ w ∧ w ≤ 20 ∧ 0 ≤ a ∧ a ≤ w ∧ -1 ≤ y ∧ y ≤ 1 ∧ (y ≠ 1 ∨ a < w) ∧ (y ≠ -1 ∨ 0 < a)) (h2 : 0 ≤ o ∧ o ≤ 4) : Known Try.prog [] 41 [.agg #[.int .i64 a, .int .i64 w, .int .i64 y], .int .i64 o] (.agg #[(.int .i64 (rTo_c0 a w y o)), (.int .i64 (rTo_c1 a w y o)), (.int .i64 (rTo_c2 a w y o))]) := by
  rcases Bool.eq_false_or_eq_true (o == (1 : Int)) with hq0 | hq0
  ·
    have hq1 : (decide (w < (1 : Int))) = false := by
      rcases Bool.eq_false_or_eq_true (decide (w < (1 : Int))) with h | h
      · exfalso; (first | (simp_all only [Bool.and_eq_true, Bool.not_eq_true', Bool.false_eq_true, Bool.true_eq_false, reduceCtorEq]; done) | (simp_all; done) | (simp only [sx, sy, eq_self, ne_eq, IntKind.wrap_i64, wrapU64, Int.reduceLT] at * <;> first | contradiction | omega))
      · exact h
    have hq2 : (decide (w > (20 : Int))) = false := by
      rcases Bool.eq_false_or_eq_true (decide (w > (20 : Int))) with h | h
      · exfalso; (first | (simp_all only [Bool.and_eq_true, Bool.not_eq_true', Bool.false_eq_true, Bool.true_eq_false, reduceCtorEq]; done) | (simp_all; done) | (simp only [sx, sy, eq_self, ne_eq, IntKind.wrap_i64, wrapU64, Int.reduceLT] at * <;> first | contradiction | omega))
      · exact h
    have hq3 : (decide (a < (0 : Int))) = false := by
      rcases Bool.eq_false_or_eq_true (decide (a < (0 : Int))) with h | h
      · exfalso; (first | (simp_all only [Bool.and_eq_true, Bool.not_eq_true', Bool.false_eq_true, Bool.true_eq_false, reduceCtorEq]; done) | (simp_all; done) | (simp only [sx, sy, eq_self, ne_eq, IntKind.wrap_i64, wrapU64, Int.reduceLT] at * <;> first | contradiction | omega))
      · exact h
    have hq4 : (decide (a > w)) = false := by
      rcases Bool.eq_false_or_eq_true (decide (a > w)) with h | h
      · exfalso; (first | (simp_all only [Bool.and_eq_true, Bool.not_eq_true', Bool.false_eq_true, Bool.true_eq_false, reduceCtorEq]; done) | (simp_all; done) | (simp only [sx, sy, eq_self, ne_eq, IntKind.wrap_i64, wrapU64, Int.reduceLT] at * <;> first | contradiction | omega))
      · exact h
    rcases Bool.eq_false_or_eq_true (a == w) with hq5 | hq5
    ·
      have e0 : rTo_c0 a w y o = (a) := rfl; rw [e0]; have e1 : rTo_c1 a w y o = (w) := rfl; rw [e1]; have e2 : rTo_c2 a w y o = ((0 : Int)) := ((bif_t hq0 _ _).trans ((bif_t hq5 _ _).trans rfl)); rw [e2]; exact rTo_p0 a w y o h1 h2 hq0 hq1 hq2 hq3 hq4 hq5
    ·
      have e0 : rTo_c0 a w y o = (a) := rfl; rw [e0]; have e1 : rTo_c1 a w y o = (w) := rfl; rw [e1]; have e2 : rTo_c2 a w y o = ((1 : Int)) := ((bif_t hq0 _ _).trans ((bif_f hq5 _ _).trans rfl)); rw [e2]; exact rTo_p1 a w y o h1 h2 hq0 hq1 hq2 hq3 hq4 hq5
  ·
    rcases Bool.eq_false_or_eq_true (o == (2 : Int)) with hq6 | hq6
    ·
      have hq1 : (decide (w < (1 : Int))) = false := by
        rcases Bool.eq_false_or_eq_true (decide (w < (1 : Int))) with h | h
        · exfalso; (first | (simp_all only [Bool.and_eq_true, Bool.not_eq_true', Bool.false_eq_true, Bool.true_eq_false, reduceCtorEq]; done) | (simp_all; done) | (simp only [sx, sy, eq_self, ne_eq, IntKind.wrap_i64, wrapU64, Int.reduceLT] at * <;> first | contradiction | omega))
        · exact h
      have hq2 : (decide (w > (20 : Int))) = false := by
        rcases Bool.eq_false_or_eq_true (decide (w > (20 : Int))) with h | h
        · exfalso; (first | (simp_all only [Bool.and_eq_true, Bool.not_eq_true', Bool.false_eq_true, Bool.true_eq_false, reduceCtorEq]; done) | (simp_all; done) | (simp only [sx, sy, eq_self, ne_eq, IntKind.wrap_i64, wrapU64, Int.reduceLT] at * <;> first | contradiction | omega))
        · exact h
      have hq3 : (decide (a < (0 : Int))) = false := by
        rcases Bool.eq_false_or_eq_true (decide (a < (0 : Int))) with h | h
        · exfalso; (first | (simp_all only [Bool.and_eq_true, Bool.not_eq_true', Bool.false_eq_true, Bool.true_eq_false, reduceCtorEq]; done) | (simp_all; done) | (simp only [sx, sy, eq_self, ne_eq, IntKind.wrap_i64, wrapU64, Int.reduceLT] at * <;> first | contradiction | omega))
        · exact h
      have hq4 : (decide (a > w)) = false := by
        rcases Bool.eq_false_or_eq_true (decide (a > w)) with h | h
        · exfalso; (first | (simp_all only [Bool.and_eq_true, Bool.not_eq_true', Bool.false_eq_true, Bool.true_eq_false, reduceCtorEq]; done) | (simp_all; done) | (simp only [sx, sy, eq_self, ne_eq, IntKind.wrap_i64, wrapU64, Int.reduceLT] at * <;> first | contradiction | omega))
        · exact h
      rcases Bool.eq_false_or_eq_true (a == (0 : Int)) with hq7 | hq7
      ·
        have e0 : rTo_c0 a w y o = (a) := rfl; rw [e0]; have e1 : rTo_c1 a w y o = (w) := rfl; rw [e1]; have e2 : rTo_c2 a w y o = ((0 : Int)) := ((bif_f hq0 _ _).trans ((bif_t hq6 _ _).trans ((bif_t hq7 _ _).trans rfl))); rw [e2]; exact rTo_p2 a w y o h1 h2 hq0 hq6 hq1 hq2 hq3 hq4 hq7
      ·
        have e0 : rTo_c0 a w y o = (a) := rfl; rw [e0]; have e1 : rTo_c1 a w y o = (w) := rfl; rw [e1]; have e2 : rTo_c2 a w y o = ((-1 : Int)) := ((bif_f hq0 _ _).trans ((bif_t hq6 _ _).trans ((bif_f hq7 _ _).trans rfl))); rw [e2]; exact rTo_p3 a w y o h1 h2 hq0 hq6 hq1 hq2 hq3 hq4 hq7
    ·
      rcases Bool.eq_false_or_eq_true (o == (3 : Int)) with hq8 | hq8
      ·
        have hq1 : (decide (w < (1 : Int))) = false := by
          rcases Bool.eq_false_or_eq_true (decide (w < (1 : Int))) with h | h
          · exfalso; (first | (simp_all only [Bool.and_eq_true, Bool.not_eq_true', Bool.false_eq_true, Bool.true_eq_false, reduceCtorEq]; done) | (simp_all; done) | (simp only [sx, sy, eq_self, ne_eq, IntKind.wrap_i64, wrapU64, Int.reduceLT] at * <;> first | contradiction | omega))
          · exact h
        have hq2 : (decide (w > (20 : Int))) = false := by
          rcases Bool.eq_false_or_eq_true (decide (w > (20 : Int))) with h | h
          · exfalso; (first | (simp_all only [Bool.and_eq_true, Bool.not_eq_true', Bool.false_eq_true, Bool.true_eq_false, reduceCtorEq]; done) | (simp_all; done) | (simp only [sx, sy, eq_self, ne_eq, IntKind.wrap_i64, wrapU64, Int.reduceLT] at * <;> first | contradiction | omega))
          · exact h
        have hq3 : (decide (a < (0 : Int))) = false := by
          rcases Bool.eq_false_or_eq_true (decide (a < (0 : Int))) with h | h
          · exfalso; (first | (simp_all only [Bool.and_eq_true, Bool.not_eq_true', Bool.false_eq_true, Bool.true_eq_false, reduceCtorEq]; done) | (simp_all; done) | (simp only [sx, sy, eq_self, ne_eq, IntKind.wrap_i64, wrapU64, Int.reduceLT] at * <;> first | contradiction | omega))
          · exact h
        have hq4 : (decide (a > w)) = false := by
          rcases Bool.eq_false_or_eq_true (decide (a > w)) with h | h
          · exfalso; (first | (simp_all only [Bool.and_eq_true, Bool.not_eq_true', Bool.false_eq_true, Bool.true_eq_false, reduceCtorEq]; done) | (simp_all; done) | (simp only [sx, sy, eq_self, ne_eq, IntKind.wrap_i64, wrapU64, Int.reduceLT] at * <;> first | contradiction | omega))
          · exact h
        have e0 : rTo_c0 a w y o = (a) := rfl; rw [e0]; have e1 : rTo_c1 a w y o = (w) := rfl; rw [e1]; have e2 : rTo_c2 a w y o = ((0 : Int)) := ((bif_f hq0 _ _).trans ((bif_f hq6 _ _).trans ((bif_t hq8 _ _).trans rfl))); rw [e2]; exact rTo_p4 a w y o h1 h2 hq0 hq6 hq8 hq1 hq2 hq3 hq4
      ·
        rcases Bool.eq_false_or_eq_true (o == (4 : Int)) with hq9 | hq9
        ·
          have hq1 : (decide (w < (1 : Int))) = false := by
            rcases Bool.eq_false_or_eq_true (decide (w < (1 : Int))) with h | h
            · exfalso; (first | (simp_all only [Bool.and_eq_true, Bool.not_eq_true', Bool.false_eq_true, Bool.true_eq_false, reduceCtorEq]; done) | (simp_all; done) | (simp only [sx, sy, eq_self, ne_eq, IntKind.wrap_i64, wrapU64, Int.reduceLT] at * <;> first | contradiction | omega))
            · exact h
          have hq2 : (decide (w > (20 : Int))) = false := by
            rcases Bool.eq_false_or_eq_true (decide (w > (20 : Int))) with h | h
            · exfalso; (first | (simp_all only [Bool.and_eq_true, Bool.not_eq_true', Bool.false_eq_true, Bool.true_eq_false, reduceCtorEq]; done) | (simp_all; done) | (simp only [sx, sy, eq_self, ne_eq, IntKind.wrap_i64, wrapU64, Int.reduceLT] at * <;> first | contradiction | omega))
            · exact h
          have hq3 : (decide (a < (0 : Int))) = false := by
            rcases Bool.eq_false_or_eq_true (decide (a < (0 : Int))) with h | h
            · exfalso; (first | (simp_all only [Bool.and_eq_true, Bool.not_eq_true', Bool.false_eq_true, Bool.true_eq_false, reduceCtorEq]; done) | (simp_all; done) | (simp only [sx, sy, eq_self, ne_eq, IntKind.wrap_i64, wrapU64, Int.reduceLT] at * <;> first | contradiction | omega))
            · exact h
          have hq4 : (decide (a > w)) = false := by
            rcases Bool.eq_false_or_eq_true (decide (a > w)) with h | h
            · exfalso; (first | (simp_all only [Bool.and_eq_true, Bool.not_eq_true', Bool.false_eq_true, Bool.true_eq_false, reduceCtorEq]; done) | (simp_all; done) | (simp only [sx, sy, eq_self, ne_eq, IntKind.wrap_i64, wrapU64, Int.reduceLT] at * <;> first | contradiction | omega))
            · exact h
          have hq10 : (decide (IntKind.i64.wrap ((0 : Int) - y) < (-1 : Int))) = false := by
            rcases Bool.eq_false_or_eq_true (decide (IntKind.i64.wrap ((0 : Int) - y) < (-1 : Int))) with h | h
            · exfalso; (first | (simp_all only [Bool.and_eq_true, Bool.not_eq_true', Bool.false_eq_true, Bool.true_eq_false, reduceCtorEq]; done) | (simp_all; done) | (simp only [sx, sy, eq_self, ne_eq, IntKind.wrap_i64, wrapU64, Int.reduceLT] at * <;> first | contradiction | omega))
            · exact h
          have hq11 : (decide (IntKind.i64.wrap ((0 : Int) - y) > (1 : Int))) = false := by
            rcases Bool.eq_false_or_eq_true (decide (IntKind.i64.wrap ((0 : Int) - y) > (1 : Int))) with h | h
            · exfalso; (first | (simp_all only [Bool.and_eq_true, Bool.not_eq_true', Bool.false_eq_true, Bool.true_eq_false, reduceCtorEq]; done) | (simp_all; done) | (simp only [sx, sy, eq_self, ne_eq, IntKind.wrap_i64, wrapU64, Int.reduceLT] at * <;> first | contradiction | omega))
            · exact h
          rcases Bool.eq_false_or_eq_true (IntKind.i64.wrap ((0 : Int) - y) == (1 : Int)) with hq12 | hq12
          ·
            rcases Bool.eq_false_or_eq_true (a == w) with hq5 | hq5
            ·
              have e0 : rTo_c0 a w y o = (a) := rfl; rw [e0]; have e1 : rTo_c1 a w y o = (w) := rfl; rw [e1]; have e2 : rTo_c2 a w y o = ((0 : Int)) := ((bif_f hq0 _ _).trans ((bif_f hq6 _ _).trans ((bif_f hq8 _ _).trans ((bif_t hq9 _ _).trans ((bif_t hq12 _ _).trans ((bif_t hq5 _ _).trans rfl)))))); rw [e2]; exact rTo_p5 a w y o h1 h2 hq0 hq6 hq8 hq9 hq1 hq2 hq3 hq4 hq10 hq11 hq12 hq5
            ·
              have hq13 : (IntKind.i64.wrap ((0 : Int) - y) == (-1 : Int)) = false := by
                rcases Bool.eq_false_or_eq_true (IntKind.i64.wrap ((0 : Int) - y) == (-1 : Int)) with h | h
                · exfalso; (first | (simp_all only [Bool.and_eq_true, Bool.not_eq_true', Bool.false_eq_true, Bool.true_eq_false, reduceCtorEq]; done) | (simp_all; done) | (simp only [sx, sy, eq_self, ne_eq, IntKind.wrap_i64, wrapU64, Int.reduceLT] at * <;> first | contradiction | omega))
                · exact h
              have e0 : rTo_c0 a w y o = (a) := rfl; rw [e0]; have e1 : rTo_c1 a w y o = (w) := rfl; rw [e1]; have e2 : rTo_c2 a w y o = (IntKind.i64.wrap ((0 : Int) - y)) := ((bif_f hq0 _ _).trans ((bif_f hq6 _ _).trans ((bif_f hq8 _ _).trans ((bif_t hq9 _ _).trans ((bif_t hq12 _ _).trans ((bif_f hq5 _ _).trans rfl)))))); rw [e2]; exact rTo_p6 a w y o h1 h2 hq0 hq6 hq8 hq9 hq1 hq2 hq3 hq4 hq10 hq11 hq12 hq5 hq13
          ·
            rcases Bool.eq_false_or_eq_true (IntKind.i64.wrap ((0 : Int) - y) == (-1 : Int)) with hq13 | hq13
            ·
              rcases Bool.eq_false_or_eq_true (a == (0 : Int)) with hq7 | hq7
              ·
                have e0 : rTo_c0 a w y o = (a) := rfl; rw [e0]; have e1 : rTo_c1 a w y o = (w) := rfl; rw [e1]; have e2 : rTo_c2 a w y o = ((0 : Int)) := ((bif_f hq0 _ _).trans ((bif_f hq6 _ _).trans ((bif_f hq8 _ _).trans ((bif_t hq9 _ _).trans ((bif_f hq12 _ _).trans ((bif_t hq13 _ _).trans ((bif_t hq7 _ _).trans rfl))))))); rw [e2]; exact rTo_p7 a w y o h1 h2 hq0 hq6 hq8 hq9 hq1 hq2 hq3 hq4 hq10 hq11 hq12 hq13 hq7
              ·
                have e0 : rTo_c0 a w y o = (a) := rfl; rw [e0]; have e1 : rTo_c1 a w y o = (w) := rfl; rw [e1]; have e2 : rTo_c2 a w y o = (IntKind.i64.wrap ((0 : Int) - y)) := ((bif_f hq0 _ _).trans ((bif_f hq6 _ _).trans ((bif_f hq8 _ _).trans ((bif_t hq9 _ _).trans ((bif_f hq12 _ _).trans ((bif_t hq13 _ _).trans ((bif_f hq7 _ _).trans rfl))))))); rw [e2]; exact rTo_p8 a w y o h1 h2 hq0 hq6 hq8 hq9 hq1 hq2 hq3 hq4 hq10 hq11 hq12 hq13 hq7
            ·
              have e0 : rTo_c0 a w y o = (a) := rfl; rw [e0]; have e1 : rTo_c1 a w y o = (w) := rfl; rw [e1]; have e2 : rTo_c2 a w y o = (IntKind.i64.wrap ((0 : Int) - y)) := ((bif_f hq0 _ _).trans ((bif_f hq6 _ _).trans ((bif_f hq8 _ _).trans ((bif_t hq9 _ _).trans ((bif_f hq12 _ _).trans ((bif_f hq13 _ _).trans rfl)))))); rw [e2]; exact rTo_p9 a w y o h1 h2 hq0 hq6 hq8 hq9 hq1 hq2 hq3 hq4 hq10 hq11 hq12 hq13
        ·
          have hq1 : (decide (w < (1 : Int))) = false := by
            rcases Bool.eq_false_or_eq_true (decide (w < (1 : Int))) with h | h
            · exfalso; (first | (simp_all only [Bool.and_eq_true, Bool.not_eq_true', Bool.false_eq_true, Bool.true_eq_false, reduceCtorEq]; done) | (simp_all; done) | (simp only [sx, sy, eq_self, ne_eq, IntKind.wrap_i64, wrapU64, Int.reduceLT] at * <;> first | contradiction | omega))
            · exact h
          have hq2 : (decide (w > (20 : Int))) = false := by
            rcases Bool.eq_false_or_eq_true (decide (w > (20 : Int))) with h | h
            · exfalso; (first | (simp_all only [Bool.and_eq_true, Bool.not_eq_true', Bool.false_eq_true, Bool.true_eq_false, reduceCtorEq]; done) | (simp_all; done) | (simp only [sx, sy, eq_self, ne_eq, IntKind.wrap_i64, wrapU64, Int.reduceLT] at * <;> first | contradiction | omega))
            · exact h
          have hq3 : (decide (a < (0 : Int))) = false := by
            rcases Bool.eq_false_or_eq_true (decide (a < (0 : Int))) with h | h
            · exfalso; (first | (simp_all only [Bool.and_eq_true, Bool.not_eq_true', Bool.false_eq_true, Bool.true_eq_false, reduceCtorEq]; done) | (simp_all; done) | (simp only [sx, sy, eq_self, ne_eq, IntKind.wrap_i64, wrapU64, Int.reduceLT] at * <;> first | contradiction | omega))
            · exact h
          have hq4 : (decide (a > w)) = false := by
            rcases Bool.eq_false_or_eq_true (decide (a > w)) with h | h
            · exfalso; (first | (simp_all only [Bool.and_eq_true, Bool.not_eq_true', Bool.false_eq_true, Bool.true_eq_false, reduceCtorEq]; done) | (simp_all; done) | (simp only [sx, sy, eq_self, ne_eq, IntKind.wrap_i64, wrapU64, Int.reduceLT] at * <;> first | contradiction | omega))
            · exact h
          have hq14 : (decide (y < (-1 : Int))) = false := by
            rcases Bool.eq_false_or_eq_true (decide (y < (-1 : Int))) with h | h
            · exfalso; (first | (simp_all only [Bool.and_eq_true, Bool.not_eq_true', Bool.false_eq_true, Bool.true_eq_false, reduceCtorEq]; done) | (simp_all; done) | (simp only [sx, sy, eq_self, ne_eq, IntKind.wrap_i64, wrapU64, Int.reduceLT] at * <;> first | contradiction | omega))
            · exact h
          have hq15 : (decide (y > (1 : Int))) = false := by
            rcases Bool.eq_false_or_eq_true (decide (y > (1 : Int))) with h | h
            · exfalso; (first | (simp_all only [Bool.and_eq_true, Bool.not_eq_true', Bool.false_eq_true, Bool.true_eq_false, reduceCtorEq]; done) | (simp_all; done) | (simp only [sx, sy, eq_self, ne_eq, IntKind.wrap_i64, wrapU64, Int.reduceLT] at * <;> first | contradiction | omega))
            · exact h
          rcases Bool.eq_false_or_eq_true (y == (1 : Int)) with hq16 | hq16
          ·
            have hq5 : (a == w) = false := by
              rcases Bool.eq_false_or_eq_true (a == w) with h | h
              · exfalso; (first | (simp_all only [Bool.and_eq_true, Bool.not_eq_true', Bool.false_eq_true, Bool.true_eq_false, reduceCtorEq]; done) | (simp_all; done) | (simp only [sx, sy, eq_self, ne_eq, IntKind.wrap_i64, wrapU64, Int.reduceLT] at * <;> first | contradiction | omega))
              · exact h
            have hq17 : (y == (-1 : Int)) = false := by
              rcases Bool.eq_false_or_eq_true (y == (-1 : Int)) with h | h
              · exfalso; (first | (simp_all only [Bool.and_eq_true, Bool.not_eq_true', Bool.false_eq_true, Bool.true_eq_false, reduceCtorEq]; done) | (simp_all; done) | (simp only [sx, sy, eq_self, ne_eq, IntKind.wrap_i64, wrapU64, Int.reduceLT] at * <;> first | contradiction | omega))
              · exact h
            have e0 : rTo_c0 a w y o = (a) := rfl; rw [e0]; have e1 : rTo_c1 a w y o = (w) := rfl; rw [e1]; have e2 : rTo_c2 a w y o = (y) := ((bif_f hq0 _ _).trans ((bif_f hq6 _ _).trans ((bif_f hq8 _ _).trans ((bif_f hq9 _ _).trans rfl)))); rw [e2]; exact rTo_p10 a w y o h1 h2 hq0 hq6 hq8 hq9 hq1 hq2 hq3 hq4 hq14 hq15 hq16 hq5 hq17
          ·
            rcases Bool.eq_false_or_eq_true (y == (-1 : Int)) with hq17 | hq17
            ·
              have hq7 : (a == (0 : Int)) = false := by
                rcases Bool.eq_false_or_eq_true (a == (0 : Int)) with h | h
                · exfalso; (first | (simp_all only [Bool.and_eq_true, Bool.not_eq_true', Bool.false_eq_true, Bool.true_eq_false, reduceCtorEq]; done) | (simp_all; done) | (simp only [sx, sy, eq_self, ne_eq, IntKind.wrap_i64, wrapU64, Int.reduceLT] at * <;> first | contradiction | omega))
                · exact h
              have e0 : rTo_c0 a w y o = (a) := rfl; rw [e0]; have e1 : rTo_c1 a w y o = (w) := rfl; rw [e1]; have e2 : rTo_c2 a w y o = (y) := ((bif_f hq0 _ _).trans ((bif_f hq6 _ _).trans ((bif_f hq8 _ _).trans ((bif_f hq9 _ _).trans rfl)))); rw [e2]; exact rTo_p11 a w y o h1 h2 hq0 hq6 hq8 hq9 hq1 hq2 hq3 hq4 hq14 hq15 hq16 hq17 hq7
            ·
              have e0 : rTo_c0 a w y o = (a) := rfl; rw [e0]; have e1 : rTo_c1 a w y o = (w) := rfl; rw [e1]; have e2 : rTo_c2 a w y o = (y) := ((bif_f hq0 _ _).trans ((bif_f hq6 _ _).trans ((bif_f hq8 _ _).trans ((bif_f hq9 _ _).trans rfl)))); rw [e2]; exact rTo_p12 a w y o h1 h2 hq0 hq6 hq8 hq9 hq1 hq2 hq3 hq4 hq14 hq15 hq16 hq17

end Go.Proofs.Ytpaojoahbmlolaa
