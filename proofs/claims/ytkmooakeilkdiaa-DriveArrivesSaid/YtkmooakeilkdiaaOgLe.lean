/- Layer 13: DriveArrives (e). -/
import Derived.Test.YtkmooakeilkdiaaOgK0
namespace Go.Proofs.Ytkmooakeilkdiaa
open Go Go.RowKit
set_option linter.unusedVariables false
set_option linter.unusedSimpArgs false
set_option linter.unnecessarySimpa false
noncomputable def drE_c0 (a b n : Int) : Bool := (mP a == mP b && (mP a == mP b && true))
theorem drE_p0 (a b n : Int) (h1 : (mP a) = (mP b)) (h2 : 0 ≤ (mK n) ∧ (mK n) ≤ 5) (hb : 0 ≤ (mP a) ∧ (mP a) ≤ 399 ∧ 0 ≤ (mP b) ∧ (mP b) ≤ 399 ∧ 1 ≤ (mS n) ∧ (mS n) ≤ 20) (h3 : nN (mP a) (mP a) 0 0 0 (mS n) (mK n) = 0) (h3b : nN (mP a) (mP b) 0 0 0 (mS n) (mK n) = 0) (h4 : okD (mP a) (mP a) 0 0 0 20 5 = true) (h5 : okD (mP a) (mP a) 0 0 0 (mS n) (mK n) = true) (h6 : okD (mP a) (mP b) 0 0 0 (mS n) (mK n) = true) (hq0 : (decide (mP a ≥ (0 : Int))) = true) (hq1 : (!decide (mP a ≤ (63000 : Int))) = false) (hq2 : (okD (mP a) (mP a) (0 : Int) (0 : Int) (0 : Int) (20 : Int) (5 : Int)) = true) (hq3 : (decide (mP b ≥ (0 : Int))) = true) (hq4 : (!decide (mP b ≤ (63000 : Int))) = false) (hq5 : (decide (mK n ≥ (0 : Int))) = true) (hq6 : (!decide (mK n ≤ (5 : Int))) = false) (hq7 : (mP b == mP a) = true) (hq8 : (okD (mP a) (mP a) (0 : Int) (0 : Int) (0 : Int) (mS n) (mK n)) = true) : Known Try.prog [] 5 [.int .i64 a, .int .i64 b, .int .i64 n] (.bool (mP a == mP b && (mP a == mP b && true))) :=
  open_res mix tabL2_ok (T := tabL2) (fuel := 3000) (ans := [(2, .b 1), (5, .b 0), (6, .b 1), (8, .b 1), (11, .b 0), (13, .b 1), (18, .b 0), (20, .b 1), (21, .b 1)]) (log := [(okD (mP a) (mP a) (0 : Int) (0 : Int) (0 : Int) (mS n) (mK n)) = true, (mP b == mP a) = true, (!decide (mK n ≤ (5 : Int))) = false, (decide (mK n ≥ (0 : Int))) = true, (!decide (mP b ≤ (63000 : Int))) = false, (decide (mP b ≥ (0 : Int))) = true, (okD (mP a) (mP a) (0 : Int) (0 : Int) (0 : Int) (20 : Int) (5 : Int)) = true, (!decide (mP a ≤ (63000 : Int))) = false, (decide (mP a ≥ (0 : Int))) = true]) (by kernel_rfl) ⟨hq8, hq7, hq6, hq5, hq4, hq3, hq2, hq1, hq0, trivial⟩ (by kernel_rfl)
set_option maxHeartbeats 8000000 in
theorem drE (a b n : Int) (h1 : (mP a) = (mP b)) (h2 : 0 ≤ (mK n) ∧ (mK n) ≤ 5) (hb : 0 ≤ (mP a) ∧ (mP a) ≤ 399 ∧ 0 ≤ (mP b) ∧ (mP b) ≤ 399 ∧ 1 ≤ (mS n) ∧ (mS n) ≤ 20) (h3 : nN (mP a) (mP a) 0 0 0 (mS n) (mK n) = 0) (h3b : nN (mP a) (mP b) 0 0 0 (mS n) (mK n) = 0) (h4 : okD (mP a) (mP a) 0 0 0 20 5 = true) (h5 : okD (mP a) (mP a) 0 0 0 (mS n) (mK n) = true) (h6 : okD (mP a) (mP b) 0 0 0 (mS n) (mK n) = true) : Known Try.prog [] 5 [.int .i64 a, .int .i64 b, .int .i64 n] (.bool (drE_c0 a b n)) := by
  have hq0 : (decide (mP a ≥ (0 : Int))) = true := by
    rcases Bool.eq_false_or_eq_true (decide (mP a ≥ (0 : Int))) with h | h
    · exact h
    · exfalso; (first | (simp_all only [Bool.and_eq_true, Bool.not_eq_true', Bool.false_eq_true, Bool.true_eq_false, reduceCtorEq]; done) | (simp_all; done) | (simp only [sx, sy, eq_self, ne_eq, IntKind.wrap_i64, wrapU64, Int.reduceLT] at * <;> first | contradiction | omega))
  have hq1 : (!decide (mP a ≤ (63000 : Int))) = false := by
    rcases Bool.eq_false_or_eq_true (!decide (mP a ≤ (63000 : Int))) with h | h
    · exfalso; (first | (simp_all only [Bool.and_eq_true, Bool.not_eq_true', Bool.false_eq_true, Bool.true_eq_false, reduceCtorEq]; done) | (simp_all; done) | (simp only [sx, sy, eq_self, ne_eq, IntKind.wrap_i64, wrapU64, Int.reduceLT] at * <;> first | contradiction | omega))
    · exact h
  have hq2 : (okD (mP a) (mP a) (0 : Int) (0 : Int) (0 : Int) (20 : Int) (5 : Int)) = true := by
    rcases Bool.eq_false_or_eq_true (okD (mP a) (mP a) (0 : Int) (0 : Int) (0 : Int) (20 : Int) (5 : Int)) with h | h
    · exact h
    · exfalso; (first | (simp_all only [Bool.and_eq_true, Bool.not_eq_true', Bool.false_eq_true, Bool.true_eq_false, reduceCtorEq]; done) | (simp_all; done) | (simp only [sx, sy, eq_self, ne_eq, IntKind.wrap_i64, wrapU64, Int.reduceLT] at * <;> first | contradiction | omega))
  have hq3 : (decide (mP b ≥ (0 : Int))) = true := by
    rcases Bool.eq_false_or_eq_true (decide (mP b ≥ (0 : Int))) with h | h
    · exact h
    · exfalso; (first | (simp_all only [Bool.and_eq_true, Bool.not_eq_true', Bool.false_eq_true, Bool.true_eq_false, reduceCtorEq]; done) | (simp_all; done) | (simp only [sx, sy, eq_self, ne_eq, IntKind.wrap_i64, wrapU64, Int.reduceLT] at * <;> first | contradiction | omega))
  have hq4 : (!decide (mP b ≤ (63000 : Int))) = false := by
    rcases Bool.eq_false_or_eq_true (!decide (mP b ≤ (63000 : Int))) with h | h
    · exfalso; (first | (simp_all only [Bool.and_eq_true, Bool.not_eq_true', Bool.false_eq_true, Bool.true_eq_false, reduceCtorEq]; done) | (simp_all; done) | (simp only [sx, sy, eq_self, ne_eq, IntKind.wrap_i64, wrapU64, Int.reduceLT] at * <;> first | contradiction | omega))
    · exact h
  have hq5 : (decide (mK n ≥ (0 : Int))) = true := by
    rcases Bool.eq_false_or_eq_true (decide (mK n ≥ (0 : Int))) with h | h
    · exact h
    · exfalso; (first | (simp_all only [Bool.and_eq_true, Bool.not_eq_true', Bool.false_eq_true, Bool.true_eq_false, reduceCtorEq]; done) | (simp_all; done) | (simp only [sx, sy, eq_self, ne_eq, IntKind.wrap_i64, wrapU64, Int.reduceLT] at * <;> first | contradiction | omega))
  have hq6 : (!decide (mK n ≤ (5 : Int))) = false := by
    rcases Bool.eq_false_or_eq_true (!decide (mK n ≤ (5 : Int))) with h | h
    · exfalso; (first | (simp_all only [Bool.and_eq_true, Bool.not_eq_true', Bool.false_eq_true, Bool.true_eq_false, reduceCtorEq]; done) | (simp_all; done) | (simp only [sx, sy, eq_self, ne_eq, IntKind.wrap_i64, wrapU64, Int.reduceLT] at * <;> first | contradiction | omega))
    · exact h
  have hq7 : (mP b == mP a) = true := by
    rcases Bool.eq_false_or_eq_true (mP b == mP a) with h | h
    · exact h
    · exfalso; (first | (simp_all only [Bool.and_eq_true, Bool.not_eq_true', Bool.false_eq_true, Bool.true_eq_false, reduceCtorEq]; done) | (simp_all; done) | (simp only [sx, sy, eq_self, ne_eq, IntKind.wrap_i64, wrapU64, Int.reduceLT] at * <;> first | contradiction | omega))
  have hq8 : (okD (mP a) (mP a) (0 : Int) (0 : Int) (0 : Int) (mS n) (mK n)) = true := by
    rcases Bool.eq_false_or_eq_true (okD (mP a) (mP a) (0 : Int) (0 : Int) (0 : Int) (mS n) (mK n)) with h | h
    · exact h
    · exfalso; (first | (simp_all only [Bool.and_eq_true, Bool.not_eq_true', Bool.false_eq_true, Bool.true_eq_false, reduceCtorEq]; done) | (simp_all; done) | (simp only [sx, sy, eq_self, ne_eq, IntKind.wrap_i64, wrapU64, Int.reduceLT] at * <;> first | contradiction | omega))
  have e0 : drE_c0 a b n = (mP a == mP b && (mP a == mP b && true)) := rfl; rw [e0]; exact drE_p0 a b n h1 h2 hb h3 h3b h4 h5 h6 hq0 hq1 hq2 hq3 hq4 hq5 hq6 hq7 hq8

end Go.Proofs.Ytkmooakeilkdiaa
