import Derived.Test.YtcjlidciniiofaaDA15
import Derived.Test.YtcjlidciniiofaaKnMoveKnown
import Derived.ProofKit
import Derived.IntWalk
set_option linter.unnecessarySimpa false
set_option linter.unusedSimpArgs false
set_option linter.unusedVariables false
namespace Go.Proofs.Ytcjlidciniiofaa
open Go Go.RowKit
set_option maxHeartbeats 8000000
set_option maxRecDepth 100000
theorem qNext (v l m : Int) (hg : (decide (0 ≤ v ∧ v ≤ m ∧ 1 ≤ m ∧ m ≤ 20 ∧ 1 ≤ l ∧ l ≤ 63000 ∧ (v = 0 ∨ rT (v - 1) ≤ l))) = true) : Known Try.prog [] 70 [.int .i64 v, .int .i64 l, .int .i64 m] (.tuple #[.int .i64 (nxV m v l), .int .i64 0]) := by have h := of_decide_eq_true hg; exact pNext_is h.1 h.2.1 ⟨h.2.2.1, h.2.2.2.1⟩ ⟨h.2.2.2.2.1, h.2.2.2.2.2.1⟩ h.2.2.2.2.2.2
noncomputable def qNext_k : List Value → Option (Bool × Value)
 | [.int .i64 v, .int .i64 l, .int .i64 m] => some (decide (0 ≤ v ∧ v ≤ m ∧ 1 ≤ m ∧ m ≤ 20 ∧ 1 ≤ l ∧ l ≤ 63000 ∧ (v = 0 ∨ rT (v - 1) ≤ l)), .tuple #[.int .i64 (nxV m v l), .int .i64 0])
 | _ => none
theorem qNext_ok : ∀ args v, qNext_k args = some (true, v) → Known Try.prog [] 70 args v := by
 intro args v h
 unfold qNext_k at h
 split at h
 ·injection h with h; injection h with hg h; subst h; exact qNext _ _ _ hg
 ·cases h
theorem dCheck0_p0 (p g v l : Int) (h1 : 0 ≤ p ∧ p ≤ 63000 ∧ 0 ≤ g ∧ g ≤ 63000 ∧ 0 ≤ v ∧ v ≤ 20 ∧ 1 ≤ 20 ∧ 20 ≤ 20 ∧ 0 ≤ 5 ∧ 5 ≤ 5 ∧ 0 ≤ l ∧ l ≤ 5 ∧ p = g ∧ v = 0 ∧ l = 0) (hq0 : (decide (p ≥ (0 : Int))) = true) (hq1 : (decide (p ≤ (63000 : Int))) = true) (hq2 : (decide (g ≥ (0 : Int))) = true) (hq3 : (decide (g ≤ (63000 : Int))) = true) (hq4 : (decide (v ≥ (0 : Int))) = true) (hq5 : (decide (v ≤ (20 : Int))) = true) (hq6 : (decide (l ≥ (0 : Int))) = true) (hq7 : (!decide (l ≤ (5 : Int))) = false) (hq8 : (!false == decide (l > (0 : Int))) = false) (hq9 : (!true == (p == g)) = false) (hq10 : (v != (0 : Int)) = false) : Known Try.prog [] 46 [.agg #[.int .i64 p, .int .i64 g, .int .i64 v, .int .i64 0, .int .i64 l]] (.int .i64 ((0 : Int))) :=
 open_res mix tabT_ok (T := tabT) (fuel := 3000) (ans := [(0, .b 1), (3, .b 1), (6, .b 1), (10, .b 1), (14, .b 1), (18, .b 1), (29, .b 1), (33, .b 0), (42, .b 0), (50, .b 0), (71, .b 0)]) (log := [(v != (0 : Int)) = false, (!true == (p == g)) = false, (!false == decide (l > (0 : Int))) = false, (!decide (l ≤ (5 : Int))) = false, (decide (l ≥ (0 : Int))) = true, (decide (v ≤ (20 : Int))) = true, (decide (v ≥ (0 : Int))) = true, (decide (g ≤ (63000 : Int))) = true, (decide (g ≥ (0 : Int))) = true, (decide (p ≤ (63000 : Int))) = true, (decide (p ≥ (0 : Int))) = true]) (by kernel_rfl) ⟨hq10, hq9, hq8, hq7, hq6, hq5, hq4, hq3, hq2, hq1, hq0, trivial⟩ (by kernel_rfl)
set_option maxHeartbeats 8000000 in
theorem dCheck0 (p g v l : Int) (h1 : 0 ≤ p ∧ p ≤ 63000 ∧ 0 ≤ g ∧ g ≤ 63000 ∧ 0 ≤ v ∧ v ≤ 20 ∧ 1 ≤ 20 ∧ 20 ≤ 20 ∧ 0 ≤ 5 ∧ 5 ≤ 5 ∧ 0 ≤ l ∧ l ≤ 5 ∧ p = g ∧ v = 0 ∧ l = 0) : Known Try.prog [] 46 [.agg #[.int .i64 p, .int .i64 g, .int .i64 v, .int .i64 0, .int .i64 l]] (.int .i64 ((0 : Int))) := by
 have hq0 : (decide (p ≥ (0 : Int))) = true := by
  rcases Bool.eq_false_or_eq_true (decide (p ≥ (0 : Int))) with h | h
  ·exact h
  ·exfalso; (first | (simp_all only [Bool.and_eq_true, Bool.not_eq_true', Bool.false_eq_true, Bool.true_eq_false, reduceCtorEq]; done) | (simp only [sx, sy, eq_self, ne_eq, IntKind.wrap_i64, wrapU64, Int.reduceLT] at * <;> first | with_reducible contradiction | omega) | omega | ((try simp only [sx, sy, eq_self, ne_eq, IntKind.wrap_i64, wrapU64, Int.reduceLT] at *) <;> omega) | (simp_all; done))
 have hq1 : (decide (p ≤ (63000 : Int))) = true := by
  rcases Bool.eq_false_or_eq_true (decide (p ≤ (63000 : Int))) with h | h
  ·exact h
  ·exfalso; (first | (simp_all only [Bool.and_eq_true, Bool.not_eq_true', Bool.false_eq_true, Bool.true_eq_false, reduceCtorEq]; done) | (simp only [sx, sy, eq_self, ne_eq, IntKind.wrap_i64, wrapU64, Int.reduceLT] at * <;> first | with_reducible contradiction | omega) | omega | ((try simp only [sx, sy, eq_self, ne_eq, IntKind.wrap_i64, wrapU64, Int.reduceLT] at *) <;> omega) | (simp_all; done))
 have hq2 : (decide (g ≥ (0 : Int))) = true := by
  rcases Bool.eq_false_or_eq_true (decide (g ≥ (0 : Int))) with h | h
  ·exact h
  ·exfalso; (first | (simp_all only [Bool.and_eq_true, Bool.not_eq_true', Bool.false_eq_true, Bool.true_eq_false, reduceCtorEq]; done) | (simp only [sx, sy, eq_self, ne_eq, IntKind.wrap_i64, wrapU64, Int.reduceLT] at * <;> first | with_reducible contradiction | omega) | omega | ((try simp only [sx, sy, eq_self, ne_eq, IntKind.wrap_i64, wrapU64, Int.reduceLT] at *) <;> omega) | (simp_all; done))
 have hq3 : (decide (g ≤ (63000 : Int))) = true := by
  rcases Bool.eq_false_or_eq_true (decide (g ≤ (63000 : Int))) with h | h
  ·exact h
  ·exfalso; (first | (simp_all only [Bool.and_eq_true, Bool.not_eq_true', Bool.false_eq_true, Bool.true_eq_false, reduceCtorEq]; done) | (simp only [sx, sy, eq_self, ne_eq, IntKind.wrap_i64, wrapU64, Int.reduceLT] at * <;> first | with_reducible contradiction | omega) | omega | ((try simp only [sx, sy, eq_self, ne_eq, IntKind.wrap_i64, wrapU64, Int.reduceLT] at *) <;> omega) | (simp_all; done))
 have hq4 : (decide (v ≥ (0 : Int))) = true := by
  rcases Bool.eq_false_or_eq_true (decide (v ≥ (0 : Int))) with h | h
  ·exact h
  ·exfalso; (first | (simp_all only [Bool.and_eq_true, Bool.not_eq_true', Bool.false_eq_true, Bool.true_eq_false, reduceCtorEq]; done) | (simp only [sx, sy, eq_self, ne_eq, IntKind.wrap_i64, wrapU64, Int.reduceLT] at * <;> first | with_reducible contradiction | omega) | omega | ((try simp only [sx, sy, eq_self, ne_eq, IntKind.wrap_i64, wrapU64, Int.reduceLT] at *) <;> omega) | (simp_all; done))
 have hq5 : (decide (v ≤ (20 : Int))) = true := by
  rcases Bool.eq_false_or_eq_true (decide (v ≤ (20 : Int))) with h | h
  ·exact h
  ·exfalso; (first | (simp_all only [Bool.and_eq_true, Bool.not_eq_true', Bool.false_eq_true, Bool.true_eq_false, reduceCtorEq]; done) | (simp only [sx, sy, eq_self, ne_eq, IntKind.wrap_i64, wrapU64, Int.reduceLT] at * <;> first | with_reducible contradiction | omega) | omega | ((try simp only [sx, sy, eq_self, ne_eq, IntKind.wrap_i64, wrapU64, Int.reduceLT] at *) <;> omega) | (simp_all; done))
 have hq6 : (decide (l ≥ (0 : Int))) = true := by
  rcases Bool.eq_false_or_eq_true (decide (l ≥ (0 : Int))) with h | h
  ·exact h
  ·exfalso; (first | (simp_all only [Bool.and_eq_true, Bool.not_eq_true', Bool.false_eq_true, Bool.true_eq_false, reduceCtorEq]; done) | (simp only [sx, sy, eq_self, ne_eq, IntKind.wrap_i64, wrapU64, Int.reduceLT] at * <;> first | with_reducible contradiction | omega) | omega | ((try simp only [sx, sy, eq_self, ne_eq, IntKind.wrap_i64, wrapU64, Int.reduceLT] at *) <;> omega) | (simp_all; done))
 have hq7 : (!decide (l ≤ (5 : Int))) = false := by
  rcases Bool.eq_false_or_eq_true (!decide (l ≤ (5 : Int))) with h | h
  ·exfalso; (first | (simp_all only [Bool.and_eq_true, Bool.not_eq_true', Bool.false_eq_true, Bool.true_eq_false, reduceCtorEq]; done) | (simp only [sx, sy, eq_self, ne_eq, IntKind.wrap_i64, wrapU64, Int.reduceLT] at * <;> first | with_reducible contradiction | omega) | omega | ((try simp only [sx, sy, eq_self, ne_eq, IntKind.wrap_i64, wrapU64, Int.reduceLT] at *) <;> omega) | (simp_all; done))
  ·exact h
 have hq8 : (!false == decide (l > (0 : Int))) = false := by
  rcases Bool.eq_false_or_eq_true (!false == decide (l > (0 : Int))) with h | h
  ·exfalso; (first | (simp_all only [Bool.and_eq_true, Bool.not_eq_true', Bool.false_eq_true, Bool.true_eq_false, reduceCtorEq]; done) | (simp only [sx, sy, eq_self, ne_eq, IntKind.wrap_i64, wrapU64, Int.reduceLT] at * <;> first | with_reducible contradiction | omega) | omega | ((try simp only [sx, sy, eq_self, ne_eq, IntKind.wrap_i64, wrapU64, Int.reduceLT] at *) <;> omega) | (simp_all; done))
  ·exact h
 have hq9 : (!true == (p == g)) = false := by
  rcases Bool.eq_false_or_eq_true (!true == (p == g)) with h | h
  ·exfalso; (first | (simp_all only [Bool.and_eq_true, Bool.not_eq_true', Bool.false_eq_true, Bool.true_eq_false, reduceCtorEq]; done) | (simp only [sx, sy, eq_self, ne_eq, IntKind.wrap_i64, wrapU64, Int.reduceLT] at * <;> first | with_reducible contradiction | omega) | omega | ((try simp only [sx, sy, eq_self, ne_eq, IntKind.wrap_i64, wrapU64, Int.reduceLT] at *) <;> omega) | (simp_all; done))
  ·exact h
 have hq10 : (v != (0 : Int)) = false := by
  rcases Bool.eq_false_or_eq_true (v != (0 : Int)) with h | h
  ·exfalso; (first | (simp_all only [Bool.and_eq_true, Bool.not_eq_true', Bool.false_eq_true, Bool.true_eq_false, reduceCtorEq]; done) | (simp only [sx, sy, eq_self, ne_eq, IntKind.wrap_i64, wrapU64, Int.reduceLT] at * <;> first | with_reducible contradiction | omega) | omega | ((try simp only [sx, sy, eq_self, ne_eq, IntKind.wrap_i64, wrapU64, Int.reduceLT] at *) <;> omega) | (simp_all; done))
  ·exact h
 exact dCheck0_p0 p g v l h1 hq0 hq1 hq2 hq3 hq4 hq5 hq6 hq7 hq8 hq9 hq10
theorem dCheck1_p0 (p g v l : Int) (h1 : 0 ≤ p ∧ p ≤ 63000 ∧ 0 ≤ g ∧ g ≤ 63000 ∧ 0 ≤ v ∧ v ≤ 20 ∧ 1 ≤ 20 ∧ 20 ≤ 20 ∧ 0 ≤ 5 ∧ 5 ≤ 5 ∧ 0 ≤ l ∧ l ≤ 5 ∧ p ≠ g ∧ v = 0 ∧ 0 < l) (hq0 : (decide (p ≥ (0 : Int))) = true) (hq1 : (decide (p ≤ (63000 : Int))) = true) (hq2 : (decide (g ≥ (0 : Int))) = true) (hq3 : (decide (g ≤ (63000 : Int))) = true) (hq4 : (decide (v ≥ (0 : Int))) = true) (hq5 : (decide (v ≤ (20 : Int))) = true) (hq6 : (decide (l ≥ (0 : Int))) = true) (hq7 : (!decide (l ≤ (5 : Int))) = false) (hq8 : (!true == decide (l > (0 : Int))) = false) (hq9 : (!false == (p == g)) = false) (hq10 : (v != (0 : Int)) = false) : Known Try.prog [] 46 [.agg #[.int .i64 p, .int .i64 g, .int .i64 v, .int .i64 1, .int .i64 l]] (.int .i64 ((0 : Int))) :=
 open_res mix tabT_ok (T := tabT) (fuel := 3000) (ans := [(0, .b 1), (3, .b 1), (6, .b 1), (10, .b 1), (14, .b 1), (18, .b 1), (29, .b 1), (33, .b 0), (42, .b 0), (50, .b 0), (71, .b 0)]) (log := [(v != (0 : Int)) = false, (!false == (p == g)) = false, (!true == decide (l > (0 : Int))) = false, (!decide (l ≤ (5 : Int))) = false, (decide (l ≥ (0 : Int))) = true, (decide (v ≤ (20 : Int))) = true, (decide (v ≥ (0 : Int))) = true, (decide (g ≤ (63000 : Int))) = true, (decide (g ≥ (0 : Int))) = true, (decide (p ≤ (63000 : Int))) = true, (decide (p ≥ (0 : Int))) = true]) (by kernel_rfl) ⟨hq10, hq9, hq8, hq7, hq6, hq5, hq4, hq3, hq2, hq1, hq0, trivial⟩ (by kernel_rfl)
set_option maxHeartbeats 8000000 in
theorem dCheck1 (p g v l : Int) (h1 : 0 ≤ p ∧ p ≤ 63000 ∧ 0 ≤ g ∧ g ≤ 63000 ∧ 0 ≤ v ∧ v ≤ 20 ∧ 1 ≤ 20 ∧ 20 ≤ 20 ∧ 0 ≤ 5 ∧ 5 ≤ 5 ∧ 0 ≤ l ∧ l ≤ 5 ∧ p ≠ g ∧ v = 0 ∧ 0 < l) : Known Try.prog [] 46 [.agg #[.int .i64 p, .int .i64 g, .int .i64 v, .int .i64 1, .int .i64 l]] (.int .i64 ((0 : Int))) := by
 have hq0 : (decide (p ≥ (0 : Int))) = true := by
  rcases Bool.eq_false_or_eq_true (decide (p ≥ (0 : Int))) with h | h
  ·exact h
  ·exfalso; (first | (simp_all only [Bool.and_eq_true, Bool.not_eq_true', Bool.false_eq_true, Bool.true_eq_false, reduceCtorEq]; done) | (simp only [sx, sy, eq_self, ne_eq, IntKind.wrap_i64, wrapU64, Int.reduceLT] at * <;> first | with_reducible contradiction | omega) | omega | ((try simp only [sx, sy, eq_self, ne_eq, IntKind.wrap_i64, wrapU64, Int.reduceLT] at *) <;> omega) | (simp_all; done))
 have hq1 : (decide (p ≤ (63000 : Int))) = true := by
  rcases Bool.eq_false_or_eq_true (decide (p ≤ (63000 : Int))) with h | h
  ·exact h
  ·exfalso; (first | (simp_all only [Bool.and_eq_true, Bool.not_eq_true', Bool.false_eq_true, Bool.true_eq_false, reduceCtorEq]; done) | (simp only [sx, sy, eq_self, ne_eq, IntKind.wrap_i64, wrapU64, Int.reduceLT] at * <;> first | with_reducible contradiction | omega) | omega | ((try simp only [sx, sy, eq_self, ne_eq, IntKind.wrap_i64, wrapU64, Int.reduceLT] at *) <;> omega) | (simp_all; done))
 have hq2 : (decide (g ≥ (0 : Int))) = true := by
  rcases Bool.eq_false_or_eq_true (decide (g ≥ (0 : Int))) with h | h
  ·exact h
  ·exfalso; (first | (simp_all only [Bool.and_eq_true, Bool.not_eq_true', Bool.false_eq_true, Bool.true_eq_false, reduceCtorEq]; done) | (simp only [sx, sy, eq_self, ne_eq, IntKind.wrap_i64, wrapU64, Int.reduceLT] at * <;> first | with_reducible contradiction | omega) | omega | ((try simp only [sx, sy, eq_self, ne_eq, IntKind.wrap_i64, wrapU64, Int.reduceLT] at *) <;> omega) | (simp_all; done))
 have hq3 : (decide (g ≤ (63000 : Int))) = true := by
  rcases Bool.eq_false_or_eq_true (decide (g ≤ (63000 : Int))) with h | h
  ·exact h
  ·exfalso; (first | (simp_all only [Bool.and_eq_true, Bool.not_eq_true', Bool.false_eq_true, Bool.true_eq_false, reduceCtorEq]; done) | (simp only [sx, sy, eq_self, ne_eq, IntKind.wrap_i64, wrapU64, Int.reduceLT] at * <;> first | with_reducible contradiction | omega) | omega | ((try simp only [sx, sy, eq_self, ne_eq, IntKind.wrap_i64, wrapU64, Int.reduceLT] at *) <;> omega) | (simp_all; done))
 have hq4 : (decide (v ≥ (0 : Int))) = true := by
  rcases Bool.eq_false_or_eq_true (decide (v ≥ (0 : Int))) with h | h
  ·exact h
  ·exfalso; (first | (simp_all only [Bool.and_eq_true, Bool.not_eq_true', Bool.false_eq_true, Bool.true_eq_false, reduceCtorEq]; done) | (simp only [sx, sy, eq_self, ne_eq, IntKind.wrap_i64, wrapU64, Int.reduceLT] at * <;> first | with_reducible contradiction | omega) | omega | ((try simp only [sx, sy, eq_self, ne_eq, IntKind.wrap_i64, wrapU64, Int.reduceLT] at *) <;> omega) | (simp_all; done))
 have hq5 : (decide (v ≤ (20 : Int))) = true := by
  rcases Bool.eq_false_or_eq_true (decide (v ≤ (20 : Int))) with h | h
  ·exact h
  ·exfalso; (first | (simp_all only [Bool.and_eq_true, Bool.not_eq_true', Bool.false_eq_true, Bool.true_eq_false, reduceCtorEq]; done) | (simp only [sx, sy, eq_self, ne_eq, IntKind.wrap_i64, wrapU64, Int.reduceLT] at * <;> first | with_reducible contradiction | omega) | omega | ((try simp only [sx, sy, eq_self, ne_eq, IntKind.wrap_i64, wrapU64, Int.reduceLT] at *) <;> omega) | (simp_all; done))
 have hq6 : (decide (l ≥ (0 : Int))) = true := by
  rcases Bool.eq_false_or_eq_true (decide (l ≥ (0 : Int))) with h | h
  ·exact h
  ·exfalso; (first | (simp_all only [Bool.and_eq_true, Bool.not_eq_true', Bool.false_eq_true, Bool.true_eq_false, reduceCtorEq]; done) | (simp only [sx, sy, eq_self, ne_eq, IntKind.wrap_i64, wrapU64, Int.reduceLT] at * <;> first | with_reducible contradiction | omega) | omega | ((try simp only [sx, sy, eq_self, ne_eq, IntKind.wrap_i64, wrapU64, Int.reduceLT] at *) <;> omega) | (simp_all; done))
 have hq7 : (!decide (l ≤ (5 : Int))) = false := by
  rcases Bool.eq_false_or_eq_true (!decide (l ≤ (5 : Int))) with h | h
  ·exfalso; (first | (simp_all only [Bool.and_eq_true, Bool.not_eq_true', Bool.false_eq_true, Bool.true_eq_false, reduceCtorEq]; done) | (simp only [sx, sy, eq_self, ne_eq, IntKind.wrap_i64, wrapU64, Int.reduceLT] at * <;> first | with_reducible contradiction | omega) | omega | ((try simp only [sx, sy, eq_self, ne_eq, IntKind.wrap_i64, wrapU64, Int.reduceLT] at *) <;> omega) | (simp_all; done))
  ·exact h
 have hq8 : (!true == decide (l > (0 : Int))) = false := by
  rcases Bool.eq_false_or_eq_true (!true == decide (l > (0 : Int))) with h | h
  ·exfalso; (first | (simp_all only [Bool.and_eq_true, Bool.not_eq_true', Bool.false_eq_true, Bool.true_eq_false, reduceCtorEq]; done) | (simp only [sx, sy, eq_self, ne_eq, IntKind.wrap_i64, wrapU64, Int.reduceLT] at * <;> first | with_reducible contradiction | omega) | omega | ((try simp only [sx, sy, eq_self, ne_eq, IntKind.wrap_i64, wrapU64, Int.reduceLT] at *) <;> omega) | (simp_all; done))
  ·exact h
 have hq9 : (!false == (p == g)) = false := by
  rcases Bool.eq_false_or_eq_true (!false == (p == g)) with h | h
  ·exfalso; (first | (simp_all only [Bool.and_eq_true, Bool.not_eq_true', Bool.false_eq_true, Bool.true_eq_false, reduceCtorEq]; done) | (simp only [sx, sy, eq_self, ne_eq, IntKind.wrap_i64, wrapU64, Int.reduceLT] at * <;> first | with_reducible contradiction | omega) | omega | ((try simp only [sx, sy, eq_self, ne_eq, IntKind.wrap_i64, wrapU64, Int.reduceLT] at *) <;> omega) | (simp_all; done))
  ·exact h
 have hq10 : (v != (0 : Int)) = false := by
  rcases Bool.eq_false_or_eq_true (v != (0 : Int)) with h | h
  ·exfalso; (first | (simp_all only [Bool.and_eq_true, Bool.not_eq_true', Bool.false_eq_true, Bool.true_eq_false, reduceCtorEq]; done) | (simp only [sx, sy, eq_self, ne_eq, IntKind.wrap_i64, wrapU64, Int.reduceLT] at * <;> first | with_reducible contradiction | omega) | omega | ((try simp only [sx, sy, eq_self, ne_eq, IntKind.wrap_i64, wrapU64, Int.reduceLT] at *) <;> omega) | (simp_all; done))
  ·exact h
 exact dCheck1_p0 p g v l h1 hq0 hq1 hq2 hq3 hq4 hq5 hq6 hq7 hq8 hq9 hq10
noncomputable def dCheck2_b10 (p g v l : Int) : Bool := decide (IntKind.i64.wrap (dtri_c0 v - v) > if IntKind.i64.wrap (p - g) > IntKind.i64.wrap (g - p) then IntKind.i64.wrap (p - g) else IntKind.i64.wrap (g - p))
theorem dCheck2_p0 (p g v l : Int) (h1 : 0 ≤ p ∧ p ≤ 63000 ∧ 0 ≤ g ∧ g ≤ 63000 ∧ 0 ≤ v ∧ v ≤ 20 ∧ 1 ≤ 20 ∧ 20 ≤ 20 ∧ 0 ≤ 5 ∧ 5 ≤ 5 ∧ 0 ≤ l ∧ l ≤ 5 ∧ p ≠ g ∧ l = 0 ∧ (v = 0 ∨ rT (v - 1) ≤ (if p < g then g - p else p - g))) (h2 : 0 ≤ dtri_c0 v ∧ dtri_c0 v ≤ 231 ∧ dtri_c0 v = rT (v - 1) + v ∧ (1 ≤ v ∨ dtri_c0 v = 0)) (hq0 : (decide (p ≥ (0 : Int))) = true) (hq1 : (decide (p ≤ (63000 : Int))) = true) (hq2 : (decide (g ≥ (0 : Int))) = true) (hq3 : (decide (g ≤ (63000 : Int))) = true) (hq4 : (decide (v ≥ (0 : Int))) = true) (hq5 : (decide (v ≤ (20 : Int))) = true) (hq6 : (decide (l ≥ (0 : Int))) = true) (hq7 : (!decide (l ≤ (5 : Int))) = false) (hq8 : (!false == decide (l > (0 : Int))) = false) (hq9 : (!false == (p == g)) = false) (hq10 : (dCheck2_b10 p g v l) = false) : Known Try.prog [] 46 [.agg #[.int .i64 p, .int .i64 g, .int .i64 v, .int .i64 2, .int .i64 l]] (.int .i64 ((0 : Int))) :=
 open_res mix tabT_ok (T := tabT) (fuel := 3000) (ans := [(0, .b 1), (3, .b 1), (6, .b 1), (10, .b 1), (14, .b 1), (18, .b 1), (29, .b 1), (33, .b 0), (42, .b 0), (50, .b 0), (62, .b 0)]) (log := [(dCheck2_b10 p g v l) = false, (!false == (p == g)) = false, (!false == decide (l > (0 : Int))) = false, (!decide (l ≤ (5 : Int))) = false, (decide (l ≥ (0 : Int))) = true, (decide (v ≤ (20 : Int))) = true, (decide (v ≥ (0 : Int))) = true, (decide (g ≤ (63000 : Int))) = true, (decide (g ≥ (0 : Int))) = true, (decide (p ≤ (63000 : Int))) = true, (decide (p ≥ (0 : Int))) = true]) (by kernel_rfl) ⟨hq10, hq9, hq8, hq7, hq6, hq5, hq4, hq3, hq2, hq1, hq0, trivial⟩ (by kernel_rfl)
set_option maxHeartbeats 8000000 in
theorem dCheck2 (p g v l : Int) (h1 : 0 ≤ p ∧ p ≤ 63000 ∧ 0 ≤ g ∧ g ≤ 63000 ∧ 0 ≤ v ∧ v ≤ 20 ∧ 1 ≤ 20 ∧ 20 ≤ 20 ∧ 0 ≤ 5 ∧ 5 ≤ 5 ∧ 0 ≤ l ∧ l ≤ 5 ∧ p ≠ g ∧ l = 0 ∧ (v = 0 ∨ rT (v - 1) ≤ (if p < g then g - p else p - g))) (h2 : 0 ≤ dtri_c0 v ∧ dtri_c0 v ≤ 231 ∧ dtri_c0 v = rT (v - 1) + v ∧ (1 ≤ v ∨ dtri_c0 v = 0)) : Known Try.prog [] 46 [.agg #[.int .i64 p, .int .i64 g, .int .i64 v, .int .i64 2, .int .i64 l]] (.int .i64 ((0 : Int))) := by
 have hq0 : (decide (p ≥ (0 : Int))) = true := by
  rcases Bool.eq_false_or_eq_true (decide (p ≥ (0 : Int))) with h | h
  ·exact h
  ·exfalso; (try simp only [dCheck2_b10] at *); (first | (simp_all only [Bool.and_eq_true, Bool.not_eq_true', Bool.false_eq_true, Bool.true_eq_false, reduceCtorEq]; done) | (simp only [sx, sy, eq_self, ne_eq, IntKind.wrap_i64, wrapU64, Int.reduceLT] at * <;> first | with_reducible contradiction | omega) | omega | ((try simp only [sx, sy, eq_self, ne_eq, IntKind.wrap_i64, wrapU64, Int.reduceLT] at *) <;> omega) | (simp_all; done))
 have hq1 : (decide (p ≤ (63000 : Int))) = true := by
  rcases Bool.eq_false_or_eq_true (decide (p ≤ (63000 : Int))) with h | h
  ·exact h
  ·exfalso; (try simp only [dCheck2_b10] at *); (first | (simp_all only [Bool.and_eq_true, Bool.not_eq_true', Bool.false_eq_true, Bool.true_eq_false, reduceCtorEq]; done) | (simp only [sx, sy, eq_self, ne_eq, IntKind.wrap_i64, wrapU64, Int.reduceLT] at * <;> first | with_reducible contradiction | omega) | omega | ((try simp only [sx, sy, eq_self, ne_eq, IntKind.wrap_i64, wrapU64, Int.reduceLT] at *) <;> omega) | (simp_all; done))
 have hq2 : (decide (g ≥ (0 : Int))) = true := by
  rcases Bool.eq_false_or_eq_true (decide (g ≥ (0 : Int))) with h | h
  ·exact h
  ·exfalso; (try simp only [dCheck2_b10] at *); (first | (simp_all only [Bool.and_eq_true, Bool.not_eq_true', Bool.false_eq_true, Bool.true_eq_false, reduceCtorEq]; done) | (simp only [sx, sy, eq_self, ne_eq, IntKind.wrap_i64, wrapU64, Int.reduceLT] at * <;> first | with_reducible contradiction | omega) | omega | ((try simp only [sx, sy, eq_self, ne_eq, IntKind.wrap_i64, wrapU64, Int.reduceLT] at *) <;> omega) | (simp_all; done))
 have hq3 : (decide (g ≤ (63000 : Int))) = true := by
  rcases Bool.eq_false_or_eq_true (decide (g ≤ (63000 : Int))) with h | h
  ·exact h
  ·exfalso; (try simp only [dCheck2_b10] at *); (first | (simp_all only [Bool.and_eq_true, Bool.not_eq_true', Bool.false_eq_true, Bool.true_eq_false, reduceCtorEq]; done) | (simp only [sx, sy, eq_self, ne_eq, IntKind.wrap_i64, wrapU64, Int.reduceLT] at * <;> first | with_reducible contradiction | omega) | omega | ((try simp only [sx, sy, eq_self, ne_eq, IntKind.wrap_i64, wrapU64, Int.reduceLT] at *) <;> omega) | (simp_all; done))
 have hq4 : (decide (v ≥ (0 : Int))) = true := by
  rcases Bool.eq_false_or_eq_true (decide (v ≥ (0 : Int))) with h | h
  ·exact h
  ·exfalso; (try simp only [dCheck2_b10] at *); (first | (simp_all only [Bool.and_eq_true, Bool.not_eq_true', Bool.false_eq_true, Bool.true_eq_false, reduceCtorEq]; done) | (simp only [sx, sy, eq_self, ne_eq, IntKind.wrap_i64, wrapU64, Int.reduceLT] at * <;> first | with_reducible contradiction | omega) | omega | ((try simp only [sx, sy, eq_self, ne_eq, IntKind.wrap_i64, wrapU64, Int.reduceLT] at *) <;> omega) | (simp_all; done))
 have hq5 : (decide (v ≤ (20 : Int))) = true := by
  rcases Bool.eq_false_or_eq_true (decide (v ≤ (20 : Int))) with h | h
  ·exact h
  ·exfalso; (try simp only [dCheck2_b10] at *); (first | (simp_all only [Bool.and_eq_true, Bool.not_eq_true', Bool.false_eq_true, Bool.true_eq_false, reduceCtorEq]; done) | (simp only [sx, sy, eq_self, ne_eq, IntKind.wrap_i64, wrapU64, Int.reduceLT] at * <;> first | with_reducible contradiction | omega) | omega | ((try simp only [sx, sy, eq_self, ne_eq, IntKind.wrap_i64, wrapU64, Int.reduceLT] at *) <;> omega) | (simp_all; done))
 have hq6 : (decide (l ≥ (0 : Int))) = true := by
  rcases Bool.eq_false_or_eq_true (decide (l ≥ (0 : Int))) with h | h
  ·exact h
  ·exfalso; (try simp only [dCheck2_b10] at *); (first | (simp_all only [Bool.and_eq_true, Bool.not_eq_true', Bool.false_eq_true, Bool.true_eq_false, reduceCtorEq]; done) | (simp only [sx, sy, eq_self, ne_eq, IntKind.wrap_i64, wrapU64, Int.reduceLT] at * <;> first | with_reducible contradiction | omega) | omega | ((try simp only [sx, sy, eq_self, ne_eq, IntKind.wrap_i64, wrapU64, Int.reduceLT] at *) <;> omega) | (simp_all; done))
 have hq7 : (!decide (l ≤ (5 : Int))) = false := by
  rcases Bool.eq_false_or_eq_true (!decide (l ≤ (5 : Int))) with h | h
  ·exfalso; (try simp only [dCheck2_b10] at *); (first | (simp_all only [Bool.and_eq_true, Bool.not_eq_true', Bool.false_eq_true, Bool.true_eq_false, reduceCtorEq]; done) | (simp only [sx, sy, eq_self, ne_eq, IntKind.wrap_i64, wrapU64, Int.reduceLT] at * <;> first | with_reducible contradiction | omega) | omega | ((try simp only [sx, sy, eq_self, ne_eq, IntKind.wrap_i64, wrapU64, Int.reduceLT] at *) <;> omega) | (simp_all; done))
  ·exact h
 have hq8 : (!false == decide (l > (0 : Int))) = false := by
  rcases Bool.eq_false_or_eq_true (!false == decide (l > (0 : Int))) with h | h
  ·exfalso; (try simp only [dCheck2_b10] at *); (first | (simp_all only [Bool.and_eq_true, Bool.not_eq_true', Bool.false_eq_true, Bool.true_eq_false, reduceCtorEq]; done) | (simp only [sx, sy, eq_self, ne_eq, IntKind.wrap_i64, wrapU64, Int.reduceLT] at * <;> first | with_reducible contradiction | omega) | omega | ((try simp only [sx, sy, eq_self, ne_eq, IntKind.wrap_i64, wrapU64, Int.reduceLT] at *) <;> omega) | (simp_all; done))
  ·exact h
 have hq9 : (!false == (p == g)) = false := by
  rcases Bool.eq_false_or_eq_true (!false == (p == g)) with h | h
  ·exfalso; (try simp only [dCheck2_b10] at *); (first | (simp_all only [Bool.and_eq_true, Bool.not_eq_true', Bool.false_eq_true, Bool.true_eq_false, reduceCtorEq]; done) | (simp only [sx, sy, eq_self, ne_eq, IntKind.wrap_i64, wrapU64, Int.reduceLT] at * <;> first | with_reducible contradiction | omega) | omega | ((try simp only [sx, sy, eq_self, ne_eq, IntKind.wrap_i64, wrapU64, Int.reduceLT] at *) <;> omega) | (simp_all; done))
  ·exact h
 have hq10 : (dCheck2_b10 p g v l) = false := by
  rcases Bool.eq_false_or_eq_true (dCheck2_b10 p g v l) with h | h
  ·exfalso; (try simp only [dCheck2_b10] at *); (first | (simp_all only [Bool.and_eq_true, Bool.not_eq_true', Bool.false_eq_true, Bool.true_eq_false, reduceCtorEq]; done) | (simp only [sx, sy, eq_self, ne_eq, IntKind.wrap_i64, wrapU64, Int.reduceLT] at * <;> first | with_reducible contradiction | omega) | omega | ((try simp only [sx, sy, eq_self, ne_eq, IntKind.wrap_i64, wrapU64, Int.reduceLT] at *) <;> omega) | (simp_all; done))
  ·exact h
 exact dCheck2_p0 p g v l h1 h2 hq0 hq1 hq2 hq3 hq4 hq5 hq6 hq7 hq8 hq9 hq10
theorem dCheck3_p0 (p g v l : Int) (h1 : 0 ≤ p ∧ p ≤ 63000 ∧ 0 ≤ g ∧ g ≤ 63000 ∧ 0 ≤ v ∧ v ≤ 20 ∧ 1 ≤ 20 ∧ 20 ≤ 20 ∧ 0 ≤ 5 ∧ 5 ≤ 5 ∧ 0 ≤ l ∧ l ≤ 5 ∧ p = g ∧ v = 0 ∧ 0 < l) (hq0 : (decide (p ≥ (0 : Int))) = true) (hq1 : (decide (p ≤ (63000 : Int))) = true) (hq2 : (decide (g ≥ (0 : Int))) = true) (hq3 : (decide (g ≤ (63000 : Int))) = true) (hq4 : (decide (v ≥ (0 : Int))) = true) (hq5 : (decide (v ≤ (20 : Int))) = true) (hq6 : (decide (l ≥ (0 : Int))) = true) (hq7 : (!decide (l ≤ (5 : Int))) = false) (hq8 : (!true == decide (l > (0 : Int))) = false) (hq9 : (!true == (p == g)) = false) (hq10 : (v != (0 : Int)) = false) : Known Try.prog [] 46 [.agg #[.int .i64 p, .int .i64 g, .int .i64 v, .int .i64 3, .int .i64 l]] (.int .i64 ((0 : Int))) :=
 open_res mix tabT_ok (T := tabT) (fuel := 3000) (ans := [(0, .b 1), (3, .b 1), (6, .b 1), (10, .b 1), (14, .b 1), (18, .b 1), (29, .b 1), (33, .b 0), (42, .b 0), (50, .b 0), (71, .b 0)]) (log := [(v != (0 : Int)) = false, (!true == (p == g)) = false, (!true == decide (l > (0 : Int))) = false, (!decide (l ≤ (5 : Int))) = false, (decide (l ≥ (0 : Int))) = true, (decide (v ≤ (20 : Int))) = true, (decide (v ≥ (0 : Int))) = true, (decide (g ≤ (63000 : Int))) = true, (decide (g ≥ (0 : Int))) = true, (decide (p ≤ (63000 : Int))) = true, (decide (p ≥ (0 : Int))) = true]) (by kernel_rfl) ⟨hq10, hq9, hq8, hq7, hq6, hq5, hq4, hq3, hq2, hq1, hq0, trivial⟩ (by kernel_rfl)
set_option maxHeartbeats 8000000 in
theorem dCheck3 (p g v l : Int) (h1 : 0 ≤ p ∧ p ≤ 63000 ∧ 0 ≤ g ∧ g ≤ 63000 ∧ 0 ≤ v ∧ v ≤ 20 ∧ 1 ≤ 20 ∧ 20 ≤ 20 ∧ 0 ≤ 5 ∧ 5 ≤ 5 ∧ 0 ≤ l ∧ l ≤ 5 ∧ p = g ∧ v = 0 ∧ 0 < l) : Known Try.prog [] 46 [.agg #[.int .i64 p, .int .i64 g, .int .i64 v, .int .i64 3, .int .i64 l]] (.int .i64 ((0 : Int))) := by
 have hq0 : (decide (p ≥ (0 : Int))) = true := by
  rcases Bool.eq_false_or_eq_true (decide (p ≥ (0 : Int))) with h | h
  ·exact h
  ·exfalso; (first | (simp_all only [Bool.and_eq_true, Bool.not_eq_true', Bool.false_eq_true, Bool.true_eq_false, reduceCtorEq]; done) | (simp only [sx, sy, eq_self, ne_eq, IntKind.wrap_i64, wrapU64, Int.reduceLT] at * <;> first | with_reducible contradiction | omega) | omega | ((try simp only [sx, sy, eq_self, ne_eq, IntKind.wrap_i64, wrapU64, Int.reduceLT] at *) <;> omega) | (simp_all; done))
 have hq1 : (decide (p ≤ (63000 : Int))) = true := by
  rcases Bool.eq_false_or_eq_true (decide (p ≤ (63000 : Int))) with h | h
  ·exact h
  ·exfalso; (first | (simp_all only [Bool.and_eq_true, Bool.not_eq_true', Bool.false_eq_true, Bool.true_eq_false, reduceCtorEq]; done) | (simp only [sx, sy, eq_self, ne_eq, IntKind.wrap_i64, wrapU64, Int.reduceLT] at * <;> first | with_reducible contradiction | omega) | omega | ((try simp only [sx, sy, eq_self, ne_eq, IntKind.wrap_i64, wrapU64, Int.reduceLT] at *) <;> omega) | (simp_all; done))
 have hq2 : (decide (g ≥ (0 : Int))) = true := by
  rcases Bool.eq_false_or_eq_true (decide (g ≥ (0 : Int))) with h | h
  ·exact h
  ·exfalso; (first | (simp_all only [Bool.and_eq_true, Bool.not_eq_true', Bool.false_eq_true, Bool.true_eq_false, reduceCtorEq]; done) | (simp only [sx, sy, eq_self, ne_eq, IntKind.wrap_i64, wrapU64, Int.reduceLT] at * <;> first | with_reducible contradiction | omega) | omega | ((try simp only [sx, sy, eq_self, ne_eq, IntKind.wrap_i64, wrapU64, Int.reduceLT] at *) <;> omega) | (simp_all; done))
 have hq3 : (decide (g ≤ (63000 : Int))) = true := by
  rcases Bool.eq_false_or_eq_true (decide (g ≤ (63000 : Int))) with h | h
  ·exact h
  ·exfalso; (first | (simp_all only [Bool.and_eq_true, Bool.not_eq_true', Bool.false_eq_true, Bool.true_eq_false, reduceCtorEq]; done) | (simp only [sx, sy, eq_self, ne_eq, IntKind.wrap_i64, wrapU64, Int.reduceLT] at * <;> first | with_reducible contradiction | omega) | omega | ((try simp only [sx, sy, eq_self, ne_eq, IntKind.wrap_i64, wrapU64, Int.reduceLT] at *) <;> omega) | (simp_all; done))
 have hq4 : (decide (v ≥ (0 : Int))) = true := by
  rcases Bool.eq_false_or_eq_true (decide (v ≥ (0 : Int))) with h | h
  ·exact h
  ·exfalso; (first | (simp_all only [Bool.and_eq_true, Bool.not_eq_true', Bool.false_eq_true, Bool.true_eq_false, reduceCtorEq]; done) | (simp only [sx, sy, eq_self, ne_eq, IntKind.wrap_i64, wrapU64, Int.reduceLT] at * <;> first | with_reducible contradiction | omega) | omega | ((try simp only [sx, sy, eq_self, ne_eq, IntKind.wrap_i64, wrapU64, Int.reduceLT] at *) <;> omega) | (simp_all; done))
 have hq5 : (decide (v ≤ (20 : Int))) = true := by
  rcases Bool.eq_false_or_eq_true (decide (v ≤ (20 : Int))) with h | h
  ·exact h
  ·exfalso; (first | (simp_all only [Bool.and_eq_true, Bool.not_eq_true', Bool.false_eq_true, Bool.true_eq_false, reduceCtorEq]; done) | (simp only [sx, sy, eq_self, ne_eq, IntKind.wrap_i64, wrapU64, Int.reduceLT] at * <;> first | with_reducible contradiction | omega) | omega | ((try simp only [sx, sy, eq_self, ne_eq, IntKind.wrap_i64, wrapU64, Int.reduceLT] at *) <;> omega) | (simp_all; done))
 have hq6 : (decide (l ≥ (0 : Int))) = true := by
  rcases Bool.eq_false_or_eq_true (decide (l ≥ (0 : Int))) with h | h
  ·exact h
  ·exfalso; (first | (simp_all only [Bool.and_eq_true, Bool.not_eq_true', Bool.false_eq_true, Bool.true_eq_false, reduceCtorEq]; done) | (simp only [sx, sy, eq_self, ne_eq, IntKind.wrap_i64, wrapU64, Int.reduceLT] at * <;> first | with_reducible contradiction | omega) | omega | ((try simp only [sx, sy, eq_self, ne_eq, IntKind.wrap_i64, wrapU64, Int.reduceLT] at *) <;> omega) | (simp_all; done))
 have hq7 : (!decide (l ≤ (5 : Int))) = false := by
  rcases Bool.eq_false_or_eq_true (!decide (l ≤ (5 : Int))) with h | h
  ·exfalso; (first | (simp_all only [Bool.and_eq_true, Bool.not_eq_true', Bool.false_eq_true, Bool.true_eq_false, reduceCtorEq]; done) | (simp only [sx, sy, eq_self, ne_eq, IntKind.wrap_i64, wrapU64, Int.reduceLT] at * <;> first | with_reducible contradiction | omega) | omega | ((try simp only [sx, sy, eq_self, ne_eq, IntKind.wrap_i64, wrapU64, Int.reduceLT] at *) <;> omega) | (simp_all; done))
  ·exact h
 have hq8 : (!true == decide (l > (0 : Int))) = false := by
  rcases Bool.eq_false_or_eq_true (!true == decide (l > (0 : Int))) with h | h
  ·exfalso; (first | (simp_all only [Bool.and_eq_true, Bool.not_eq_true', Bool.false_eq_true, Bool.true_eq_false, reduceCtorEq]; done) | (simp only [sx, sy, eq_self, ne_eq, IntKind.wrap_i64, wrapU64, Int.reduceLT] at * <;> first | with_reducible contradiction | omega) | omega | ((try simp only [sx, sy, eq_self, ne_eq, IntKind.wrap_i64, wrapU64, Int.reduceLT] at *) <;> omega) | (simp_all; done))
  ·exact h
 have hq9 : (!true == (p == g)) = false := by
  rcases Bool.eq_false_or_eq_true (!true == (p == g)) with h | h
  ·exfalso; (first | (simp_all only [Bool.and_eq_true, Bool.not_eq_true', Bool.false_eq_true, Bool.true_eq_false, reduceCtorEq]; done) | (simp only [sx, sy, eq_self, ne_eq, IntKind.wrap_i64, wrapU64, Int.reduceLT] at * <;> first | with_reducible contradiction | omega) | omega | ((try simp only [sx, sy, eq_self, ne_eq, IntKind.wrap_i64, wrapU64, Int.reduceLT] at *) <;> omega) | (simp_all; done))
  ·exact h
 have hq10 : (v != (0 : Int)) = false := by
  rcases Bool.eq_false_or_eq_true (v != (0 : Int)) with h | h
  ·exfalso; (first | (simp_all only [Bool.and_eq_true, Bool.not_eq_true', Bool.false_eq_true, Bool.true_eq_false, reduceCtorEq]; done) | (simp only [sx, sy, eq_self, ne_eq, IntKind.wrap_i64, wrapU64, Int.reduceLT] at * <;> first | with_reducible contradiction | omega) | omega | ((try simp only [sx, sy, eq_self, ne_eq, IntKind.wrap_i64, wrapU64, Int.reduceLT] at *) <;> omega) | (simp_all; done))
  ·exact h
 exact dCheck3_p0 p g v l h1 hq0 hq1 hq2 hq3 hq4 hq5 hq6 hq7 hq8 hq9 hq10
end Go.Proofs.Ytcjlidciniiofaa
