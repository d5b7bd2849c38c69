import Derived.Test.YtcjlidciniiofaaDD15
import Derived.ProofKit
import Derived.IntWalk
set_option linter.unnecessarySimpa false
set_option linter.unusedSimpArgs false
set_option linter.unusedVariables false
namespace Go.Proofs.Ytcjlidciniiofaa
open Go Go.RowKit
set_option maxHeartbeats 8000000
set_option maxRecDepth 100000
theorem rid_stop {v l : Int} (hl : 0 ≤ l) (h : v = 0 ∨ rT (v - 1) ≤ l) : rT (v - 1) ≤ l := by
 rcases h with e | e
 ·have z : rT (0 - 1) = 0 := by decide
  rw [e, z]; exact hl
 ·exact e
theorem qRid (v l m : Int) (hg : (decide (0 ≤ v ∧ v ≤ m ∧ 1 ≤ m ∧ m ≤ 20 ∧ 0 ≤ l ∧ l ≤ 63000 ∧ (v = 0 ∨ rT (v - 1) ≤ l))) = true) : Known Try.prog [] 64 [.int .i64 v, .int .i64 l, .int .i64 m] (.int .i64 (rD m (l + rT v) - v)) := by have h := of_decide_eq_true hg; exact riding_is h.1 h.2.1 ⟨h.2.2.1, h.2.2.2.1⟩ ⟨h.2.2.2.2.1, h.2.2.2.2.2.1⟩ (rid_stop h.2.2.2.2.1 h.2.2.2.2.2.2)
noncomputable def qRid_k : List Value → Option (Bool × Value)
 | [.int .i64 v, .int .i64 l, .int .i64 m] => some (decide (0 ≤ v ∧ v ≤ m ∧ 1 ≤ m ∧ m ≤ 20 ∧ 0 ≤ l ∧ l ≤ 63000 ∧ (v = 0 ∨ rT (v - 1) ≤ l)), .int .i64 (rD m (l + rT v) - v))
 | _ => none
theorem qRid_ok : ∀ args v, qRid_k args = some (true, v) → Known Try.prog [] 64 args v := by
 intro args v h
 unfold qRid_k at h
 split at h
 ·injection h with h; injection h with hg h; subst h; exact qRid _ _ _ hg
 ·cases h
noncomputable def tabR : GTab := (GTab.fn 64 qRid_k tabK)
theorem tabR_ok : GOk Try.prog [] tabR := (GOk.fn qRid_ok tabK_ok)
noncomputable def pN0_c0 (p g v l s k : Int) : Int := (l)
theorem pN0_p0 (p g v l s k : Int) (h1 : 0 ≤ p ∧ p ≤ 63000 ∧ 0 ≤ g ∧ g ≤ 63000 ∧ 0 ≤ v ∧ v ≤ s ∧ 1 ≤ s ∧ s ≤ 20 ∧ 0 ≤ k ∧ k ≤ 5 ∧ 0 ≤ l ∧ l ≤ k ∧ p = g ∧ v = 0 ∧ l = 0) (hq0 : (decide (p ≥ (0 : Int))) = true) (hq1 : (decide (p ≤ (63000 : Int))) = true) (hq2 : (decide (g ≥ (0 : Int))) = true) (hq3 : (decide (g ≤ (63000 : Int))) = true) (hq4 : (decide (v ≥ (0 : Int))) = true) (hq5 : (decide (v ≤ (20 : Int))) = true) (hq6 : (decide (l ≥ (0 : Int))) = true) (hq7 : (!decide (l ≤ (5 : Int))) = false) (hq8 : (!false == decide (l > (0 : Int))) = false) (hq9 : (!true == (p == g)) = false) (hq10 : (v != (0 : Int)) = false) (hq11 : (decide (s ≥ (1 : Int))) = true) (hq12 : (!decide (s ≤ (20 : Int))) = false) (hq13 : (decide (k ≥ (0 : Int))) = true) (hq14 : (!decide (k ≤ (5 : Int))) = false) (hq15 : (decide (v > s)) = false) (hq16 : (decide (l > k)) = false) : Known Try.prog [] 51 [.agg #[.int .i64 p, .int .i64 g, .int .i64 v, .int .i64 0, .int .i64 l], .int .i64 s, .int .i64 k] (.tuple #[(.int .i64 (l)), (.int .i64 ((0 : Int)))]) :=
 open_res mix tabR_ok (T := tabR) (fuel := 3000) (ans := [(0, .b 1), (3, .b 1), (6, .b 1), (10, .b 1), (14, .b 1), (18, .b 1), (29, .b 1), (33, .b 0), (42, .b 0), (50, .b 0), (71, .b 0), (73, .b 1), (76, .b 0), (78, .b 1), (83, .b 0), (90, .b 0), (95, .b 0)]) (log := [(decide (l > k)) = false, (decide (v > s)) = false, (!decide (k ≤ (5 : Int))) = false, (decide (k ≥ (0 : Int))) = true, (!decide (s ≤ (20 : Int))) = false, (decide (s ≥ (1 : Int))) = true, (v != (0 : Int)) = false, (!true == (p == g)) = false, (!false == decide (l > (0 : Int))) = false, (!decide (l ≤ (5 : Int))) = false, (decide (l ≥ (0 : Int))) = true, (decide (v ≤ (20 : Int))) = true, (decide (v ≥ (0 : Int))) = true, (decide (g ≤ (63000 : Int))) = true, (decide (g ≥ (0 : Int))) = true, (decide (p ≤ (63000 : Int))) = true, (decide (p ≥ (0 : Int))) = true]) (by kernel_rfl) ⟨hq16, hq15, hq14, hq13, hq12, hq11, hq10, hq9, hq8, hq7, hq6, hq5, hq4, hq3, hq2, hq1, hq0, trivial⟩ (by kernel_rfl)
set_option maxHeartbeats 8000000 in
theorem pN0 (p g v l s k : Int) (h1 : 0 ≤ p ∧ p ≤ 63000 ∧ 0 ≤ g ∧ g ≤ 63000 ∧ 0 ≤ v ∧ v ≤ s ∧ 1 ≤ s ∧ s ≤ 20 ∧ 0 ≤ k ∧ k ≤ 5 ∧ 0 ≤ l ∧ l ≤ k ∧ p = g ∧ v = 0 ∧ l = 0) : Known Try.prog [] 51 [.agg #[.int .i64 p, .int .i64 g, .int .i64 v, .int .i64 0, .int .i64 l], .int .i64 s, .int .i64 k] (.tuple #[(.int .i64 (pN0_c0 p g v l s k)), (.int .i64 ((0 : Int)))]) := by
 have hq0 : (decide (p ≥ (0 : Int))) = true := by
  rcases Bool.eq_false_or_eq_true (decide (p ≥ (0 : Int))) with h | h
  ·exact h
  ·exfalso; (first | (simp_all only [Bool.and_eq_true, Bool.not_eq_true', Bool.false_eq_true, Bool.true_eq_false, reduceCtorEq]; done) | (simp only [sx, sy, eq_self, ne_eq, IntKind.wrap_i64, wrapU64, Int.reduceLT] at * <;> first | with_reducible contradiction | omega) | omega | ((try simp only [sx, sy, eq_self, ne_eq, IntKind.wrap_i64, wrapU64, Int.reduceLT] at *) <;> omega) | (simp_all; done))
 have hq1 : (decide (p ≤ (63000 : Int))) = true := by
  rcases Bool.eq_false_or_eq_true (decide (p ≤ (63000 : Int))) with h | h
  ·exact h
  ·exfalso; (first | (simp_all only [Bool.and_eq_true, Bool.not_eq_true', Bool.false_eq_true, Bool.true_eq_false, reduceCtorEq]; done) | (simp only [sx, sy, eq_self, ne_eq, IntKind.wrap_i64, wrapU64, Int.reduceLT] at * <;> first | with_reducible contradiction | omega) | omega | ((try simp only [sx, sy, eq_self, ne_eq, IntKind.wrap_i64, wrapU64, Int.reduceLT] at *) <;> omega) | (simp_all; done))
 have hq2 : (decide (g ≥ (0 : Int))) = true := by
  rcases Bool.eq_false_or_eq_true (decide (g ≥ (0 : Int))) with h | h
  ·exact h
  ·exfalso; (first | (simp_all only [Bool.and_eq_true, Bool.not_eq_true', Bool.false_eq_true, Bool.true_eq_false, reduceCtorEq]; done) | (simp only [sx, sy, eq_self, ne_eq, IntKind.wrap_i64, wrapU64, Int.reduceLT] at * <;> first | with_reducible contradiction | omega) | omega | ((try simp only [sx, sy, eq_self, ne_eq, IntKind.wrap_i64, wrapU64, Int.reduceLT] at *) <;> omega) | (simp_all; done))
 have hq3 : (decide (g ≤ (63000 : Int))) = true := by
  rcases Bool.eq_false_or_eq_true (decide (g ≤ (63000 : Int))) with h | h
  ·exact h
  ·exfalso; (first | (simp_all only [Bool.and_eq_true, Bool.not_eq_true', Bool.false_eq_true, Bool.true_eq_false, reduceCtorEq]; done) | (simp only [sx, sy, eq_self, ne_eq, IntKind.wrap_i64, wrapU64, Int.reduceLT] at * <;> first | with_reducible contradiction | omega) | omega | ((try simp only [sx, sy, eq_self, ne_eq, IntKind.wrap_i64, wrapU64, Int.reduceLT] at *) <;> omega) | (simp_all; done))
 have hq4 : (decide (v ≥ (0 : Int))) = true := by
  rcases Bool.eq_false_or_eq_true (decide (v ≥ (0 : Int))) with h | h
  ·exact h
  ·exfalso; (first | (simp_all only [Bool.and_eq_true, Bool.not_eq_true', Bool.false_eq_true, Bool.true_eq_false, reduceCtorEq]; done) | (simp only [sx, sy, eq_self, ne_eq, IntKind.wrap_i64, wrapU64, Int.reduceLT] at * <;> first | with_reducible contradiction | omega) | omega | ((try simp only [sx, sy, eq_self, ne_eq, IntKind.wrap_i64, wrapU64, Int.reduceLT] at *) <;> omega) | (simp_all; done))
 have hq5 : (decide (v ≤ (20 : Int))) = true := by
  rcases Bool.eq_false_or_eq_true (decide (v ≤ (20 : Int))) with h | h
  ·exact h
  ·exfalso; (first | (simp_all only [Bool.and_eq_true, Bool.not_eq_true', Bool.false_eq_true, Bool.true_eq_false, reduceCtorEq]; done) | (simp only [sx, sy, eq_self, ne_eq, IntKind.wrap_i64, wrapU64, Int.reduceLT] at * <;> first | with_reducible contradiction | omega) | omega | ((try simp only [sx, sy, eq_self, ne_eq, IntKind.wrap_i64, wrapU64, Int.reduceLT] at *) <;> omega) | (simp_all; done))
 have hq6 : (decide (l ≥ (0 : Int))) = true := by
  rcases Bool.eq_false_or_eq_true (decide (l ≥ (0 : Int))) with h | h
  ·exact h
  ·exfalso; (first | (simp_all only [Bool.and_eq_true, Bool.not_eq_true', Bool.false_eq_true, Bool.true_eq_false, reduceCtorEq]; done) | (simp only [sx, sy, eq_self, ne_eq, IntKind.wrap_i64, wrapU64, Int.reduceLT] at * <;> first | with_reducible contradiction | omega) | omega | ((try simp only [sx, sy, eq_self, ne_eq, IntKind.wrap_i64, wrapU64, Int.reduceLT] at *) <;> omega) | (simp_all; done))
 have hq7 : (!decide (l ≤ (5 : Int))) = false := by
  rcases Bool.eq_false_or_eq_true (!decide (l ≤ (5 : Int))) with h | h
  ·exfalso; (first | (simp_all only [Bool.and_eq_true, Bool.not_eq_true', Bool.false_eq_true, Bool.true_eq_false, reduceCtorEq]; done) | (simp only [sx, sy, eq_self, ne_eq, IntKind.wrap_i64, wrapU64, Int.reduceLT] at * <;> first | with_reducible contradiction | omega) | omega | ((try simp only [sx, sy, eq_self, ne_eq, IntKind.wrap_i64, wrapU64, Int.reduceLT] at *) <;> omega) | (simp_all; done))
  ·exact h
 have hq8 : (!false == decide (l > (0 : Int))) = false := by
  rcases Bool.eq_false_or_eq_true (!false == decide (l > (0 : Int))) with h | h
  ·exfalso; (first | (simp_all only [Bool.and_eq_true, Bool.not_eq_true', Bool.false_eq_true, Bool.true_eq_false, reduceCtorEq]; done) | (simp only [sx, sy, eq_self, ne_eq, IntKind.wrap_i64, wrapU64, Int.reduceLT] at * <;> first | with_reducible contradiction | omega) | omega | ((try simp only [sx, sy, eq_self, ne_eq, IntKind.wrap_i64, wrapU64, Int.reduceLT] at *) <;> omega) | (simp_all; done))
  ·exact h
 have hq9 : (!true == (p == g)) = false := by
  rcases Bool.eq_false_or_eq_true (!true == (p == g)) with h | h
  ·exfalso; (first | (simp_all only [Bool.and_eq_true, Bool.not_eq_true', Bool.false_eq_true, Bool.true_eq_false, reduceCtorEq]; done) | (simp only [sx, sy, eq_self, ne_eq, IntKind.wrap_i64, wrapU64, Int.reduceLT] at * <;> first | with_reducible contradiction | omega) | omega | ((try simp only [sx, sy, eq_self, ne_eq, IntKind.wrap_i64, wrapU64, Int.reduceLT] at *) <;> omega) | (simp_all; done))
  ·exact h
 have hq10 : (v != (0 : Int)) = false := by
  rcases Bool.eq_false_or_eq_true (v != (0 : Int)) with h | h
  ·exfalso; (first | (simp_all only [Bool.and_eq_true, Bool.not_eq_true', Bool.false_eq_true, Bool.true_eq_false, reduceCtorEq]; done) | (simp only [sx, sy, eq_self, ne_eq, IntKind.wrap_i64, wrapU64, Int.reduceLT] at * <;> first | with_reducible contradiction | omega) | omega | ((try simp only [sx, sy, eq_self, ne_eq, IntKind.wrap_i64, wrapU64, Int.reduceLT] at *) <;> omega) | (simp_all; done))
  ·exact h
 have hq11 : (decide (s ≥ (1 : Int))) = true := by
  rcases Bool.eq_false_or_eq_true (decide (s ≥ (1 : Int))) with h | h
  ·exact h
  ·exfalso; (first | (simp_all only [Bool.and_eq_true, Bool.not_eq_true', Bool.false_eq_true, Bool.true_eq_false, reduceCtorEq]; done) | (simp only [sx, sy, eq_self, ne_eq, IntKind.wrap_i64, wrapU64, Int.reduceLT] at * <;> first | with_reducible contradiction | omega) | omega | ((try simp only [sx, sy, eq_self, ne_eq, IntKind.wrap_i64, wrapU64, Int.reduceLT] at *) <;> omega) | (simp_all; done))
 have hq12 : (!decide (s ≤ (20 : Int))) = false := by
  rcases Bool.eq_false_or_eq_true (!decide (s ≤ (20 : Int))) with h | h
  ·exfalso; (first | (simp_all only [Bool.and_eq_true, Bool.not_eq_true', Bool.false_eq_true, Bool.true_eq_false, reduceCtorEq]; done) | (simp only [sx, sy, eq_self, ne_eq, IntKind.wrap_i64, wrapU64, Int.reduceLT] at * <;> first | with_reducible contradiction | omega) | omega | ((try simp only [sx, sy, eq_self, ne_eq, IntKind.wrap_i64, wrapU64, Int.reduceLT] at *) <;> omega) | (simp_all; done))
  ·exact h
 have hq13 : (decide (k ≥ (0 : Int))) = true := by
  rcases Bool.eq_false_or_eq_true (decide (k ≥ (0 : Int))) with h | h
  ·exact h
  ·exfalso; (first | (simp_all only [Bool.and_eq_true, Bool.not_eq_true', Bool.false_eq_true, Bool.true_eq_false, reduceCtorEq]; done) | (simp only [sx, sy, eq_self, ne_eq, IntKind.wrap_i64, wrapU64, Int.reduceLT] at * <;> first | with_reducible contradiction | omega) | omega | ((try simp only [sx, sy, eq_self, ne_eq, IntKind.wrap_i64, wrapU64, Int.reduceLT] at *) <;> omega) | (simp_all; done))
 have hq14 : (!decide (k ≤ (5 : Int))) = false := by
  rcases Bool.eq_false_or_eq_true (!decide (k ≤ (5 : Int))) with h | h
  ·exfalso; (first | (simp_all only [Bool.and_eq_true, Bool.not_eq_true', Bool.false_eq_true, Bool.true_eq_false, reduceCtorEq]; done) | (simp only [sx, sy, eq_self, ne_eq, IntKind.wrap_i64, wrapU64, Int.reduceLT] at * <;> first | with_reducible contradiction | omega) | omega | ((try simp only [sx, sy, eq_self, ne_eq, IntKind.wrap_i64, wrapU64, Int.reduceLT] at *) <;> omega) | (simp_all; done))
  ·exact h
 have hq15 : (decide (v > s)) = false := by
  rcases Bool.eq_false_or_eq_true (decide (v > s)) with h | h
  ·exfalso; (first | (simp_all only [Bool.and_eq_true, Bool.not_eq_true', Bool.false_eq_true, Bool.true_eq_false, reduceCtorEq]; done) | (simp only [sx, sy, eq_self, ne_eq, IntKind.wrap_i64, wrapU64, Int.reduceLT] at * <;> first | with_reducible contradiction | omega) | omega | ((try simp only [sx, sy, eq_self, ne_eq, IntKind.wrap_i64, wrapU64, Int.reduceLT] at *) <;> omega) | (simp_all; done))
  ·exact h
 have hq16 : (decide (l > k)) = false := by
  rcases Bool.eq_false_or_eq_true (decide (l > k)) with h | h
  ·exfalso; (first | (simp_all only [Bool.and_eq_true, Bool.not_eq_true', Bool.false_eq_true, Bool.true_eq_false, reduceCtorEq]; done) | (simp only [sx, sy, eq_self, ne_eq, IntKind.wrap_i64, wrapU64, Int.reduceLT] at * <;> first | with_reducible contradiction | omega) | omega | ((try simp only [sx, sy, eq_self, ne_eq, IntKind.wrap_i64, wrapU64, Int.reduceLT] at *) <;> omega) | (simp_all; done))
  ·exact h
 have e0 : pN0_c0 p g v l s k = (l) := rfl; rw [e0]; exact pN0_p0 p g v l s k h1 hq0 hq1 hq2 hq3 hq4 hq5 hq6 hq7 hq8 hq9 hq10 hq11 hq12 hq13 hq14 hq15 hq16
noncomputable def pN1_b17 (p g v l s k : Int) : Bool := decide ((0 : Int) ≤ v ∧ v ≤ s ∧ (1 : Int) ≤ s ∧ s ≤ (20 : Int) ∧ ((0 : Int) ≤ if IntKind.i64.wrap (p - g) > IntKind.i64.wrap (g - p) then IntKind.i64.wrap (p - g) else IntKind.i64.wrap (g - p)) ∧ (if IntKind.i64.wrap (p - g) > IntKind.i64.wrap (g - p) then IntKind.i64.wrap (p - g) else IntKind.i64.wrap (g - p)) ≤ (63000 : Int) ∧ (v = (0 : Int) ∨ rT (v - (1 : Int)) ≤ if IntKind.i64.wrap (p - g) > IntKind.i64.wrap (g - p) then IntKind.i64.wrap (p - g) else IntKind.i64.wrap (g - p)))
noncomputable def pN1_c0 (p g v l s k : Int) : Int := (IntKind.i64.wrap (l + IntKind.i64.wrap (rD s ((if IntKind.i64.wrap (p - g) > IntKind.i64.wrap (g - p) then IntKind.i64.wrap (p - g) else IntKind.i64.wrap (g - p)) + rT v) - v + k)))
theorem pN1_p0 (p g v l s k : Int) (h1 : 0 ≤ p ∧ p ≤ 63000 ∧ 0 ≤ g ∧ g ≤ 63000 ∧ 0 ≤ v ∧ v ≤ s ∧ 1 ≤ s ∧ s ≤ 20 ∧ 0 ≤ k ∧ k ≤ 5 ∧ 0 ≤ l ∧ l ≤ k ∧ p ≠ g ∧ v = 0 ∧ 0 < l) (hq0 : (decide (p ≥ (0 : Int))) = true) (hq1 : (decide (p ≤ (63000 : Int))) = true) (hq2 : (decide (g ≥ (0 : Int))) = true) (hq3 : (decide (g ≤ (63000 : Int))) = true) (hq4 : (decide (v ≥ (0 : Int))) = true) (hq5 : (decide (v ≤ (20 : Int))) = true) (hq6 : (decide (l ≥ (0 : Int))) = true) (hq7 : (!decide (l ≤ (5 : Int))) = false) (hq8 : (!true == decide (l > (0 : Int))) = false) (hq9 : (!false == (p == g)) = false) (hq10 : (v != (0 : Int)) = false) (hq11 : (decide (s ≥ (1 : Int))) = true) (hq12 : (!decide (s ≤ (20 : Int))) = false) (hq13 : (decide (k ≥ (0 : Int))) = true) (hq14 : (!decide (k ≤ (5 : Int))) = false) (hq15 : (decide (v > s)) = false) (hq16 : (decide (l > k)) = false) (hq17 : (pN1_b17 p g v l s k) = true) : Known Try.prog [] 51 [.agg #[.int .i64 p, .int .i64 g, .int .i64 v, .int .i64 1, .int .i64 l], .int .i64 s, .int .i64 k] (.tuple #[(.int .i64 (IntKind.i64.wrap (l + IntKind.i64.wrap (rD s ((if IntKind.i64.wrap (p - g) > IntKind.i64.wrap (g - p) then IntKind.i64.wrap (p - g) else IntKind.i64.wrap (g - p)) + rT v) - v + k)))), (.int .i64 ((0 : Int)))]) :=
 open_res mix tabR_ok (T := tabR) (fuel := 3000) (ans := [(0, .b 1), (3, .b 1), (6, .b 1), (10, .b 1), (14, .b 1), (18, .b 1), (29, .b 1), (33, .b 0), (42, .b 0), (50, .b 0), (71, .b 0), (73, .b 1), (76, .b 0), (78, .b 1), (83, .b 0), (90, .b 0), (95, .b 0), (102, .b 1)]) (log := [(pN1_b17 p g v l s k) = true, (decide (l > k)) = false, (decide (v > s)) = false, (!decide (k ≤ (5 : Int))) = false, (decide (k ≥ (0 : Int))) = true, (!decide (s ≤ (20 : Int))) = false, (decide (s ≥ (1 : Int))) = true, (v != (0 : Int)) = false, (!false == (p == g)) = false, (!true == decide (l > (0 : Int))) = false, (!decide (l ≤ (5 : Int))) = false, (decide (l ≥ (0 : Int))) = true, (decide (v ≤ (20 : Int))) = true, (decide (v ≥ (0 : Int))) = true, (decide (g ≤ (63000 : Int))) = true, (decide (g ≥ (0 : Int))) = true, (decide (p ≤ (63000 : Int))) = true, (decide (p ≥ (0 : Int))) = true]) (by kernel_rfl) ⟨hq17, hq16, hq15, hq14, hq13, hq12, hq11, hq10, hq9, hq8, hq7, hq6, hq5, hq4, hq3, hq2, hq1, hq0, trivial⟩ (by kernel_rfl)
set_option maxHeartbeats 8000000 in
theorem pN1 (p g v l s k : Int) (h1 : 0 ≤ p ∧ p ≤ 63000 ∧ 0 ≤ g ∧ g ≤ 63000 ∧ 0 ≤ v ∧ v ≤ s ∧ 1 ≤ s ∧ s ≤ 20 ∧ 0 ≤ k ∧ k ≤ 5 ∧ 0 ≤ l ∧ l ≤ k ∧ p ≠ g ∧ v = 0 ∧ 0 < l) : Known Try.prog [] 51 [.agg #[.int .i64 p, .int .i64 g, .int .i64 v, .int .i64 1, .int .i64 l], .int .i64 s, .int .i64 k] (.tuple #[(.int .i64 (pN1_c0 p g v l s k)), (.int .i64 ((0 : Int)))]) := by
 have hq0 : (decide (p ≥ (0 : Int))) = true := by
  rcases Bool.eq_false_or_eq_true (decide (p ≥ (0 : Int))) with h | h
  ·exact h
  ·exfalso; (try simp only [pN1_b17] at *); (first | (simp_all only [Bool.and_eq_true, Bool.not_eq_true', Bool.false_eq_true, Bool.true_eq_false, reduceCtorEq]; done) | (simp only [sx, sy, eq_self, ne_eq, IntKind.wrap_i64, wrapU64, Int.reduceLT] at * <;> first | with_reducible contradiction | omega) | omega | ((try simp only [sx, sy, eq_self, ne_eq, IntKind.wrap_i64, wrapU64, Int.reduceLT] at *) <;> omega) | (simp_all; done))
 have hq1 : (decide (p ≤ (63000 : Int))) = true := by
  rcases Bool.eq_false_or_eq_true (decide (p ≤ (63000 : Int))) with h | h
  ·exact h
  ·exfalso; (try simp only [pN1_b17] at *); (first | (simp_all only [Bool.and_eq_true, Bool.not_eq_true', Bool.false_eq_true, Bool.true_eq_false, reduceCtorEq]; done) | (simp only [sx, sy, eq_self, ne_eq, IntKind.wrap_i64, wrapU64, Int.reduceLT] at * <;> first | with_reducible contradiction | omega) | omega | ((try simp only [sx, sy, eq_self, ne_eq, IntKind.wrap_i64, wrapU64, Int.reduceLT] at *) <;> omega) | (simp_all; done))
 have hq2 : (decide (g ≥ (0 : Int))) = true := by
  rcases Bool.eq_false_or_eq_true (decide (g ≥ (0 : Int))) with h | h
  ·exact h
  ·exfalso; (try simp only [pN1_b17] at *); (first | (simp_all only [Bool.and_eq_true, Bool.not_eq_true', Bool.false_eq_true, Bool.true_eq_false, reduceCtorEq]; done) | (simp only [sx, sy, eq_self, ne_eq, IntKind.wrap_i64, wrapU64, Int.reduceLT] at * <;> first | with_reducible contradiction | omega) | omega | ((try simp only [sx, sy, eq_self, ne_eq, IntKind.wrap_i64, wrapU64, Int.reduceLT] at *) <;> omega) | (simp_all; done))
 have hq3 : (decide (g ≤ (63000 : Int))) = true := by
  rcases Bool.eq_false_or_eq_true (decide (g ≤ (63000 : Int))) with h | h
  ·exact h
  ·exfalso; (try simp only [pN1_b17] at *); (first | (simp_all only [Bool.and_eq_true, Bool.not_eq_true', Bool.false_eq_true, Bool.true_eq_false, reduceCtorEq]; done) | (simp only [sx, sy, eq_self, ne_eq, IntKind.wrap_i64, wrapU64, Int.reduceLT] at * <;> first | with_reducible contradiction | omega) | omega | ((try simp only [sx, sy, eq_self, ne_eq, IntKind.wrap_i64, wrapU64, Int.reduceLT] at *) <;> omega) | (simp_all; done))
 have hq4 : (decide (v ≥ (0 : Int))) = true := by
  rcases Bool.eq_false_or_eq_true (decide (v ≥ (0 : Int))) with h | h
  ·exact h
  ·exfalso; (try simp only [pN1_b17] at *); (first | (simp_all only [Bool.and_eq_true, Bool.not_eq_true', Bool.false_eq_true, Bool.true_eq_false, reduceCtorEq]; done) | (simp only [sx, sy, eq_self, ne_eq, IntKind.wrap_i64, wrapU64, Int.reduceLT] at * <;> first | with_reducible contradiction | omega) | omega | ((try simp only [sx, sy, eq_self, ne_eq, IntKind.wrap_i64, wrapU64, Int.reduceLT] at *) <;> omega) | (simp_all; done))
 have hq5 : (decide (v ≤ (20 : Int))) = true := by
  rcases Bool.eq_false_or_eq_true (decide (v ≤ (20 : Int))) with h | h
  ·exact h
  ·exfalso; (try simp only [pN1_b17] at *); (first | (simp_all only [Bool.and_eq_true, Bool.not_eq_true', Bool.false_eq_true, Bool.true_eq_false, reduceCtorEq]; done) | (simp only [sx, sy, eq_self, ne_eq, IntKind.wrap_i64, wrapU64, Int.reduceLT] at * <;> first | with_reducible contradiction | omega) | omega | ((try simp only [sx, sy, eq_self, ne_eq, IntKind.wrap_i64, wrapU64, Int.reduceLT] at *) <;> omega) | (simp_all; done))
 have hq6 : (decide (l ≥ (0 : Int))) = true := by
  rcases Bool.eq_false_or_eq_true (decide (l ≥ (0 : Int))) with h | h
  ·exact h
  ·exfalso; (try simp only [pN1_b17] at *); (first | (simp_all only [Bool.and_eq_true, Bool.not_eq_true', Bool.false_eq_true, Bool.true_eq_false, reduceCtorEq]; done) | (simp only [sx, sy, eq_self, ne_eq, IntKind.wrap_i64, wrapU64, Int.reduceLT] at * <;> first | with_reducible contradiction | omega) | omega | ((try simp only [sx, sy, eq_self, ne_eq, IntKind.wrap_i64, wrapU64, Int.reduceLT] at *) <;> omega) | (simp_all; done))
 have hq7 : (!decide (l ≤ (5 : Int))) = false := by
  rcases Bool.eq_false_or_eq_true (!decide (l ≤ (5 : Int))) with h | h
  ·exfalso; (try simp only [pN1_b17] at *); (first | (simp_all only [Bool.and_eq_true, Bool.not_eq_true', Bool.false_eq_true, Bool.true_eq_false, reduceCtorEq]; done) | (simp only [sx, sy, eq_self, ne_eq, IntKind.wrap_i64, wrapU64, Int.reduceLT] at * <;> first | with_reducible contradiction | omega) | omega | ((try simp only [sx, sy, eq_self, ne_eq, IntKind.wrap_i64, wrapU64, Int.reduceLT] at *) <;> omega) | (simp_all; done))
  ·exact h
 have hq8 : (!true == decide (l > (0 : Int))) = false := by
  rcases Bool.eq_false_or_eq_true (!true == decide (l > (0 : Int))) with h | h
  ·exfalso; (try simp only [pN1_b17] at *); (first | (simp_all only [Bool.and_eq_true, Bool.not_eq_true', Bool.false_eq_true, Bool.true_eq_false, reduceCtorEq]; done) | (simp only [sx, sy, eq_self, ne_eq, IntKind.wrap_i64, wrapU64, Int.reduceLT] at * <;> first | with_reducible contradiction | omega) | omega | ((try simp only [sx, sy, eq_self, ne_eq, IntKind.wrap_i64, wrapU64, Int.reduceLT] at *) <;> omega) | (simp_all; done))
  ·exact h
 have hq9 : (!false == (p == g)) = false := by
  rcases Bool.eq_false_or_eq_true (!false == (p == g)) with h | h
  ·exfalso; (try simp only [pN1_b17] at *); (first | (simp_all only [Bool.and_eq_true, Bool.not_eq_true', Bool.false_eq_true, Bool.true_eq_false, reduceCtorEq]; done) | (simp only [sx, sy, eq_self, ne_eq, IntKind.wrap_i64, wrapU64, Int.reduceLT] at * <;> first | with_reducible contradiction | omega) | omega | ((try simp only [sx, sy, eq_self, ne_eq, IntKind.wrap_i64, wrapU64, Int.reduceLT] at *) <;> omega) | (simp_all; done))
  ·exact h
 have hq10 : (v != (0 : Int)) = false := by
  rcases Bool.eq_false_or_eq_true (v != (0 : Int)) with h | h
  ·exfalso; (try simp only [pN1_b17] at *); (first | (simp_all only [Bool.and_eq_true, Bool.not_eq_true', Bool.false_eq_true, Bool.true_eq_false, reduceCtorEq]; done) | (simp only [sx, sy, eq_self, ne_eq, IntKind.wrap_i64, wrapU64, Int.reduceLT] at * <;> first | with_reducible contradiction | omega) | omega | ((try simp only [sx, sy, eq_self, ne_eq, IntKind.wrap_i64, wrapU64, Int.reduceLT] at *) <;> omega) | (simp_all; done))
  ·exact h
 have hq11 : (decide (s ≥ (1 : Int))) = true := by
  rcases Bool.eq_false_or_eq_true (decide (s ≥ (1 : Int))) with h | h
  ·exact h
  ·exfalso; (try simp only [pN1_b17] at *); (first | (simp_all only [Bool.and_eq_true, Bool.not_eq_true', Bool.false_eq_true, Bool.true_eq_false, reduceCtorEq]; done) | (simp only [sx, sy, eq_self, ne_eq, IntKind.wrap_i64, wrapU64, Int.reduceLT] at * <;> first | with_reducible contradiction | omega) | omega | ((try simp only [sx, sy, eq_self, ne_eq, IntKind.wrap_i64, wrapU64, Int.reduceLT] at *) <;> omega) | (simp_all; done))
 have hq12 : (!decide (s ≤ (20 : Int))) = false := by
  rcases Bool.eq_false_or_eq_true (!decide (s ≤ (20 : Int))) with h | h
  ·exfalso; (try simp only [pN1_b17] at *); (first | (simp_all only [Bool.and_eq_true, Bool.not_eq_true', Bool.false_eq_true, Bool.true_eq_false, reduceCtorEq]; done) | (simp only [sx, sy, eq_self, ne_eq, IntKind.wrap_i64, wrapU64, Int.reduceLT] at * <;> first | with_reducible contradiction | omega) | omega | ((try simp only [sx, sy, eq_self, ne_eq, IntKind.wrap_i64, wrapU64, Int.reduceLT] at *) <;> omega) | (simp_all; done))
  ·exact h
 have hq13 : (decide (k ≥ (0 : Int))) = true := by
  rcases Bool.eq_false_or_eq_true (decide (k ≥ (0 : Int))) with h | h
  ·exact h
  ·exfalso; (try simp only [pN1_b17] at *); (first | (simp_all only [Bool.and_eq_true, Bool.not_eq_true', Bool.false_eq_true, Bool.true_eq_false, reduceCtorEq]; done) | (simp only [sx, sy, eq_self, ne_eq, IntKind.wrap_i64, wrapU64, Int.reduceLT] at * <;> first | with_reducible contradiction | omega) | omega | ((try simp only [sx, sy, eq_self, ne_eq, IntKind.wrap_i64, wrapU64, Int.reduceLT] at *) <;> omega) | (simp_all; done))
 have hq14 : (!decide (k ≤ (5 : Int))) = false := by
  rcases Bool.eq_false_or_eq_true (!decide (k ≤ (5 : Int))) with h | h
  ·exfalso; (try simp only [pN1_b17] at *); (first | (simp_all only [Bool.and_eq_true, Bool.not_eq_true', Bool.false_eq_true, Bool.true_eq_false, reduceCtorEq]; done) | (simp only [sx, sy, eq_self, ne_eq, IntKind.wrap_i64, wrapU64, Int.reduceLT] at * <;> first | with_reducible contradiction | omega) | omega | ((try simp only [sx, sy, eq_self, ne_eq, IntKind.wrap_i64, wrapU64, Int.reduceLT] at *) <;> omega) | (simp_all; done))
  ·exact h
 have hq15 : (decide (v > s)) = false := by
  rcases Bool.eq_false_or_eq_true (decide (v > s)) with h | h
  ·exfalso; (try simp only [pN1_b17] at *); (first | (simp_all only [Bool.and_eq_true, Bool.not_eq_true', Bool.false_eq_true, Bool.true_eq_false, reduceCtorEq]; done) | (simp only [sx, sy, eq_self, ne_eq, IntKind.wrap_i64, wrapU64, Int.reduceLT] at * <;> first | with_reducible contradiction | omega) | omega | ((try simp only [sx, sy, eq_self, ne_eq, IntKind.wrap_i64, wrapU64, Int.reduceLT] at *) <;> omega) | (simp_all; done))
  ·exact h
 have hq16 : (decide (l > k)) = false := by
  rcases Bool.eq_false_or_eq_true (decide (l > k)) with h | h
  ·exfalso; (try simp only [pN1_b17] at *); (first | (simp_all only [Bool.and_eq_true, Bool.not_eq_true', Bool.false_eq_true, Bool.true_eq_false, reduceCtorEq]; done) | (simp only [sx, sy, eq_self, ne_eq, IntKind.wrap_i64, wrapU64, Int.reduceLT] at * <;> first | with_reducible contradiction | omega) | omega | ((try simp only [sx, sy, eq_self, ne_eq, IntKind.wrap_i64, wrapU64, Int.reduceLT] at *) <;> omega) | (simp_all; done))
  ·exact h
 have hq17 : (pN1_b17 p g v l s k) = true := by
  rcases Bool.eq_false_or_eq_true (pN1_b17 p g v l s k) with h | h
  ·exact h
  ·exfalso; (try simp only [pN1_b17] at *); (first | (simp_all only [Bool.and_eq_true, Bool.not_eq_true', Bool.false_eq_true, Bool.true_eq_false, reduceCtorEq]; done) | (simp only [sx, sy, eq_self, ne_eq, IntKind.wrap_i64, wrapU64, Int.reduceLT] at * <;> first | with_reducible contradiction | omega) | omega | ((try simp only [sx, sy, eq_self, ne_eq, IntKind.wrap_i64, wrapU64, Int.reduceLT] at *) <;> omega) | (simp_all; done))
 have e0 : pN1_c0 p g v l s k = (IntKind.i64.wrap (l + IntKind.i64.wrap (rD s ((if IntKind.i64.wrap (p - g) > IntKind.i64.wrap (g - p) then IntKind.i64.wrap (p - g) else IntKind.i64.wrap (g - p)) + rT v) - v + k))) := rfl; rw [e0]; exact pN1_p0 p g v l s k h1 hq0 hq1 hq2 hq3 hq4 hq5 hq6 hq7 hq8 hq9 hq10 hq11 hq12 hq13 hq14 hq15 hq16 hq17
noncomputable def pN2_b10 (p g v l s k : Int) : Bool := decide (IntKind.i64.wrap (dtri_c0 v - v) > if IntKind.i64.wrap (p - g) > IntKind.i64.wrap (g - p) then IntKind.i64.wrap (p - g) else IntKind.i64.wrap (g - p))
noncomputable def pN2_b17 (p g v l s k : Int) : Bool := decide ((0 : Int) ≤ v ∧ v ≤ s ∧ (1 : Int) ≤ s ∧ s ≤ (20 : Int) ∧ ((0 : Int) ≤ if IntKind.i64.wrap (p - g) > IntKind.i64.wrap (g - p) then IntKind.i64.wrap (p - g) else IntKind.i64.wrap (g - p)) ∧ (if IntKind.i64.wrap (p - g) > IntKind.i64.wrap (g - p) then IntKind.i64.wrap (p - g) else IntKind.i64.wrap (g - p)) ≤ (63000 : Int) ∧ (v = (0 : Int) ∨ rT (v - (1 : Int)) ≤ if IntKind.i64.wrap (p - g) > IntKind.i64.wrap (g - p) then IntKind.i64.wrap (p - g) else IntKind.i64.wrap (g - p)))
noncomputable def pN2_c0 (p g v l s k : Int) : Int := (IntKind.i64.wrap (l + IntKind.i64.wrap (rD s ((if IntKind.i64.wrap (p - g) > IntKind.i64.wrap (g - p) then IntKind.i64.wrap (p - g) else IntKind.i64.wrap (g - p)) + rT v) - v + k)))
theorem pN2_p0 (p g v l s k : Int) (h1 : 0 ≤ p ∧ p ≤ 63000 ∧ 0 ≤ g ∧ g ≤ 63000 ∧ 0 ≤ v ∧ v ≤ s ∧ 1 ≤ s ∧ s ≤ 20 ∧ 0 ≤ k ∧ k ≤ 5 ∧ 0 ≤ l ∧ l ≤ k ∧ p ≠ g ∧ l = 0 ∧ (v = 0 ∨ rT (v - 1) ≤ (if p < g then g - p else p - g))) (h2 : 0 ≤ dtri_c0 v ∧ dtri_c0 v ≤ 231 ∧ dtri_c0 v = rT (v - 1) + v ∧ (1 ≤ v ∨ dtri_c0 v = 0)) (hq0 : (decide (p ≥ (0 : Int))) = true) (hq1 : (decide (p ≤ (63000 : Int))) = true) (hq2 : (decide (g ≥ (0 : Int))) = true) (hq3 : (decide (g ≤ (63000 : Int))) = true) (hq4 : (decide (v ≥ (0 : Int))) = true) (hq5 : (decide (v ≤ (20 : Int))) = true) (hq6 : (decide (l ≥ (0 : Int))) = true) (hq7 : (!decide (l ≤ (5 : Int))) = false) (hq8 : (!false == decide (l > (0 : Int))) = false) (hq9 : (!false == (p == g)) = false) (hq10 : (pN2_b10 p g v l s k) = false) (hq11 : (decide (s ≥ (1 : Int))) = true) (hq12 : (!decide (s ≤ (20 : Int))) = false) (hq13 : (decide (k ≥ (0 : Int))) = true) (hq14 : (!decide (k ≤ (5 : Int))) = false) (hq15 : (decide (v > s)) = false) (hq16 : (decide (l > k)) = false) (hq17 : (pN2_b17 p g v l s k) = true) : Known Try.prog [] 51 [.agg #[.int .i64 p, .int .i64 g, .int .i64 v, .int .i64 2, .int .i64 l], .int .i64 s, .int .i64 k] (.tuple #[(.int .i64 (IntKind.i64.wrap (l + IntKind.i64.wrap (rD s ((if IntKind.i64.wrap (p - g) > IntKind.i64.wrap (g - p) then IntKind.i64.wrap (p - g) else IntKind.i64.wrap (g - p)) + rT v) - v + k)))), (.int .i64 ((0 : Int)))]) :=
 open_res mix tabR_ok (T := tabR) (fuel := 3000) (ans := [(0, .b 1), (3, .b 1), (6, .b 1), (10, .b 1), (14, .b 1), (18, .b 1), (29, .b 1), (33, .b 0), (42, .b 0), (50, .b 0), (62, .b 0), (74, .b 1), (77, .b 0), (79, .b 1), (84, .b 0), (91, .b 0), (96, .b 0), (103, .b 1)]) (log := [(pN2_b17 p g v l s k) = true, (decide (l > k)) = false, (decide (v > s)) = false, (!decide (k ≤ (5 : Int))) = false, (decide (k ≥ (0 : Int))) = true, (!decide (s ≤ (20 : Int))) = false, (decide (s ≥ (1 : Int))) = true, (pN2_b10 p g v l s k) = false, (!false == (p == g)) = false, (!false == decide (l > (0 : Int))) = false, (!decide (l ≤ (5 : Int))) = false, (decide (l ≥ (0 : Int))) = true, (decide (v ≤ (20 : Int))) = true, (decide (v ≥ (0 : Int))) = true, (decide (g ≤ (63000 : Int))) = true, (decide (g ≥ (0 : Int))) = true, (decide (p ≤ (63000 : Int))) = true, (decide (p ≥ (0 : Int))) = true]) (by kernel_rfl) ⟨hq17, hq16, hq15, hq14, hq13, hq12, hq11, hq10, hq9, hq8, hq7, hq6, hq5, hq4, hq3, hq2, hq1, hq0, trivial⟩ (by kernel_rfl)
set_option maxHeartbeats 8000000 in
theorem pN2 (p g v l s k : Int) (h1 : 0 ≤ p ∧ p ≤ 63000 ∧ 0 ≤ g ∧ g ≤ 63000 ∧ 0 ≤ v ∧ v ≤ s ∧ 1 ≤ s ∧ s ≤ 20 ∧ 0 ≤ k ∧ k ≤ 5 ∧ 0 ≤ l ∧ l ≤ k ∧ p ≠ g ∧ l = 0 ∧ (v = 0 ∨ rT (v - 1) ≤ (if p < g then g - p else p - g))) (h2 : 0 ≤ dtri_c0 v ∧ dtri_c0 v ≤ 231 ∧ dtri_c0 v = rT (v - 1) + v ∧ (1 ≤ v ∨ dtri_c0 v = 0)) : Known Try.prog [] 51 [.agg #[.int .i64 p, .int .i64 g, .int .i64 v, .int .i64 2, .int .i64 l], .int .i64 s, .int .i64 k] (.tuple #[(.int .i64 (pN2_c0 p g v l s k)), (.int .i64 ((0 : Int)))]) := by
 have hq0 : (decide (p ≥ (0 : Int))) = true := by
  rcases Bool.eq_false_or_eq_true (decide (p ≥ (0 : Int))) with h | h
  ·exact h
  ·exfalso; (try simp only [pN2_b10, pN2_b17] at *); (first | (simp_all only [Bool.and_eq_true, Bool.not_eq_true', Bool.false_eq_true, Bool.true_eq_false, reduceCtorEq]; done) | (simp only [sx, sy, eq_self, ne_eq, IntKind.wrap_i64, wrapU64, Int.reduceLT] at * <;> first | with_reducible contradiction | omega) | omega | ((try simp only [sx, sy, eq_self, ne_eq, IntKind.wrap_i64, wrapU64, Int.reduceLT] at *) <;> omega) | (simp_all; done))
 have hq1 : (decide (p ≤ (63000 : Int))) = true := by
  rcases Bool.eq_false_or_eq_true (decide (p ≤ (63000 : Int))) with h | h
  ·exact h
  ·exfalso; (try simp only [pN2_b10, pN2_b17] at *); (first | (simp_all only [Bool.and_eq_true, Bool.not_eq_true', Bool.false_eq_true, Bool.true_eq_false, reduceCtorEq]; done) | (simp only [sx, sy, eq_self, ne_eq, IntKind.wrap_i64, wrapU64, Int.reduceLT] at * <;> first | with_reducible contradiction | omega) | omega | ((try simp only [sx, sy, eq_self, ne_eq, IntKind.wrap_i64, wrapU64, Int.reduceLT] at *) <;> omega) | (simp_all; done))
 have hq2 : (decide (g ≥ (0 : Int))) = true := by
  rcases Bool.eq_false_or_eq_true (decide (g ≥ (0 : Int))) with h | h
  ·exact h
  ·exfalso; (try simp only [pN2_b10, pN2_b17] at *); (first | (simp_all only [Bool.and_eq_true, Bool.not_eq_true', Bool.false_eq_true, Bool.true_eq_false, reduceCtorEq]; done) | (simp only [sx, sy, eq_self, ne_eq, IntKind.wrap_i64, wrapU64, Int.reduceLT] at * <;> first | with_reducible contradiction | omega) | omega | ((try simp only [sx, sy, eq_self, ne_eq, IntKind.wrap_i64, wrapU64, Int.reduceLT] at *) <;> omega) | (simp_all; done))
 have hq3 : (decide (g ≤ (63000 : Int))) = true := by
  rcases Bool.eq_false_or_eq_true (decide (g ≤ (63000 : Int))) with h | h
  ·exact h
  ·exfalso; (try simp only [pN2_b10, pN2_b17] at *); (first | (simp_all only [Bool.and_eq_true, Bool.not_eq_true', Bool.false_eq_true, Bool.true_eq_false, reduceCtorEq]; done) | (simp only [sx, sy, eq_self, ne_eq, IntKind.wrap_i64, wrapU64, Int.reduceLT] at * <;> first | with_reducible contradiction | omega) | omega | ((try simp only [sx, sy, eq_self, ne_eq, IntKind.wrap_i64, wrapU64, Int.reduceLT] at *) <;> omega) | (simp_all; done))
 have hq4 : (decide (v ≥ (0 : Int))) = true := by
  rcases Bool.eq_false_or_eq_true (decide (v ≥ (0 : Int))) with h | h
  ·exact h
  ·exfalso; (try simp only [pN2_b10, pN2_b17] at *); (first | (simp_all only [Bool.and_eq_true, Bool.not_eq_true', Bool.false_eq_true, Bool.true_eq_false, reduceCtorEq]; done) | (simp only [sx, sy, eq_self, ne_eq, IntKind.wrap_i64, wrapU64, Int.reduceLT] at * <;> first | with_reducible contradiction | omega) | omega | ((try simp only [sx, sy, eq_self, ne_eq, IntKind.wrap_i64, wrapU64, Int.reduceLT] at *) <;> omega) | (simp_all; done))
 have hq5 : (decide (v ≤ (20 : Int))) = true := by
  rcases Bool.eq_false_or_eq_true (decide (v ≤ (20 : Int))) with h | h
  ·exact h
  ·exfalso; (try simp only [pN2_b10, pN2_b17] at *); (first | (simp_all only [Bool.and_eq_true, Bool.not_eq_true', Bool.false_eq_true, Bool.true_eq_false, reduceCtorEq]; done) | (simp only [sx, sy, eq_self, ne_eq, IntKind.wrap_i64, wrapU64, Int.reduceLT] at * <;> first | with_reducible contradiction | omega) | omega | ((try simp only [sx, sy, eq_self, ne_eq, IntKind.wrap_i64, wrapU64, Int.reduceLT] at *) <;> omega) | (simp_all; done))
 have hq6 : (decide (l ≥ (0 : Int))) = true := by
  rcases Bool.eq_false_or_eq_true (decide (l ≥ (0 : Int))) with h | h
  ·exact h
  ·exfalso; (try simp only [pN2_b10, pN2_b17] at *); (first | (simp_all only [Bool.and_eq_true, Bool.not_eq_true', Bool.false_eq_true, Bool.true_eq_false, reduceCtorEq]; done) | (simp only [sx, sy, eq_self, ne_eq, IntKind.wrap_i64, wrapU64, Int.reduceLT] at * <;> first | with_reducible contradiction | omega) | omega | ((try simp only [sx, sy, eq_self, ne_eq, IntKind.wrap_i64, wrapU64, Int.reduceLT] at *) <;> omega) | (simp_all; done))
 have hq7 : (!decide (l ≤ (5 : Int))) = false := by
  rcases Bool.eq_false_or_eq_true (!decide (l ≤ (5 : Int))) with h | h
  ·exfalso; (try simp only [pN2_b10, pN2_b17] at *); (first | (simp_all only [Bool.and_eq_true, Bool.not_eq_true', Bool.false_eq_true, Bool.true_eq_false, reduceCtorEq]; done) | (simp only [sx, sy, eq_self, ne_eq, IntKind.wrap_i64, wrapU64, Int.reduceLT] at * <;> first | with_reducible contradiction | omega) | omega | ((try simp only [sx, sy, eq_self, ne_eq, IntKind.wrap_i64, wrapU64, Int.reduceLT] at *) <;> omega) | (simp_all; done))
  ·exact h
 have hq8 : (!false == decide (l > (0 : Int))) = false := by
  rcases Bool.eq_false_or_eq_true (!false == decide (l > (0 : Int))) with h | h
  ·exfalso; (try simp only [pN2_b10, pN2_b17] at *); (first | (simp_all only [Bool.and_eq_true, Bool.not_eq_true', Bool.false_eq_true, Bool.true_eq_false, reduceCtorEq]; done) | (simp only [sx, sy, eq_self, ne_eq, IntKind.wrap_i64, wrapU64, Int.reduceLT] at * <;> first | with_reducible contradiction | omega) | omega | ((try simp only [sx, sy, eq_self, ne_eq, IntKind.wrap_i64, wrapU64, Int.reduceLT] at *) <;> omega) | (simp_all; done))
  ·exact h
 have hq9 : (!false == (p == g)) = false := by
  rcases Bool.eq_false_or_eq_true (!false == (p == g)) with h | h
  ·exfalso; (try simp only [pN2_b10, pN2_b17] at *); (first | (simp_all only [Bool.and_eq_true, Bool.not_eq_true', Bool.false_eq_true, Bool.true_eq_false, reduceCtorEq]; done) | (simp only [sx, sy, eq_self, ne_eq, IntKind.wrap_i64, wrapU64, Int.reduceLT] at * <;> first | with_reducible contradiction | omega) | omega | ((try simp only [sx, sy, eq_self, ne_eq, IntKind.wrap_i64, wrapU64, Int.reduceLT] at *) <;> omega) | (simp_all; done))
  ·exact h
 have hq10 : (pN2_b10 p g v l s k) = false := by
  rcases Bool.eq_false_or_eq_true (pN2_b10 p g v l s k) with h | h
  ·exfalso; (try simp only [pN2_b10, pN2_b17] at *); (first | (simp_all only [Bool.and_eq_true, Bool.not_eq_true', Bool.false_eq_true, Bool.true_eq_false, reduceCtorEq]; done) | (simp only [sx, sy, eq_self, ne_eq, IntKind.wrap_i64, wrapU64, Int.reduceLT] at * <;> first | with_reducible contradiction | omega) | omega | ((try simp only [sx, sy, eq_self, ne_eq, IntKind.wrap_i64, wrapU64, Int.reduceLT] at *) <;> omega) | (simp_all; done))
  ·exact h
 have hq11 : (decide (s ≥ (1 : Int))) = true := by
  rcases Bool.eq_false_or_eq_true (decide (s ≥ (1 : Int))) with h | h
  ·exact h
  ·exfalso; (try simp only [pN2_b10, pN2_b17] at *); (first | (simp_all only [Bool.and_eq_true, Bool.not_eq_true', Bool.false_eq_true, Bool.true_eq_false, reduceCtorEq]; done) | (simp only [sx, sy, eq_self, ne_eq, IntKind.wrap_i64, wrapU64, Int.reduceLT] at * <;> first | with_reducible contradiction | omega) | omega | ((try simp only [sx, sy, eq_self, ne_eq, IntKind.wrap_i64, wrapU64, Int.reduceLT] at *) <;> omega) | (simp_all; done))
 have hq12 : (!decide (s ≤ (20 : Int))) = false := by
  rcases Bool.eq_false_or_eq_true (!decide (s ≤ (20 : Int))) with h | h
  ·exfalso; (try simp only [pN2_b10, pN2_b17] at *); (first | (simp_all only [Bool.and_eq_true, Bool.not_eq_true', Bool.false_eq_true, Bool.true_eq_false, reduceCtorEq]; done) | (simp only [sx, sy, eq_self, ne_eq, IntKind.wrap_i64, wrapU64, Int.reduceLT] at * <;> first | with_reducible contradiction | omega) | omega | ((try simp only [sx, sy, eq_self, ne_eq, IntKind.wrap_i64, wrapU64, Int.reduceLT] at *) <;> omega) | (simp_all; done))
  ·exact h
 have hq13 : (decide (k ≥ (0 : Int))) = true := by
  rcases Bool.eq_false_or_eq_true (decide (k ≥ (0 : Int))) with h | h
  ·exact h
  ·exfalso; (try simp only [pN2_b10, pN2_b17] at *); (first | (simp_all only [Bool.and_eq_true, Bool.not_eq_true', Bool.false_eq_true, Bool.true_eq_false, reduceCtorEq]; done) | (simp only [sx, sy, eq_self, ne_eq, IntKind.wrap_i64, wrapU64, Int.reduceLT] at * <;> first | with_reducible contradiction | omega) | omega | ((try simp only [sx, sy, eq_self, ne_eq, IntKind.wrap_i64, wrapU64, Int.reduceLT] at *) <;> omega) | (simp_all; done))
 have hq14 : (!decide (k ≤ (5 : Int))) = false := by
  rcases Bool.eq_false_or_eq_true (!decide (k ≤ (5 : Int))) with h | h
  ·exfalso; (try simp only [pN2_b10, pN2_b17] at *); (first | (simp_all only [Bool.and_eq_true, Bool.not_eq_true', Bool.false_eq_true, Bool.true_eq_false, reduceCtorEq]; done) | (simp only [sx, sy, eq_self, ne_eq, IntKind.wrap_i64, wrapU64, Int.reduceLT] at * <;> first | with_reducible contradiction | omega) | omega | ((try simp only [sx, sy, eq_self, ne_eq, IntKind.wrap_i64, wrapU64, Int.reduceLT] at *) <;> omega) | (simp_all; done))
  ·exact h
 have hq15 : (decide (v > s)) = false := by
  rcases Bool.eq_false_or_eq_true (decide (v > s)) with h | h
  ·exfalso; (try simp only [pN2_b10, pN2_b17] at *); (first | (simp_all only [Bool.and_eq_true, Bool.not_eq_true', Bool.false_eq_true, Bool.true_eq_false, reduceCtorEq]; done) | (simp only [sx, sy, eq_self, ne_eq, IntKind.wrap_i64, wrapU64, Int.reduceLT] at * <;> first | with_reducible contradiction | omega) | omega | ((try simp only [sx, sy, eq_self, ne_eq, IntKind.wrap_i64, wrapU64, Int.reduceLT] at *) <;> omega) | (simp_all; done))
  ·exact h
 have hq16 : (decide (l > k)) = false := by
  rcases Bool.eq_false_or_eq_true (decide (l > k)) with h | h
  ·exfalso; (try simp only [pN2_b10, pN2_b17] at *); (first | (simp_all only [Bool.and_eq_true, Bool.not_eq_true', Bool.false_eq_true, Bool.true_eq_false, reduceCtorEq]; done) | (simp only [sx, sy, eq_self, ne_eq, IntKind.wrap_i64, wrapU64, Int.reduceLT] at * <;> first | with_reducible contradiction | omega) | omega | ((try simp only [sx, sy, eq_self, ne_eq, IntKind.wrap_i64, wrapU64, Int.reduceLT] at *) <;> omega) | (simp_all; done))
  ·exact h
 have hq17 : (pN2_b17 p g v l s k) = true := by
  rcases Bool.eq_false_or_eq_true (pN2_b17 p g v l s k) with h | h
  ·exact h
  ·exfalso; (try simp only [pN2_b10, pN2_b17] at *); (first | (simp_all only [Bool.and_eq_true, Bool.not_eq_true', Bool.false_eq_true, Bool.true_eq_false, reduceCtorEq]; done) | (simp only [sx, sy, eq_self, ne_eq, IntKind.wrap_i64, wrapU64, Int.reduceLT] at * <;> first | with_reducible contradiction | omega) | omega | ((try simp only [sx, sy, eq_self, ne_eq, IntKind.wrap_i64, wrapU64, Int.reduceLT] at *) <;> omega) | (simp_all; done))
 have e0 : pN2_c0 p g v l s k = (IntKind.i64.wrap (l + IntKind.i64.wrap (rD s ((if IntKind.i64.wrap (p - g) > IntKind.i64.wrap (g - p) then IntKind.i64.wrap (p - g) else IntKind.i64.wrap (g - p)) + rT v) - v + k))) := rfl; rw [e0]; exact pN2_p0 p g v l s k h1 h2 hq0 hq1 hq2 hq3 hq4 hq5 hq6 hq7 hq8 hq9 hq10 hq11 hq12 hq13 hq14 hq15 hq16 hq17
noncomputable def pN3_c0 (p g v l s k : Int) : Int := (l)
theorem pN3_p0 (p g v l s k : Int) (h1 : 0 ≤ p ∧ p ≤ 63000 ∧ 0 ≤ g ∧ g ≤ 63000 ∧ 0 ≤ v ∧ v ≤ s ∧ 1 ≤ s ∧ s ≤ 20 ∧ 0 ≤ k ∧ k ≤ 5 ∧ 0 ≤ l ∧ l ≤ k ∧ p = g ∧ v = 0 ∧ 0 < l) (hq0 : (decide (p ≥ (0 : Int))) = true) (hq1 : (decide (p ≤ (63000 : Int))) = true) (hq2 : (decide (g ≥ (0 : Int))) = true) (hq3 : (decide (g ≤ (63000 : Int))) = true) (hq4 : (decide (v ≥ (0 : Int))) = true) (hq5 : (decide (v ≤ (20 : Int))) = true) (hq6 : (decide (l ≥ (0 : Int))) = true) (hq7 : (!decide (l ≤ (5 : Int))) = false) (hq8 : (!true == decide (l > (0 : Int))) = false) (hq9 : (!true == (p == g)) = false) (hq10 : (v != (0 : Int)) = false) (hq11 : (decide (s ≥ (1 : Int))) = true) (hq12 : (!decide (s ≤ (20 : Int))) = false) (hq13 : (decide (k ≥ (0 : Int))) = true) (hq14 : (!decide (k ≤ (5 : Int))) = false) (hq15 : (decide (v > s)) = false) (hq16 : (decide (l > k)) = false) : Known Try.prog [] 51 [.agg #[.int .i64 p, .int .i64 g, .int .i64 v, .int .i64 3, .int .i64 l], .int .i64 s, .int .i64 k] (.tuple #[(.int .i64 (l)), (.int .i64 ((0 : Int)))]) :=
 open_res mix tabR_ok (T := tabR) (fuel := 3000) (ans := [(0, .b 1), (3, .b 1), (6, .b 1), (10, .b 1), (14, .b 1), (18, .b 1), (29, .b 1), (33, .b 0), (42, .b 0), (50, .b 0), (71, .b 0), (73, .b 1), (76, .b 0), (78, .b 1), (83, .b 0), (90, .b 0), (95, .b 0)]) (log := [(decide (l > k)) = false, (decide (v > s)) = false, (!decide (k ≤ (5 : Int))) = false, (decide (k ≥ (0 : Int))) = true, (!decide (s ≤ (20 : Int))) = false, (decide (s ≥ (1 : Int))) = true, (v != (0 : Int)) = false, (!true == (p == g)) = false, (!true == decide (l > (0 : Int))) = false, (!decide (l ≤ (5 : Int))) = false, (decide (l ≥ (0 : Int))) = true, (decide (v ≤ (20 : Int))) = true, (decide (v ≥ (0 : Int))) = true, (decide (g ≤ (63000 : Int))) = true, (decide (g ≥ (0 : Int))) = true, (decide (p ≤ (63000 : Int))) = true, (decide (p ≥ (0 : Int))) = true]) (by kernel_rfl) ⟨hq16, hq15, hq14, hq13, hq12, hq11, hq10, hq9, hq8, hq7, hq6, hq5, hq4, hq3, hq2, hq1, hq0, trivial⟩ (by kernel_rfl)
set_option maxHeartbeats 8000000 in
theorem pN3 (p g v l s k : Int) (h1 : 0 ≤ p ∧ p ≤ 63000 ∧ 0 ≤ g ∧ g ≤ 63000 ∧ 0 ≤ v ∧ v ≤ s ∧ 1 ≤ s ∧ s ≤ 20 ∧ 0 ≤ k ∧ k ≤ 5 ∧ 0 ≤ l ∧ l ≤ k ∧ p = g ∧ v = 0 ∧ 0 < l) : Known Try.prog [] 51 [.agg #[.int .i64 p, .int .i64 g, .int .i64 v, .int .i64 3, .int .i64 l], .int .i64 s, .int .i64 k] (.tuple #[(.int .i64 (pN3_c0 p g v l s k)), (.int .i64 ((0 : Int)))]) := by
 have hq0 : (decide (p ≥ (0 : Int))) = true := by
  rcases Bool.eq_false_or_eq_true (decide (p ≥ (0 : Int))) with h | h
  ·exact h
  ·exfalso; (first | (simp_all only [Bool.and_eq_true, Bool.not_eq_true', Bool.false_eq_true, Bool.true_eq_false, reduceCtorEq]; done) | (simp only [sx, sy, eq_self, ne_eq, IntKind.wrap_i64, wrapU64, Int.reduceLT] at * <;> first | with_reducible contradiction | omega) | omega | ((try simp only [sx, sy, eq_self, ne_eq, IntKind.wrap_i64, wrapU64, Int.reduceLT] at *) <;> omega) | (simp_all; done))
 have hq1 : (decide (p ≤ (63000 : Int))) = true := by
  rcases Bool.eq_false_or_eq_true (decide (p ≤ (63000 : Int))) with h | h
  ·exact h
  ·exfalso; (first | (simp_all only [Bool.and_eq_true, Bool.not_eq_true', Bool.false_eq_true, Bool.true_eq_false, reduceCtorEq]; done) | (simp only [sx, sy, eq_self, ne_eq, IntKind.wrap_i64, wrapU64, Int.reduceLT] at * <;> first | with_reducible contradiction | omega) | omega | ((try simp only [sx, sy, eq_self, ne_eq, IntKind.wrap_i64, wrapU64, Int.reduceLT] at *) <;> omega) | (simp_all; done))
 have hq2 : (decide (g ≥ (0 : Int))) = true := by
  rcases Bool.eq_false_or_eq_true (decide (g ≥ (0 : Int))) with h | h
  ·exact h
  ·exfalso; (first | (simp_all only [Bool.and_eq_true, Bool.not_eq_true', Bool.false_eq_true, Bool.true_eq_false, reduceCtorEq]; done) | (simp only [sx, sy, eq_self, ne_eq, IntKind.wrap_i64, wrapU64, Int.reduceLT] at * <;> first | with_reducible contradiction | omega) | omega | ((try simp only [sx, sy, eq_self, ne_eq, IntKind.wrap_i64, wrapU64, Int.reduceLT] at *) <;> omega) | (simp_all; done))
 have hq3 : (decide (g ≤ (63000 : Int))) = true := by
  rcases Bool.eq_false_or_eq_true (decide (g ≤ (63000 : Int))) with h | h
  ·exact h
  ·exfalso; (first | (simp_all only [Bool.and_eq_true, Bool.not_eq_true', Bool.false_eq_true, Bool.true_eq_false, reduceCtorEq]; done) | (simp only [sx, sy, eq_self, ne_eq, IntKind.wrap_i64, wrapU64, Int.reduceLT] at * <;> first | with_reducible contradiction | omega) | omega | ((try simp only [sx, sy, eq_self, ne_eq, IntKind.wrap_i64, wrapU64, Int.reduceLT] at *) <;> omega) | (simp_all; done))
 have hq4 : (decide (v ≥ (0 : Int))) = true := by
  rcases Bool.eq_false_or_eq_true (decide (v ≥ (0 : Int))) with h | h
  ·exact h
  ·exfalso; (first | (simp_all only [Bool.and_eq_true, Bool.not_eq_true', Bool.false_eq_true, Bool.true_eq_false, reduceCtorEq]; done) | (simp only [sx, sy, eq_self, ne_eq, IntKind.wrap_i64, wrapU64, Int.reduceLT] at * <;> first | with_reducible contradiction | omega) | omega | ((try simp only [sx, sy, eq_self, ne_eq, IntKind.wrap_i64, wrapU64, Int.reduceLT] at *) <;> omega) | (simp_all; done))
 have hq5 : (decide (v ≤ (20 : Int))) = true := by
  rcases Bool.eq_false_or_eq_true (decide (v ≤ (20 : Int))) with h | h
  ·exact h
  ·exfalso; (first | (simp_all only [Bool.and_eq_true, Bool.not_eq_true', Bool.false_eq_true, Bool.true_eq_false, reduceCtorEq]; done) | (simp only [sx, sy, eq_self, ne_eq, IntKind.wrap_i64, wrapU64, Int.reduceLT] at * <;> first | with_reducible contradiction | omega) | omega | ((try simp only [sx, sy, eq_self, ne_eq, IntKind.wrap_i64, wrapU64, Int.reduceLT] at *) <;> omega) | (simp_all; done))
 have hq6 : (decide (l ≥ (0 : Int))) = true := by
  rcases Bool.eq_false_or_eq_true (decide (l ≥ (0 : Int))) with h | h
  ·exact h
  ·exfalso; (first | (simp_all only [Bool.and_eq_true, Bool.not_eq_true', Bool.false_eq_true, Bool.true_eq_false, reduceCtorEq]; done) | (simp only [sx, sy, eq_self, ne_eq, IntKind.wrap_i64, wrapU64, Int.reduceLT] at * <;> first | with_reducible contradiction | omega) | omega | ((try simp only [sx, sy, eq_self, ne_eq, IntKind.wrap_i64, wrapU64, Int.reduceLT] at *) <;> omega) | (simp_all; done))
 have hq7 : (!decide (l ≤ (5 : Int))) = false := by
  rcases Bool.eq_false_or_eq_true (!decide (l ≤ (5 : Int))) with h | h
  ·exfalso; (first | (simp_all only [Bool.and_eq_true, Bool.not_eq_true', Bool.false_eq_true, Bool.true_eq_false, reduceCtorEq]; done) | (simp only [sx, sy, eq_self, ne_eq, IntKind.wrap_i64, wrapU64, Int.reduceLT] at * <;> first | with_reducible contradiction | omega) | omega | ((try simp only [sx, sy, eq_self, ne_eq, IntKind.wrap_i64, wrapU64, Int.reduceLT] at *) <;> omega) | (simp_all; done))
  ·exact h
 have hq8 : (!true == decide (l > (0 : Int))) = false := by
  rcases Bool.eq_false_or_eq_true (!true == decide (l > (0 : Int))) with h | h
  ·exfalso; (first | (simp_all only [Bool.and_eq_true, Bool.not_eq_true', Bool.false_eq_true, Bool.true_eq_false, reduceCtorEq]; done) | (simp only [sx, sy, eq_self, ne_eq, IntKind.wrap_i64, wrapU64, Int.reduceLT] at * <;> first | with_reducible contradiction | omega) | omega | ((try simp only [sx, sy, eq_self, ne_eq, IntKind.wrap_i64, wrapU64, Int.reduceLT] at *) <;> omega) | (simp_all; done))
  ·exact h
 have hq9 : (!true == (p == g)) = false := by
  rcases Bool.eq_false_or_eq_true (!true == (p == g)) with h | h
  ·exfalso; (first | (simp_all only [Bool.and_eq_true, Bool.not_eq_true', Bool.false_eq_true, Bool.true_eq_false, reduceCtorEq]; done) | (simp only [sx, sy, eq_self, ne_eq, IntKind.wrap_i64, wrapU64, Int.reduceLT] at * <;> first | with_reducible contradiction | omega) | omega | ((try simp only [sx, sy, eq_self, ne_eq, IntKind.wrap_i64, wrapU64, Int.reduceLT] at *) <;> omega) | (simp_all; done))
  ·exact h
 have hq10 : (v != (0 : Int)) = false := by
  rcases Bool.eq_false_or_eq_true (v != (0 : Int)) with h | h
  ·exfalso; (first | (simp_all only [Bool.and_eq_true, Bool.not_eq_true', Bool.false_eq_true, Bool.true_eq_false, reduceCtorEq]; done) | (simp only [sx, sy, eq_self, ne_eq, IntKind.wrap_i64, wrapU64, Int.reduceLT] at * <;> first | with_reducible contradiction | omega) | omega | ((try simp only [sx, sy, eq_self, ne_eq, IntKind.wrap_i64, wrapU64, Int.reduceLT] at *) <;> omega) | (simp_all; done))
  ·exact h
 have hq11 : (decide (s ≥ (1 : Int))) = true := by
  rcases Bool.eq_false_or_eq_true (decide (s ≥ (1 : Int))) with h | h
  ·exact h
  ·exfalso; (first | (simp_all only [Bool.and_eq_true, Bool.not_eq_true', Bool.false_eq_true, Bool.true_eq_false, reduceCtorEq]; done) | (simp only [sx, sy, eq_self, ne_eq, IntKind.wrap_i64, wrapU64, Int.reduceLT] at * <;> first | with_reducible contradiction | omega) | omega | ((try simp only [sx, sy, eq_self, ne_eq, IntKind.wrap_i64, wrapU64, Int.reduceLT] at *) <;> omega) | (simp_all; done))
 have hq12 : (!decide (s ≤ (20 : Int))) = false := by
  rcases Bool.eq_false_or_eq_true (!decide (s ≤ (20 : Int))) with h | h
  ·exfalso; (first | (simp_all only [Bool.and_eq_true, Bool.not_eq_true', Bool.false_eq_true, Bool.true_eq_false, reduceCtorEq]; done) | (simp only [sx, sy, eq_self, ne_eq, IntKind.wrap_i64, wrapU64, Int.reduceLT] at * <;> first | with_reducible contradiction | omega) | omega | ((try simp only [sx, sy, eq_self, ne_eq, IntKind.wrap_i64, wrapU64, Int.reduceLT] at *) <;> omega) | (simp_all; done))
  ·exact h
 have hq13 : (decide (k ≥ (0 : Int))) = true := by
  rcases Bool.eq_false_or_eq_true (decide (k ≥ (0 : Int))) with h | h
  ·exact h
  ·exfalso; (first | (simp_all only [Bool.and_eq_true, Bool.not_eq_true', Bool.false_eq_true, Bool.true_eq_false, reduceCtorEq]; done) | (simp only [sx, sy, eq_self, ne_eq, IntKind.wrap_i64, wrapU64, Int.reduceLT] at * <;> first | with_reducible contradiction | omega) | omega | ((try simp only [sx, sy, eq_self, ne_eq, IntKind.wrap_i64, wrapU64, Int.reduceLT] at *) <;> omega) | (simp_all; done))
 have hq14 : (!decide (k ≤ (5 : Int))) = false := by
  rcases Bool.eq_false_or_eq_true (!decide (k ≤ (5 : Int))) with h | h
  ·exfalso; (first | (simp_all only [Bool.and_eq_true, Bool.not_eq_true', Bool.false_eq_true, Bool.true_eq_false, reduceCtorEq]; done) | (simp only [sx, sy, eq_self, ne_eq, IntKind.wrap_i64, wrapU64, Int.reduceLT] at * <;> first | with_reducible contradiction | omega) | omega | ((try simp only [sx, sy, eq_self, ne_eq, IntKind.wrap_i64, wrapU64, Int.reduceLT] at *) <;> omega) | (simp_all; done))
  ·exact h
 have hq15 : (decide (v > s)) = false := by
  rcases Bool.eq_false_or_eq_true (decide (v > s)) with h | h
  ·exfalso; (first | (simp_all only [Bool.and_eq_true, Bool.not_eq_true', Bool.false_eq_true, Bool.true_eq_false, reduceCtorEq]; done) | (simp only [sx, sy, eq_self, ne_eq, IntKind.wrap_i64, wrapU64, Int.reduceLT] at * <;> first | with_reducible contradiction | omega) | omega | ((try simp only [sx, sy, eq_self, ne_eq, IntKind.wrap_i64, wrapU64, Int.reduceLT] at *) <;> omega) | (simp_all; done))
  ·exact h
 have hq16 : (decide (l > k)) = false := by
  rcases Bool.eq_false_or_eq_true (decide (l > k)) with h | h
  ·exfalso; (first | (simp_all only [Bool.and_eq_true, Bool.not_eq_true', Bool.false_eq_true, Bool.true_eq_false, reduceCtorEq]; done) | (simp only [sx, sy, eq_self, ne_eq, IntKind.wrap_i64, wrapU64, Int.reduceLT] at * <;> first | with_reducible contradiction | omega) | omega | ((try simp only [sx, sy, eq_self, ne_eq, IntKind.wrap_i64, wrapU64, Int.reduceLT] at *) <;> omega) | (simp_all; done))
  ·exact h
 have e0 : pN3_c0 p g v l s k = (l) := rfl; rw [e0]; exact pN3_p0 p g v l s k h1 hq0 hq1 hq2 hq3 hq4 hq5 hq6 hq7 hq8 hq9 hq10 hq11 hq12 hq13 hq14 hq15 hq16
end Go.Proofs.Ytcjlidciniiofaa
