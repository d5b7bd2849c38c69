/- Layer 13: Ticks and Travel of the program. -/
import Derived.Test.YtkmooakeilkdiaaOgU
import Derived.ProofKit
import Derived.IntWalk
namespace Go.Proofs.Ytkmooakeilkdiaa
open Go Go.RowKit
set_option linter.unusedVariables false
set_option linter.unusedSimpArgs false
set_option linter.unnecessarySimpa false
set_option maxHeartbeats 8000000
set_option maxRecDepth 100000
theorem qDur (n m : Int) (hg : (decide (0 ≤ n ∧ n ≤ 63000 ∧ 1 ≤ m ∧ m ≤ 20)) = true) : Known Try.prog [] 38 [.int .i64 n, .int .i64 m] (.int .i64 (rD m n)) := by have h := of_decide_eq_true hg; exact pDuration ⟨h.1, h.2.1⟩ h.2.2
noncomputable def qDur_k : List Value → Option (Bool × Value)
  | [.int .i64 n, .int .i64 m] => some (decide (0 ≤ n ∧ n ≤ 63000 ∧ 1 ≤ m ∧ m ≤ 20), .int .i64 (rD m n))
  | _ => none
theorem qDur_ok : ∀ args v, qDur_k args = some (true, v) → Known Try.prog [] 38 args v := by
  intro args v h
  unfold qDur_k at h
  split at h
  · injection h with h; injection h with hg h; subst h; exact qDur _ _ hg
  · cases h
noncomputable def tabDu : GTab := (GTab.fn 38 qDur_k GTab.none)
theorem tabDu_ok : GOk Try.prog [] tabDu := (GOk.fn qDur_ok GOk.none)
noncomputable def tkP_b9 (a b s k : Int) : Bool := decide ((if IntKind.i64.wrap (b - a) > IntKind.i64.wrap (a - b) then IntKind.i64.wrap (b - a) else IntKind.i64.wrap (a - b)) < (0 : Int))
noncomputable def tkP_b10 (a b s k : Int) : Bool := decide ((if IntKind.i64.wrap (b - a) > IntKind.i64.wrap (a - b) then IntKind.i64.wrap (b - a) else IntKind.i64.wrap (a - b)) > (63000 : Int))
noncomputable def tkP_b13 (a b s k : Int) : Bool := decide (((0 : Int) ≤ if IntKind.i64.wrap (b - a) > IntKind.i64.wrap (a - b) then IntKind.i64.wrap (b - a) else IntKind.i64.wrap (a - b)) ∧ (if IntKind.i64.wrap (b - a) > IntKind.i64.wrap (a - b) then IntKind.i64.wrap (b - a) else IntKind.i64.wrap (a - b)) ≤ (63000 : Int) ∧ (1 : Int) ≤ s ∧ s ≤ (20 : Int))
noncomputable def tkP_c0 (a b s k : Int) : Int := (bif (a == b) then ((0 : Int)) else (IntKind.i64.wrap (rD s (if IntKind.i64.wrap (b - a) > IntKind.i64.wrap (a - b) then IntKind.i64.wrap (b - a) else IntKind.i64.wrap (a - b)) + IntKind.i64.wrap ((2 : Int) * k))))
theorem tkP_p0 (a b s k : Int) (h1 : 0 ≤ a ∧ a ≤ 63000 ∧ 0 ≤ b ∧ b ≤ 63000 ∧ 1 ≤ s ∧ s ≤ 20 ∧ 0 ≤ k ∧ k ≤ 5) (hq0 : (decide (a ≥ (0 : Int))) = true) (hq1 : (!decide (a ≤ (63000 : Int))) = false) (hq2 : (decide (b ≥ (0 : Int))) = true) (hq3 : (!decide (b ≤ (63000 : Int))) = false) (hq4 : (decide (s ≥ (1 : Int))) = true) (hq5 : (!decide (s ≤ (20 : Int))) = false) (hq6 : (decide (k ≥ (0 : Int))) = true) (hq7 : (!decide (k ≤ (5 : Int))) = false) (hq8 : (a == b) = true) : Known Try.prog [] 10 [.int .i64 a, .int .i64 b, .int .i64 s, .int .i64 k] (.tuple #[(.int .i64 ((0 : Int))), (.int .i64 ((0 : Int)))]) :=
  open_res mix tabDu_ok (T := tabDu) (fuel := 3000) (ans := [(0, .b 1), (3, .b 0), (5, .b 1), (10, .b 0), (12, .b 1), (17, .b 0), (19, .b 1), (24, .b 0), (25, .b 1)]) (log := [(a == b) = true, (!decide (k ≤ (5 : Int))) = false, (decide (k ≥ (0 : Int))) = true, (!decide (s ≤ (20 : Int))) = false, (decide (s ≥ (1 : Int))) = true, (!decide (b ≤ (63000 : Int))) = false, (decide (b ≥ (0 : Int))) = true, (!decide (a ≤ (63000 : Int))) = false, (decide (a ≥ (0 : Int))) = true]) (by kernel_rfl) ⟨hq8, hq7, hq6, hq5, hq4, hq3, hq2, hq1, hq0, trivial⟩ (by kernel_rfl)
theorem tkP_p1 (a b s k : Int) (h1 : 0 ≤ a ∧ a ≤ 63000 ∧ 0 ≤ b ∧ b ≤ 63000 ∧ 1 ≤ s ∧ s ≤ 20 ∧ 0 ≤ k ∧ k ≤ 5) (hq0 : (decide (a ≥ (0 : Int))) = true) (hq1 : (!decide (a ≤ (63000 : Int))) = false) (hq2 : (decide (b ≥ (0 : Int))) = true) (hq3 : (!decide (b ≤ (63000 : Int))) = false) (hq4 : (decide (s ≥ (1 : Int))) = true) (hq5 : (!decide (s ≤ (20 : Int))) = false) (hq6 : (decide (k ≥ (0 : Int))) = true) (hq7 : (!decide (k ≤ (5 : Int))) = false) (hq8 : (a == b) = false) (hq9 : (tkP_b9 a b s k) = false) (hq10 : (tkP_b10 a b s k) = false) (hq11 : (decide (s < (1 : Int))) = false) (hq12 : (decide (s > (20 : Int))) = false) (hq13 : (tkP_b13 a b s k) = true) : Known Try.prog [] 10 [.int .i64 a, .int .i64 b, .int .i64 s, .int .i64 k] (.tuple #[(.int .i64 (IntKind.i64.wrap (rD s (if IntKind.i64.wrap (b - a) > IntKind.i64.wrap (a - b) then IntKind.i64.wrap (b - a) else IntKind.i64.wrap (a - b)) + IntKind.i64.wrap ((2 : Int) * k)))), (.int .i64 ((0 : Int)))]) :=
  open_res mix tabDu_ok (T := tabDu) (fuel := 3000) (ans := [(0, .b 1), (3, .b 0), (5, .b 1), (10, .b 0), (12, .b 1), (17, .b 0), (19, .b 1), (24, .b 0), (25, .b 0), (26, .b 0), (29, .b 0), (32, .b 0), (35, .b 0), (37, .b 1)]) (log := [(tkP_b13 a b s k) = true, (decide (s > (20 : Int))) = false, (decide (s < (1 : Int))) = false, (tkP_b10 a b s k) = false, (tkP_b9 a b s k) = false, (a == b) = false, (!decide (k ≤ (5 : Int))) = false, (decide (k ≥ (0 : Int))) = true, (!decide (s ≤ (20 : Int))) = false, (decide (s ≥ (1 : Int))) = true, (!decide (b ≤ (63000 : Int))) = false, (decide (b ≥ (0 : Int))) = true, (!decide (a ≤ (63000 : Int))) = false, (decide (a ≥ (0 : Int))) = true]) (by kernel_rfl) ⟨hq13, hq12, hq11, hq10, hq9, hq8, hq7, hq6, hq5, hq4, hq3, hq2, hq1, hq0, trivial⟩ (by kernel_rfl)
set_option maxHeartbeats 8000000 in
theorem tkP (a b s k : Int) (h1 : 0 ≤ a ∧ a ≤ 63000 ∧ 0 ≤ b ∧ b ≤ 63000 ∧ 1 ≤ s ∧ s ≤ 20 ∧ 0 ≤ k ∧ k ≤ 5) : Known Try.prog [] 10 [.int .i64 a, .int .i64 b, .int .i64 s, .int .i64 k] (.tuple #[(.int .i64 (tkP_c0 a b s k)), (.int .i64 ((0 : Int)))]) := by
  have hq0 : (decide (a ≥ (0 : Int))) = true := by
    rcases Bool.eq_false_or_eq_true (decide (a ≥ (0 : Int))) with h | h
    · exact h
    · exfalso; (try simp only [tkP_b9, tkP_b10, tkP_b13] at *); (first | (simp_all only [Bool.and_eq_true, Bool.not_eq_true', Bool.false_eq_true, Bool.true_eq_false, reduceCtorEq]; done) | (simp only [sx, sy, eq_self, ne_eq, IntKind.wrap_i64, wrapU64, Int.reduceLT] at * <;> first | contradiction | omega) | omega | ((try simp only [sx, sy, eq_self, ne_eq, IntKind.wrap_i64, wrapU64, Int.reduceLT] at *) <;> omega) | (simp_all; done))
  have hq1 : (!decide (a ≤ (63000 : Int))) = false := by
    rcases Bool.eq_false_or_eq_true (!decide (a ≤ (63000 : Int))) with h | h
    · exfalso; (try simp only [tkP_b9, tkP_b10, tkP_b13] at *); (first | (simp_all only [Bool.and_eq_true, Bool.not_eq_true', Bool.false_eq_true, Bool.true_eq_false, reduceCtorEq]; done) | (simp only [sx, sy, eq_self, ne_eq, IntKind.wrap_i64, wrapU64, Int.reduceLT] at * <;> first | contradiction | omega) | omega | ((try simp only [sx, sy, eq_self, ne_eq, IntKind.wrap_i64, wrapU64, Int.reduceLT] at *) <;> omega) | (simp_all; done))
    · exact h
  have hq2 : (decide (b ≥ (0 : Int))) = true := by
    rcases Bool.eq_false_or_eq_true (decide (b ≥ (0 : Int))) with h | h
    · exact h
    · exfalso; (try simp only [tkP_b9, tkP_b10, tkP_b13] at *); (first | (simp_all only [Bool.and_eq_true, Bool.not_eq_true', Bool.false_eq_true, Bool.true_eq_false, reduceCtorEq]; done) | (simp only [sx, sy, eq_self, ne_eq, IntKind.wrap_i64, wrapU64, Int.reduceLT] at * <;> first | contradiction | omega) | omega | ((try simp only [sx, sy, eq_self, ne_eq, IntKind.wrap_i64, wrapU64, Int.reduceLT] at *) <;> omega) | (simp_all; done))
  have hq3 : (!decide (b ≤ (63000 : Int))) = false := by
    rcases Bool.eq_false_or_eq_true (!decide (b ≤ (63000 : Int))) with h | h
    · exfalso; (try simp only [tkP_b9, tkP_b10, tkP_b13] at *); (first | (simp_all only [Bool.and_eq_true, Bool.not_eq_true', Bool.false_eq_true, Bool.true_eq_false, reduceCtorEq]; done) | (simp only [sx, sy, eq_self, ne_eq, IntKind.wrap_i64, wrapU64, Int.reduceLT] at * <;> first | contradiction | omega) | omega | ((try simp only [sx, sy, eq_self, ne_eq, IntKind.wrap_i64, wrapU64, Int.reduceLT] at *) <;> omega) | (simp_all; done))
    · exact h
  have hq4 : (decide (s ≥ (1 : Int))) = true := by
    rcases Bool.eq_false_or_eq_true (decide (s ≥ (1 : Int))) with h | h
    · exact h
    · exfalso; (try simp only [tkP_b9, tkP_b10, tkP_b13] at *); (first | (simp_all only [Bool.and_eq_true, Bool.not_eq_true', Bool.false_eq_true, Bool.true_eq_false, reduceCtorEq]; done) | (simp only [sx, sy, eq_self, ne_eq, IntKind.wrap_i64, wrapU64, Int.reduceLT] at * <;> first | contradiction | omega) | omega | ((try simp only [sx, sy, eq_self, ne_eq, IntKind.wrap_i64, wrapU64, Int.reduceLT] at *) <;> omega) | (simp_all; done))
  have hq5 : (!decide (s ≤ (20 : Int))) = false := by
    rcases Bool.eq_false_or_eq_true (!decide (s ≤ (20 : Int))) with h | h
    · exfalso; (try simp only [tkP_b9, tkP_b10, tkP_b13] at *); (first | (simp_all only [Bool.and_eq_true, Bool.not_eq_true', Bool.false_eq_true, Bool.true_eq_false, reduceCtorEq]; done) | (simp only [sx, sy, eq_self, ne_eq, IntKind.wrap_i64, wrapU64, Int.reduceLT] at * <;> first | contradiction | omega) | omega | ((try simp only [sx, sy, eq_self, ne_eq, IntKind.wrap_i64, wrapU64, Int.reduceLT] at *) <;> omega) | (simp_all; done))
    · exact h
  have hq6 : (decide (k ≥ (0 : Int))) = true := by
    rcases Bool.eq_false_or_eq_true (decide (k ≥ (0 : Int))) with h | h
    · exact h
    · exfalso; (try simp only [tkP_b9, tkP_b10, tkP_b13] at *); (first | (simp_all only [Bool.and_eq_true, Bool.not_eq_true', Bool.false_eq_true, Bool.true_eq_false, reduceCtorEq]; done) | (simp only [sx, sy, eq_self, ne_eq, IntKind.wrap_i64, wrapU64, Int.reduceLT] at * <;> first | contradiction | omega) | omega | ((try simp only [sx, sy, eq_self, ne_eq, IntKind.wrap_i64, wrapU64, Int.reduceLT] at *) <;> omega) | (simp_all; done))
  have hq7 : (!decide (k ≤ (5 : Int))) = false := by
    rcases Bool.eq_false_or_eq_true (!decide (k ≤ (5 : Int))) with h | h
    · exfalso; (try simp only [tkP_b9, tkP_b10, tkP_b13] at *); (first | (simp_all only [Bool.and_eq_true, Bool.not_eq_true', Bool.false_eq_true, Bool.true_eq_false, reduceCtorEq]; done) | (simp only [sx, sy, eq_self, ne_eq, IntKind.wrap_i64, wrapU64, Int.reduceLT] at * <;> first | contradiction | omega) | omega | ((try simp only [sx, sy, eq_self, ne_eq, IntKind.wrap_i64, wrapU64, Int.reduceLT] at *) <;> omega) | (simp_all; done))
    · exact h
  rcases Bool.eq_false_or_eq_true (a == b) with hq8 | hq8
  ·
    have e0 : tkP_c0 a b s k = ((0 : Int)) := ((bif_t hq8 _ _).trans rfl); rw [e0]; exact tkP_p0 a b s k h1 hq0 hq1 hq2 hq3 hq4 hq5 hq6 hq7 hq8
  ·
    have hq9 : (tkP_b9 a b s k) = false := by
      rcases Bool.eq_false_or_eq_true (tkP_b9 a b s k) with h | h
      · exfalso; (try simp only [tkP_b9, tkP_b10, tkP_b13] at *); (first | (simp_all only [Bool.and_eq_true, Bool.not_eq_true', Bool.false_eq_true, Bool.true_eq_false, reduceCtorEq]; done) | (simp only [sx, sy, eq_self, ne_eq, IntKind.wrap_i64, wrapU64, Int.reduceLT] at * <;> first | contradiction | omega) | omega | ((try simp only [sx, sy, eq_self, ne_eq, IntKind.wrap_i64, wrapU64, Int.reduceLT] at *) <;> omega) | (simp_all; done))
      · exact h
    have hq10 : (tkP_b10 a b s k) = false := by
      rcases Bool.eq_false_or_eq_true (tkP_b10 a b s k) with h | h
      · exfalso; (try simp only [tkP_b9, tkP_b10, tkP_b13] at *); (first | (simp_all only [Bool.and_eq_true, Bool.not_eq_true', Bool.false_eq_true, Bool.true_eq_false, reduceCtorEq]; done) | (simp only [sx, sy, eq_self, ne_eq, IntKind.wrap_i64, wrapU64, Int.reduceLT] at * <;> first | contradiction | omega) | omega | ((try simp only [sx, sy, eq_self, ne_eq, IntKind.wrap_i64, wrapU64, Int.reduceLT] at *) <;> omega) | (simp_all; done))
      · exact h
    have hq11 : (decide (s < (1 : Int))) = false := by
      rcases Bool.eq_false_or_eq_true (decide (s < (1 : Int))) with h | h
      · exfalso; (try simp only [tkP_b9, tkP_b10, tkP_b13] at *); (first | (simp_all only [Bool.and_eq_true, Bool.not_eq_true', Bool.false_eq_true, Bool.true_eq_false, reduceCtorEq]; done) | (simp only [sx, sy, eq_self, ne_eq, IntKind.wrap_i64, wrapU64, Int.reduceLT] at * <;> first | contradiction | omega) | omega | ((try simp only [sx, sy, eq_self, ne_eq, IntKind.wrap_i64, wrapU64, Int.reduceLT] at *) <;> omega) | (simp_all; done))
      · exact h
    have hq12 : (decide (s > (20 : Int))) = false := by
      rcases Bool.eq_false_or_eq_true (decide (s > (20 : Int))) with h | h
      · exfalso; (try simp only [tkP_b9, tkP_b10, tkP_b13] at *); (first | (simp_all only [Bool.and_eq_true, Bool.not_eq_true', Bool.false_eq_true, Bool.true_eq_false, reduceCtorEq]; done) | (simp only [sx, sy, eq_self, ne_eq, IntKind.wrap_i64, wrapU64, Int.reduceLT] at * <;> first | contradiction | omega) | omega | ((try simp only [sx, sy, eq_self, ne_eq, IntKind.wrap_i64, wrapU64, Int.reduceLT] at *) <;> omega) | (simp_all; done))
      · exact h
    have hq13 : (tkP_b13 a b s k) = true := by
      rcases Bool.eq_false_or_eq_true (tkP_b13 a b s k) with h | h
      · exact h
      · exfalso; (try simp only [tkP_b9, tkP_b10, tkP_b13] at *); (first | (simp_all only [Bool.and_eq_true, Bool.not_eq_true', Bool.false_eq_true, Bool.true_eq_false, reduceCtorEq]; done) | (simp only [sx, sy, eq_self, ne_eq, IntKind.wrap_i64, wrapU64, Int.reduceLT] at * <;> first | contradiction | omega) | omega | ((try simp only [sx, sy, eq_self, ne_eq, IntKind.wrap_i64, wrapU64, Int.reduceLT] at *) <;> omega) | (simp_all; done))
    have e0 : tkP_c0 a b s k = (IntKind.i64.wrap (rD s (if IntKind.i64.wrap (b - a) > IntKind.i64.wrap (a - b) then IntKind.i64.wrap (b - a) else IntKind.i64.wrap (a - b)) + IntKind.i64.wrap ((2 : Int) * k))) := ((bif_f hq8 _ _).trans rfl); rw [e0]; exact tkP_p1 a b s k h1 hq0 hq1 hq2 hq3 hq4 hq5 hq6 hq7 hq8 hq9 hq10 hq11 hq12 hq13

noncomputable def trP_b4 (n m : Int) : Bool := decide ((0 : Int) ≤ n ∧ n ≤ (63000 : Int) ∧ (1 : Int) ≤ m ∧ m ≤ (20 : Int))
noncomputable def trP_c0 (n m : Int) : Int := (rD m n)
theorem trP_p0 (n m : Int) (h1 : 0 ≤ n ∧ n ≤ 63000 ∧ 1 ≤ m ∧ m ≤ 20) (hq0 : (decide (n < (0 : Int))) = false) (hq1 : (decide (n > (63000 : Int))) = false) (hq2 : (decide (m < (1 : Int))) = false) (hq3 : (decide (m > (20 : Int))) = false) (hq4 : (trP_b4 n m) = true) : Known Try.prog [] 21 [.int .i64 n, .int .i64 m] (.tuple #[(.int .i64 (rD m n)), (.int .i64 ((0 : Int)))]) :=
  open_res mix tabDu_ok (T := tabDu) (fuel := 3000) (ans := [(0, .b 0), (3, .b 0), (6, .b 0), (9, .b 0), (11, .b 1)]) (log := [(trP_b4 n m) = true, (decide (m > (20 : Int))) = false, (decide (m < (1 : Int))) = false, (decide (n > (63000 : Int))) = false, (decide (n < (0 : Int))) = false]) (by kernel_rfl) ⟨hq4, hq3, hq2, hq1, hq0, trivial⟩ (by kernel_rfl)
set_option maxHeartbeats 8000000 in
theorem trP (n m : Int) (h1 : 0 ≤ n ∧ n ≤ 63000 ∧ 1 ≤ m ∧ m ≤ 20) : Known Try.prog [] 21 [.int .i64 n, .int .i64 m] (.tuple #[(.int .i64 (trP_c0 n m)), (.int .i64 ((0 : Int)))]) := by
  have hq0 : (decide (n < (0 : Int))) = false := by
    rcases Bool.eq_false_or_eq_true (decide (n < (0 : Int))) with h | h
    · exfalso; (try simp only [trP_b4] at *); (first | (simp_all only [Bool.and_eq_true, Bool.not_eq_true', Bool.false_eq_true, Bool.true_eq_false, reduceCtorEq]; done) | (simp only [sx, sy, eq_self, ne_eq, IntKind.wrap_i64, wrapU64, Int.reduceLT] at * <;> first | contradiction | omega) | omega | ((try simp only [sx, sy, eq_self, ne_eq, IntKind.wrap_i64, wrapU64, Int.reduceLT] at *) <;> omega) | (simp_all; done))
    · exact h
  have hq1 : (decide (n > (63000 : Int))) = false := by
    rcases Bool.eq_false_or_eq_true (decide (n > (63000 : Int))) with h | h
    · exfalso; (try simp only [trP_b4] at *); (first | (simp_all only [Bool.and_eq_true, Bool.not_eq_true', Bool.false_eq_true, Bool.true_eq_false, reduceCtorEq]; done) | (simp only [sx, sy, eq_self, ne_eq, IntKind.wrap_i64, wrapU64, Int.reduceLT] at * <;> first | contradiction | omega) | omega | ((try simp only [sx, sy, eq_self, ne_eq, IntKind.wrap_i64, wrapU64, Int.reduceLT] at *) <;> omega) | (simp_all; done))
    · exact h
  have hq2 : (decide (m < (1 : Int))) = false := by
    rcases Bool.eq_false_or_eq_true (decide (m < (1 : Int))) with h | h
    · exfalso; (try simp only [trP_b4] at *); (first | (simp_all only [Bool.and_eq_true, Bool.not_eq_true', Bool.false_eq_true, Bool.true_eq_false, reduceCtorEq]; done) | (simp only [sx, sy, eq_self, ne_eq, IntKind.wrap_i64, wrapU64, Int.reduceLT] at * <;> first | contradiction | omega) | omega | ((try simp only [sx, sy, eq_self, ne_eq, IntKind.wrap_i64, wrapU64, Int.reduceLT] at *) <;> omega) | (simp_all; done))
    · exact h
  have hq3 : (decide (m > (20 : Int))) = false := by
    rcases Bool.eq_false_or_eq_true (decide (m > (20 : Int))) with h | h
    · exfalso; (try simp only [trP_b4] at *); (first | (simp_all only [Bool.and_eq_true, Bool.not_eq_true', Bool.false_eq_true, Bool.true_eq_false, reduceCtorEq]; done) | (simp only [sx, sy, eq_self, ne_eq, IntKind.wrap_i64, wrapU64, Int.reduceLT] at * <;> first | contradiction | omega) | omega | ((try simp only [sx, sy, eq_self, ne_eq, IntKind.wrap_i64, wrapU64, Int.reduceLT] at *) <;> omega) | (simp_all; done))
    · exact h
  have hq4 : (trP_b4 n m) = true := by
    rcases Bool.eq_false_or_eq_true (trP_b4 n m) with h | h
    · exact h
    · exfalso; (try simp only [trP_b4] at *); (first | (simp_all only [Bool.and_eq_true, Bool.not_eq_true', Bool.false_eq_true, Bool.true_eq_false, reduceCtorEq]; done) | (simp only [sx, sy, eq_self, ne_eq, IntKind.wrap_i64, wrapU64, Int.reduceLT] at * <;> first | contradiction | omega) | omega | ((try simp only [sx, sy, eq_self, ne_eq, IntKind.wrap_i64, wrapU64, Int.reduceLT] at *) <;> omega) | (simp_all; done))
  have e0 : trP_c0 n m = (rD m n) := rfl; rw [e0]; exact trP_p0 n m h1 hq0 hq1 hq2 hq3 hq4

end Go.Proofs.Ytkmooakeilkdiaa
