import Derived.Test.YtcjlidciniiofaaDB15
import Derived.ProofKit
import Derived.IntWalk
set_option linter.unnecessarySimpa false
set_option linter.unusedSimpArgs false
set_option linter.unusedVariables false
namespace Go.Proofs.Ytcjlidciniiofaa
open Go Go.RowKit
set_option maxHeartbeats 8000000
set_option maxRecDepth 100000
noncomputable def tabGo : GTab := (GTab.fn 70 qNext_k (GTab.fn 46 qCheck_k tabT))
theorem tabGo_ok : GOk Try.prog [] tabGo := (GOk.fn qNext_ok (GOk.fn qCheck_ok tabT_ok))
noncomputable def goP_b0 (p g k : Int) : Bool := decide ((0 : Int) ≤ p ∧ p ≤ (63000 : Int) ∧ (0 : Int) ≤ p ∧ p ≤ (63000 : Int) ∧ (0 : Int) ≤ (0 : Int) ∧ (0 : Int) ≤ (20 : Int) ∧ (1 : Nat) ≤ (20 : Nat) ∧ (20 : Nat) ≤ (20 : Nat) ∧ (0 : Nat) ≤ (5 : Nat) ∧ (5 : Nat) ≤ (5 : Nat) ∧ (0 : Int) ≤ (0 : Int) ∧ (0 : Int) ≤ (5 : Int) ∧ ((0 : Int) = (0 : Int) ∧ p = p ∧ (0 : Int) = (0 : Int) ∧ (0 : Int) = (0 : Int) ∨ (0 : Int) = (1 : Int) ∧ p ≠ p ∧ (0 : Int) = (0 : Int) ∧ (0 : Int) < (0 : Int) ∨ (0 : Int) = (2 : Int) ∧ p ≠ p ∧ (0 : Int) = (0 : Int) ∧ ((0 : Int) = (0 : Int) ∨ (0 : Int) ≤ if p < p then p - p else p - p) ∨ (0 : Int) = (3 : Int) ∧ p = p ∧ (0 : Int) = (0 : Int) ∧ (0 : Int) < (0 : Int)))
noncomputable def goP_c0 (p g k : Int) : Int := (p)
noncomputable def goP_c1 (p g k : Int) : Int := (bif (g == p) then (p) else (g))
noncomputable def goP_c3 (p g k : Int) : Int := (bif (g == p) then ((0 : Int)) else (bif (k == (0 : Int)) then ((2 : Int)) else ((1 : Int))))
noncomputable def goP_c4 (p g k : Int) : Int := (bif (g == p) then ((0 : Int)) else (k))
theorem goP_p0 (p g k : Int) (h1 : 0 ≤ p ∧ p ≤ 63000 ∧ 0 ≤ g ∧ g ≤ 63000 ∧ 0 ≤ k ∧ k ≤ 5) (hq0 : (goP_b0 p g k) = true) (hq1 : (decide (g ≥ (0 : Int))) = true) (hq2 : (!decide (g ≤ (63000 : Int))) = false) (hq3 : (decide (k ≥ (0 : Int))) = true) (hq4 : (!decide (k ≤ (5 : Int))) = false) (hq5 : (g == p) = true) : Known Try.prog [] 29 [.agg #[.int .i64 p, .int .i64 p, .int .i64 0, .int .i64 0, .int .i64 0], .int .i64 g, .int .i64 k] (.tuple #[(.agg #[(.int .i64 (p)), (.int .i64 (p)), (.int .i64 ((0 : Int))), (.int .i64 ((0 : Int))), (.int .i64 ((0 : Int)))]), (.int .i64 ((0 : Int)))]) :=
 open_res mix tabGo_ok (T := tabGo) (fuel := 3000) (ans := [(0, .b 1), (2, .b 1), (5, .b 0), (7, .b 1), (12, .b 0), (14, .b 1)]) (log := [(g == p) = true, (!decide (k ≤ (5 : Int))) = false, (decide (k ≥ (0 : Int))) = true, (!decide (g ≤ (63000 : Int))) = false, (decide (g ≥ (0 : Int))) = true, (goP_b0 p g k) = true]) (by kernel_rfl) ⟨hq5, hq4, hq3, hq2, hq1, hq0, trivial⟩ (by kernel_rfl)
theorem goP_p1 (p g k : Int) (h1 : 0 ≤ p ∧ p ≤ 63000 ∧ 0 ≤ g ∧ g ≤ 63000 ∧ 0 ≤ k ∧ k ≤ 5) (hq0 : (goP_b0 p g k) = true) (hq1 : (decide (g ≥ (0 : Int))) = true) (hq2 : (!decide (g ≤ (63000 : Int))) = false) (hq3 : (decide (k ≥ (0 : Int))) = true) (hq4 : (!decide (k ≤ (5 : Int))) = false) (hq5 : (g == p) = false) (hq6 : (k == (0 : Int)) = true) : Known Try.prog [] 29 [.agg #[.int .i64 p, .int .i64 p, .int .i64 0, .int .i64 0, .int .i64 0], .int .i64 g, .int .i64 k] (.tuple #[(.agg #[(.int .i64 (p)), (.int .i64 (g)), (.int .i64 ((0 : Int))), (.int .i64 ((2 : Int))), (.int .i64 (k))]), (.int .i64 ((0 : Int)))]) :=
 open_res mix tabGo_ok (T := tabGo) (fuel := 3000) (ans := [(0, .b 1), (2, .b 1), (5, .b 0), (7, .b 1), (12, .b 0), (14, .b 0), (15, .b 1)]) (log := [(k == (0 : Int)) = true, (g == p) = false, (!decide (k ≤ (5 : Int))) = false, (decide (k ≥ (0 : Int))) = true, (!decide (g ≤ (63000 : Int))) = false, (decide (g ≥ (0 : Int))) = true, (goP_b0 p g k) = true]) (by kernel_rfl) ⟨hq6, hq5, hq4, hq3, hq2, hq1, hq0, trivial⟩ (by kernel_rfl)
theorem goP_p2 (p g k : Int) (h1 : 0 ≤ p ∧ p ≤ 63000 ∧ 0 ≤ g ∧ g ≤ 63000 ∧ 0 ≤ k ∧ k ≤ 5) (hq0 : (goP_b0 p g k) = true) (hq1 : (decide (g ≥ (0 : Int))) = true) (hq2 : (!decide (g ≤ (63000 : Int))) = false) (hq3 : (decide (k ≥ (0 : Int))) = true) (hq4 : (!decide (k ≤ (5 : Int))) = false) (hq5 : (g == p) = false) (hq6 : (k == (0 : Int)) = false) : Known Try.prog [] 29 [.agg #[.int .i64 p, .int .i64 p, .int .i64 0, .int .i64 0, .int .i64 0], .int .i64 g, .int .i64 k] (.tuple #[(.agg #[(.int .i64 (p)), (.int .i64 (g)), (.int .i64 ((0 : Int))), (.int .i64 ((1 : Int))), (.int .i64 (k))]), (.int .i64 ((0 : Int)))]) :=
 open_res mix tabGo_ok (T := tabGo) (fuel := 3000) (ans := [(0, .b 1), (2, .b 1), (5, .b 0), (7, .b 1), (12, .b 0), (14, .b 0), (15, .b 0)]) (log := [(k == (0 : Int)) = false, (g == p) = false, (!decide (k ≤ (5 : Int))) = false, (decide (k ≥ (0 : Int))) = true, (!decide (g ≤ (63000 : Int))) = false, (decide (g ≥ (0 : Int))) = true, (goP_b0 p g k) = true]) (by kernel_rfl) ⟨hq6, hq5, hq4, hq3, hq2, hq1, hq0, trivial⟩ (by kernel_rfl)
set_option maxHeartbeats 8000000 in
theorem goP (p g k : Int) (h1 : 0 ≤ p ∧ p ≤ 63000 ∧ 0 ≤ g ∧ g ≤ 63000 ∧ 0 ≤ k ∧ k ≤ 5) : Known Try.prog [] 29 [.agg #[.int .i64 p, .int .i64 p, .int .i64 0, .int .i64 0, .int .i64 0], .int .i64 g, .int .i64 k] (.tuple #[(.agg #[(.int .i64 (goP_c0 p g k)), (.int .i64 (goP_c1 p g k)), (.int .i64 ((0 : Int))), (.int .i64 (goP_c3 p g k)), (.int .i64 (goP_c4 p g k))]), (.int .i64 ((0 : Int)))]) := by
 have hq0 : (goP_b0 p g k) = true := by
  rcases Bool.eq_false_or_eq_true (goP_b0 p g k) with h | h
  ·exact h
  ·exfalso; (try simp only [goP_b0] at *); (first | (simp_all only [Bool.and_eq_true, Bool.not_eq_true', Bool.false_eq_true, Bool.true_eq_false, reduceCtorEq]; done) | (simp only [sx, sy, eq_self, ne_eq, IntKind.wrap_i64, wrapU64, Int.reduceLT] at * <;> first | with_reducible contradiction | omega) | omega | ((try simp only [sx, sy, eq_self, ne_eq, IntKind.wrap_i64, wrapU64, Int.reduceLT] at *) <;> omega) | (simp_all; done))
 have hq1 : (decide (g ≥ (0 : Int))) = true := by
  rcases Bool.eq_false_or_eq_true (decide (g ≥ (0 : Int))) with h | h
  ·exact h
  ·exfalso; (try simp only [goP_b0] at *); (first | (simp_all only [Bool.and_eq_true, Bool.not_eq_true', Bool.false_eq_true, Bool.true_eq_false, reduceCtorEq]; done) | (simp only [sx, sy, eq_self, ne_eq, IntKind.wrap_i64, wrapU64, Int.reduceLT] at * <;> first | with_reducible contradiction | omega) | omega | ((try simp only [sx, sy, eq_self, ne_eq, IntKind.wrap_i64, wrapU64, Int.reduceLT] at *) <;> omega) | (simp_all; done))
 have hq2 : (!decide (g ≤ (63000 : Int))) = false := by
  rcases Bool.eq_false_or_eq_true (!decide (g ≤ (63000 : Int))) with h | h
  ·exfalso; (try simp only [goP_b0] at *); (first | (simp_all only [Bool.and_eq_true, Bool.not_eq_true', Bool.false_eq_true, Bool.true_eq_false, reduceCtorEq]; done) | (simp only [sx, sy, eq_self, ne_eq, IntKind.wrap_i64, wrapU64, Int.reduceLT] at * <;> first | with_reducible contradiction | omega) | omega | ((try simp only [sx, sy, eq_self, ne_eq, IntKind.wrap_i64, wrapU64, Int.reduceLT] at *) <;> omega) | (simp_all; done))
  ·exact h
 have hq3 : (decide (k ≥ (0 : Int))) = true := by
  rcases Bool.eq_false_or_eq_true (decide (k ≥ (0 : Int))) with h | h
  ·exact h
  ·exfalso; (try simp only [goP_b0] at *); (first | (simp_all only [Bool.and_eq_true, Bool.not_eq_true', Bool.false_eq_true, Bool.true_eq_false, reduceCtorEq]; done) | (simp only [sx, sy, eq_self, ne_eq, IntKind.wrap_i64, wrapU64, Int.reduceLT] at * <;> first | with_reducible contradiction | omega) | omega | ((try simp only [sx, sy, eq_self, ne_eq, IntKind.wrap_i64, wrapU64, Int.reduceLT] at *) <;> omega) | (simp_all; done))
 have hq4 : (!decide (k ≤ (5 : Int))) = false := by
  rcases Bool.eq_false_or_eq_true (!decide (k ≤ (5 : Int))) with h | h
  ·exfalso; (try simp only [goP_b0] at *); (first | (simp_all only [Bool.and_eq_true, Bool.not_eq_true', Bool.false_eq_true, Bool.true_eq_false, reduceCtorEq]; done) | (simp only [sx, sy, eq_self, ne_eq, IntKind.wrap_i64, wrapU64, Int.reduceLT] at * <;> first | with_reducible contradiction | omega) | omega | ((try simp only [sx, sy, eq_self, ne_eq, IntKind.wrap_i64, wrapU64, Int.reduceLT] at *) <;> omega) | (simp_all; done))
  ·exact h
 rcases Bool.eq_false_or_eq_true (g == p) with hq5 | hq5
 ·
  have e0 : goP_c0 p g k = (p) := rfl; rw [e0]; have e1 : goP_c1 p g k = (p) := ((bif_t hq5 _ _).trans rfl); rw [e1]; have e3 : goP_c3 p g k = ((0 : Int)) := ((bif_t hq5 _ _).trans rfl); rw [e3]; have e4 : goP_c4 p g k = ((0 : Int)) := ((bif_t hq5 _ _).trans rfl); rw [e4]; exact goP_p0 p g k h1 hq0 hq1 hq2 hq3 hq4 hq5
 ·
  rcases Bool.eq_false_or_eq_true (k == (0 : Int)) with hq6 | hq6
  ·
   have e0 : goP_c0 p g k = (p) := rfl; rw [e0]; have e1 : goP_c1 p g k = (g) := ((bif_f hq5 _ _).trans rfl); rw [e1]; have e3 : goP_c3 p g k = ((2 : Int)) := ((bif_f hq5 _ _).trans ((bif_t hq6 _ _).trans rfl)); rw [e3]; have e4 : goP_c4 p g k = (k) := ((bif_f hq5 _ _).trans rfl); rw [e4]; exact goP_p1 p g k h1 hq0 hq1 hq2 hq3 hq4 hq5 hq6
  ·
   have e0 : goP_c0 p g k = (p) := rfl; rw [e0]; have e1 : goP_c1 p g k = (g) := ((bif_f hq5 _ _).trans rfl); rw [e1]; have e3 : goP_c3 p g k = ((1 : Int)) := ((bif_f hq5 _ _).trans ((bif_f hq6 _ _).trans rfl)); rw [e3]; have e4 : goP_c4 p g k = (k) := ((bif_f hq5 _ _).trans rfl); rw [e4]; exact goP_p2 p g k h1 hq0 hq1 hq2 hq3 hq4 hq5 hq6
end Go.Proofs.Ytcjlidciniiofaa
