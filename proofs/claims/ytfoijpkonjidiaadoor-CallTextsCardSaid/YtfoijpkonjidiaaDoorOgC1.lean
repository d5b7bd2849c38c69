/- Layer 20: calls made of numbers; Serves, Age. -/
import Derived.Test.YtfoijpkonjidiaaDoorKMod20
import Derived.ProofKit
import Derived.IntWalk
namespace Go.Proofs.YtfoijpkonjidiaaDoor
open Go Go.RowKit
set_option linter.unusedVariables false
set_option linter.unusedSimpArgs false
set_option linter.unnecessarySimpa false
set_option maxHeartbeats 8000000
set_option maxRecDepth 100000
theorem qMod (n m : Int) (hg : (decide (0 < m ∧ m ≤ 4611686018427387904)) = true) : Known Tryd.prog knCallKnownL 39 [.int .i64 n, .int .i64 m] (.int .i64 (n % m)) := kMod (of_decide_eq_true hg)
noncomputable def qMod_k : List Value → Option (Bool × Value)
  | [.int .i64 n, .int .i64 m] => some (decide (0 < m ∧ m ≤ 4611686018427387904), .int .i64 (n % m))
  | _ => none
theorem qMod_ok : ∀ args v, qMod_k args = some (true, v) → Known Tryd.prog knCallKnownL 39 args v := by
  intro args v h
  unfold qMod_k at h
  split at h
  · injection h with h; injection h with hg h; subst h; exact qMod _ _ hg
  · cases h
noncomputable def tabMo : GTab := (GTab.fn 39 qMod_k GTab.none)
theorem tabMo_ok : GOk Tryd.prog knCallKnownL tabMo := (GOk.fn qMod_ok GOk.none)
noncomputable def pMade_b0 (n : Int) : Bool := IntKind.i64.wrap ((1 : Int) + (n % (1073741824 : Int)).tmod (3 : Int)) == (3 : Int)
noncomputable def pMade_c0 (n : Int) : Int := (IntKind.i64.wrap ((1 : Int) + (n % (1073741824 : Int)).tmod (3 : Int)))
noncomputable def pMade_c1 (n : Int) : Int := ((IntKind.i64.wrap ((n % (1073741824 : Int)).tdiv (3 : Int))).tmod (6 : Int))
noncomputable def pMade_c2 (n : Int) : Int := (bif (IntKind.i64.wrap ((1 : Int) + (n % (1073741824 : Int)).tmod (3 : Int)) == (3 : Int)) then (IntKind.i64.wrap ((1 : Int) + (IntKind.i64.wrap ((n % (1073741824 : Int)).tdiv (18 : Int))).tmod (4 : Int))) else ((0 : Int)))
noncomputable def pMade_c3 (n : Int) : Int := ((IntKind.i64.wrap ((n % (1073741824 : Int)).tdiv (72 : Int))).tmod (20 : Int))
theorem pMade_p0 (n : Int)  (hq0 : (pMade_b0 n) = true) : Known Tryd.prog knCallKnownL 36 [.int .i64 n] (.agg #[(.int .i64 (IntKind.i64.wrap ((1 : Int) + (n % (1073741824 : Int)).tmod (3 : Int)))), (.int .i64 ((IntKind.i64.wrap ((n % (1073741824 : Int)).tdiv (3 : Int))).tmod (6 : Int))), (.int .i64 (IntKind.i64.wrap ((1 : Int) + (IntKind.i64.wrap ((n % (1073741824 : Int)).tdiv (18 : Int))).tmod (4 : Int)))), (.int .i64 ((IntKind.i64.wrap ((n % (1073741824 : Int)).tdiv (72 : Int))).tmod (20 : Int)))]) :=
  open_res mix tabMo_ok (T := tabMo) (fuel := 3000) (ans := [(6, .b 1)]) (log := [(pMade_b0 n) = true]) (by kernel_rfl) ⟨hq0, trivial⟩ (by kernel_rfl)
theorem pMade_p1 (n : Int)  (hq0 : (pMade_b0 n) = false) : Known Tryd.prog knCallKnownL 36 [.int .i64 n] (.agg #[(.int .i64 (IntKind.i64.wrap ((1 : Int) + (n % (1073741824 : Int)).tmod (3 : Int)))), (.int .i64 ((IntKind.i64.wrap ((n % (1073741824 : Int)).tdiv (3 : Int))).tmod (6 : Int))), (.int .i64 ((0 : Int))), (.int .i64 ((IntKind.i64.wrap ((n % (1073741824 : Int)).tdiv (72 : Int))).tmod (20 : Int)))]) :=
  open_res mix tabMo_ok (T := tabMo) (fuel := 3000) (ans := [(6, .b 0)]) (log := [(pMade_b0 n) = false]) (by kernel_rfl) ⟨hq0, trivial⟩ (by kernel_rfl)
set_option maxHeartbeats 8000000 in
theorem pMade (n : Int)  : Known Tryd.prog knCallKnownL 36 [.int .i64 n] (.agg #[(.int .i64 (pMade_c0 n)), (.int .i64 (pMade_c1 n)), (.int .i64 (pMade_c2 n)), (.int .i64 (pMade_c3 n))]) := by
  rcases Bool.eq_false_or_eq_true (pMade_b0 n) with hq0 | hq0
  ·
    have e0 : pMade_c0 n = (IntKind.i64.wrap ((1 : Int) + (n % (1073741824 : Int)).tmod (3 : Int))) := rfl; rw [e0]; have e1 : pMade_c1 n = ((IntKind.i64.wrap ((n % (1073741824 : Int)).tdiv (3 : Int))).tmod (6 : Int)) := rfl; rw [e1]; have e2 : pMade_c2 n = (IntKind.i64.wrap ((1 : Int) + (IntKind.i64.wrap ((n % (1073741824 : Int)).tdiv (18 : Int))).tmod (4 : Int))) := ((bif_t hq0 _ _).trans rfl); rw [e2]; have e3 : pMade_c3 n = ((IntKind.i64.wrap ((n % (1073741824 : Int)).tdiv (72 : Int))).tmod (20 : Int)) := rfl; rw [e3]; exact pMade_p0 n hq0
  ·
    have e0 : pMade_c0 n = (IntKind.i64.wrap ((1 : Int) + (n % (1073741824 : Int)).tmod (3 : Int))) := rfl; rw [e0]; have e1 : pMade_c1 n = ((IntKind.i64.wrap ((n % (1073741824 : Int)).tdiv (3 : Int))).tmod (6 : Int)) := rfl; rw [e1]; have e2 : pMade_c2 n = ((0 : Int)) := ((bif_f hq0 _ _).trans rfl); rw [e2]; have e3 : pMade_c3 n = ((IntKind.i64.wrap ((n % (1073741824 : Int)).tdiv (72 : Int))).tmod (20 : Int)) := rfl; rw [e3]; exact pMade_p1 n hq0
noncomputable def pMade_k : List Value → Option Value
  | [.int .i64 n] => some (.agg #[(.int .i64 (pMade_c0 n)), (.int .i64 (pMade_c1 n)), (.int .i64 (pMade_c2 n)), (.int .i64 (pMade_c3 n))])
  | _ => none
theorem pMade_ok : ∀ args v, pMade_k args = some v → Known Tryd.prog knCallKnownL 36 args v := by
  intro args v h
  unfold pMade_k at h
  split at h
  · injection h with h; subst h; exact pMade _
  · cases h

noncomputable def pSv_c0 (a b c d f g : Int) : Bool := (bif (a == (3 : Int)) then (c == g) else (true))
theorem pSv_p0 (a b c d f g : Int) (h1 : 1 ≤ a ∧ a ≤ 2 ∧ c = 0 ∨ a = 3 ∧ 1 ≤ c ∧ c ≤ 4) (h2 : 0 ≤ b ∧ b ≤ 5) (h3 : 0 ≤ d ∧ d ≤ 19) (h4 : f = b) (h5 : 1 ≤ g ∧ g ≤ 8) (hq0 : (decide (a < (1 : Int))) = false) (hq1 : (decide (a > (3 : Int))) = false) (hq2 : (decide (b ≥ (0 : Int))) = true) (hq3 : (!decide (b < (64 : Int))) = false) (hq4 : (decide (d ≥ (0 : Int))) = true) (hq5 : (!decide (d ≤ (1099511627776 : Int))) = false) (hq6 : (a == (3 : Int)) = true) (hq7 : (decide (c ≥ (1 : Int))) = true) (hq8 : (!decide (c ≤ (8 : Int))) = false) (hq9 : (!a == (3 : Int)) = false) (hq10 : (decide (f ≥ (0 : Int))) = true) (hq11 : (!decide (f < (64 : Int))) = false) (hq12 : (decide (g ≥ (1 : Int))) = true) (hq13 : (!decide (g ≤ (8 : Int))) = false) (hq14 : (b == f) = true) (hq15 : (a != (3 : Int)) = false) : Known Tryd.prog knCallKnownL 16 [.agg #[.int .i64 a, .int .i64 b, .int .i64 c, .int .i64 d], .int .i64 f, .int .i64 g] (.tuple #[(.bool (c == g)), (.int .i64 ((0 : Int)))]) :=
  open_res mix tabMo_ok (T := tabMo) (fuel := 3000) (ans := [(0, .b 0), (4, .b 0), (5, .b 1), (8, .b 0), (11, .b 1), (16, .b 0), (18, .b 1), (21, .b 1), (28, .b 0), (31, .b 0), (39, .b 1), (42, .b 0), (44, .b 1), (49, .b 0), (50, .b 1), (54, .b 0)]) (log := [(a != (3 : Int)) = false, (b == f) = true, (!decide (g ≤ (8 : Int))) = false, (decide (g ≥ (1 : Int))) = true, (!decide (f < (64 : Int))) = false, (decide (f ≥ (0 : Int))) = true, (!a == (3 : Int)) = false, (!decide (c ≤ (8 : Int))) = false, (decide (c ≥ (1 : Int))) = true, (a == (3 : Int)) = true, (!decide (d ≤ (1099511627776 : Int))) = false, (decide (d ≥ (0 : Int))) = true, (!decide (b < (64 : Int))) = false, (decide (b ≥ (0 : Int))) = true, (decide (a > (3 : Int))) = false, (decide (a < (1 : Int))) = false]) (by kernel_rfl) ⟨hq15, hq14, hq13, hq12, hq11, hq10, hq9, hq8, hq7, hq6, hq5, hq4, hq3, hq2, hq1, hq0, trivial⟩ (by kernel_rfl)
theorem pSv_p1 (a b c d f g : Int) (h1 : 1 ≤ a ∧ a ≤ 2 ∧ c = 0 ∨ a = 3 ∧ 1 ≤ c ∧ c ≤ 4) (h2 : 0 ≤ b ∧ b ≤ 5) (h3 : 0 ≤ d ∧ d ≤ 19) (h4 : f = b) (h5 : 1 ≤ g ∧ g ≤ 8) (hq0 : (decide (a < (1 : Int))) = false) (hq1 : (decide (a > (3 : Int))) = false) (hq2 : (decide (b ≥ (0 : Int))) = true) (hq3 : (!decide (b < (64 : Int))) = false) (hq4 : (decide (d ≥ (0 : Int))) = true) (hq5 : (!decide (d ≤ (1099511627776 : Int))) = false) (hq6 : (a == (3 : Int)) = false) (hq9 : (!a == (3 : Int)) = true) (hq16 : (c != (0 : Int)) = false) (hq10 : (decide (f ≥ (0 : Int))) = true) (hq11 : (!decide (f < (64 : Int))) = false) (hq12 : (decide (g ≥ (1 : Int))) = true) (hq13 : (!decide (g ≤ (8 : Int))) = false) (hq14 : (b == f) = true) (hq15 : (a != (3 : Int)) = true) : Known Tryd.prog knCallKnownL 16 [.agg #[.int .i64 a, .int .i64 b, .int .i64 c, .int .i64 d], .int .i64 f, .int .i64 g] (.tuple #[(.bool (true)), (.int .i64 ((0 : Int)))]) :=
  open_res mix tabMo_ok (T := tabMo) (fuel := 3000) (ans := [(0, .b 0), (4, .b 0), (5, .b 1), (8, .b 0), (11, .b 1), (16, .b 0), (18, .b 0), (28, .b 1), (34, .b 0), (36, .b 1), (39, .b 0), (41, .b 1), (46, .b 0), (47, .b 1), (51, .b 1)]) (log := [(a != (3 : Int)) = true, (b == f) = true, (!decide (g ≤ (8 : Int))) = false, (decide (g ≥ (1 : Int))) = true, (!decide (f < (64 : Int))) = false, (decide (f ≥ (0 : Int))) = true, (c != (0 : Int)) = false, (!a == (3 : Int)) = true, (a == (3 : Int)) = false, (!decide (d ≤ (1099511627776 : Int))) = false, (decide (d ≥ (0 : Int))) = true, (!decide (b < (64 : Int))) = false, (decide (b ≥ (0 : Int))) = true, (decide (a > (3 : Int))) = false, (decide (a < (1 : Int))) = false]) (by kernel_rfl) ⟨hq15, hq14, hq13, hq12, hq11, hq10, hq16, hq9, hq6, hq5, hq4, hq3, hq2, hq1, hq0, trivial⟩ (by kernel_rfl)
set_option maxHeartbeats 8000000 in
theorem pSv (a b c d f g : Int) (h1 : 1 ≤ a ∧ a ≤ 2 ∧ c = 0 ∨ a = 3 ∧ 1 ≤ c ∧ c ≤ 4) (h2 : 0 ≤ b ∧ b ≤ 5) (h3 : 0 ≤ d ∧ d ≤ 19) (h4 : f = b) (h5 : 1 ≤ g ∧ g ≤ 8) : Known Tryd.prog knCallKnownL 16 [.agg #[.int .i64 a, .int .i64 b, .int .i64 c, .int .i64 d], .int .i64 f, .int .i64 g] (.tuple #[(.bool (pSv_c0 a b c d f g)), (.int .i64 ((0 : Int)))]) := by
  have hq0 : (decide (a < (1 : Int))) = false := by
    rcases Bool.eq_false_or_eq_true (decide (a < (1 : Int))) with h | h
    · exfalso; (first | (simp_all only [Bool.and_eq_true, Bool.not_eq_true', Bool.false_eq_true, Bool.true_eq_false, reduceCtorEq]; done) | (simp only [sx, sy, eq_self, ne_eq, IntKind.wrap_i64, wrapU64, Int.reduceLT] at * <;> first | contradiction | omega) | omega | ((try simp only [sx, sy, eq_self, ne_eq, IntKind.wrap_i64, wrapU64, Int.reduceLT] at *) <;> omega) | (simp_all; done))
    · exact h
  have hq1 : (decide (a > (3 : Int))) = false := by
    rcases Bool.eq_false_or_eq_true (decide (a > (3 : Int))) with h | h
    · exfalso; (first | (simp_all only [Bool.and_eq_true, Bool.not_eq_true', Bool.false_eq_true, Bool.true_eq_false, reduceCtorEq]; done) | (simp only [sx, sy, eq_self, ne_eq, IntKind.wrap_i64, wrapU64, Int.reduceLT] at * <;> first | contradiction | omega) | omega | ((try simp only [sx, sy, eq_self, ne_eq, IntKind.wrap_i64, wrapU64, Int.reduceLT] at *) <;> omega) | (simp_all; done))
    · exact h
  have hq2 : (decide (b ≥ (0 : Int))) = true := by
    rcases Bool.eq_false_or_eq_true (decide (b ≥ (0 : Int))) with h | h
    · exact h
    · exfalso; (first | (simp_all only [Bool.and_eq_true, Bool.not_eq_true', Bool.false_eq_true, Bool.true_eq_false, reduceCtorEq]; done) | (simp only [sx, sy, eq_self, ne_eq, IntKind.wrap_i64, wrapU64, Int.reduceLT] at * <;> first | contradiction | omega) | omega | ((try simp only [sx, sy, eq_self, ne_eq, IntKind.wrap_i64, wrapU64, Int.reduceLT] at *) <;> omega) | (simp_all; done))
  have hq3 : (!decide (b < (64 : Int))) = false := by
    rcases Bool.eq_false_or_eq_true (!decide (b < (64 : Int))) with h | h
    · exfalso; (first | (simp_all only [Bool.and_eq_true, Bool.not_eq_true', Bool.false_eq_true, Bool.true_eq_false, reduceCtorEq]; done) | (simp only [sx, sy, eq_self, ne_eq, IntKind.wrap_i64, wrapU64, Int.reduceLT] at * <;> first | contradiction | omega) | omega | ((try simp only [sx, sy, eq_self, ne_eq, IntKind.wrap_i64, wrapU64, Int.reduceLT] at *) <;> omega) | (simp_all; done))
    · exact h
  have hq4 : (decide (d ≥ (0 : Int))) = true := by
    rcases Bool.eq_false_or_eq_true (decide (d ≥ (0 : Int))) with h | h
    · exact h
    · exfalso; (first | (simp_all only [Bool.and_eq_true, Bool.not_eq_true', Bool.false_eq_true, Bool.true_eq_false, reduceCtorEq]; done) | (simp only [sx, sy, eq_self, ne_eq, IntKind.wrap_i64, wrapU64, Int.reduceLT] at * <;> first | contradiction | omega) | omega | ((try simp only [sx, sy, eq_self, ne_eq, IntKind.wrap_i64, wrapU64, Int.reduceLT] at *) <;> omega) | (simp_all; done))
  have hq5 : (!decide (d ≤ (1099511627776 : Int))) = false := by
    rcases Bool.eq_false_or_eq_true (!decide (d ≤ (1099511627776 : Int))) with h | h
    · exfalso; (first | (simp_all only [Bool.and_eq_true, Bool.not_eq_true', Bool.false_eq_true, Bool.true_eq_false, reduceCtorEq]; done) | (simp only [sx, sy, eq_self, ne_eq, IntKind.wrap_i64, wrapU64, Int.reduceLT] at * <;> first | contradiction | omega) | omega | ((try simp only [sx, sy, eq_self, ne_eq, IntKind.wrap_i64, wrapU64, Int.reduceLT] at *) <;> omega) | (simp_all; done))
    · exact h
  rcases Bool.eq_false_or_eq_true (a == (3 : Int)) with hq6 | hq6
  ·
    have hq7 : (decide (c ≥ (1 : Int))) = true := by
      rcases Bool.eq_false_or_eq_true (decide (c ≥ (1 : Int))) with h | h
      · exact h
      · exfalso; (first | (simp_all only [Bool.and_eq_true, Bool.not_eq_true', Bool.false_eq_true, Bool.true_eq_false, reduceCtorEq]; done) | (simp only [sx, sy, eq_self, ne_eq, IntKind.wrap_i64, wrapU64, Int.reduceLT] at * <;> first | contradiction | omega) | omega | ((try simp only [sx, sy, eq_self, ne_eq, IntKind.wrap_i64, wrapU64, Int.reduceLT] at *) <;> omega) | (simp_all; done))
    have hq8 : (!decide (c ≤ (8 : Int))) = false := by
      rcases Bool.eq_false_or_eq_true (!decide (c ≤ (8 : Int))) with h | h
      · exfalso; (first | (simp_all only [Bool.and_eq_true, Bool.not_eq_true', Bool.false_eq_true, Bool.true_eq_false, reduceCtorEq]; done) | (simp only [sx, sy, eq_self, ne_eq, IntKind.wrap_i64, wrapU64, Int.reduceLT] at * <;> first | contradiction | omega) | omega | ((try simp only [sx, sy, eq_self, ne_eq, IntKind.wrap_i64, wrapU64, Int.reduceLT] at *) <;> omega) | (simp_all; done))
      · exact h
    have hq9 : (!a == (3 : Int)) = false := by
      rcases Bool.eq_false_or_eq_true (!a == (3 : Int)) with h | h
      · exfalso; (first | (simp_all only [Bool.and_eq_true, Bool.not_eq_true', Bool.false_eq_true, Bool.true_eq_false, reduceCtorEq]; done) | (simp only [sx, sy, eq_self, ne_eq, IntKind.wrap_i64, wrapU64, Int.reduceLT] at * <;> first | contradiction | omega) | omega | ((try simp only [sx, sy, eq_self, ne_eq, IntKind.wrap_i64, wrapU64, Int.reduceLT] at *) <;> omega) | (simp_all; done))
      · exact h
    have hq10 : (decide (f ≥ (0 : Int))) = true := by
      rcases Bool.eq_false_or_eq_true (decide (f ≥ (0 : Int))) with h | h
      · exact h
      · exfalso; (first | (simp_all only [Bool.and_eq_true, Bool.not_eq_true', Bool.false_eq_true, Bool.true_eq_false, reduceCtorEq]; done) | (simp only [sx, sy, eq_self, ne_eq, IntKind.wrap_i64, wrapU64, Int.reduceLT] at * <;> first | contradiction | omega) | omega | ((try simp only [sx, sy, eq_self, ne_eq, IntKind.wrap_i64, wrapU64, Int.reduceLT] at *) <;> omega) | (simp_all; done))
    have hq11 : (!decide (f < (64 : Int))) = false := by
      rcases Bool.eq_false_or_eq_true (!decide (f < (64 : Int))) with h | h
      · exfalso; (first | (simp_all only [Bool.and_eq_true, Bool.not_eq_true', Bool.false_eq_true, Bool.true_eq_false, reduceCtorEq]; done) | (simp only [sx, sy, eq_self, ne_eq, IntKind.wrap_i64, wrapU64, Int.reduceLT] at * <;> first | contradiction | omega) | omega | ((try simp only [sx, sy, eq_self, ne_eq, IntKind.wrap_i64, wrapU64, Int.reduceLT] at *) <;> omega) | (simp_all; done))
      · exact h
    have hq12 : (decide (g ≥ (1 : Int))) = true := by
      rcases Bool.eq_false_or_eq_true (decide (g ≥ (1 : Int))) with h | h
      · exact h
      · exfalso; (first | (simp_all only [Bool.and_eq_true, Bool.not_eq_true', Bool.false_eq_true, Bool.true_eq_false, reduceCtorEq]; done) | (simp only [sx, sy, eq_self, ne_eq, IntKind.wrap_i64, wrapU64, Int.reduceLT] at * <;> first | contradiction | omega) | omega | ((try simp only [sx, sy, eq_self, ne_eq, IntKind.wrap_i64, wrapU64, Int.reduceLT] at *) <;> omega) | (simp_all; done))
    have hq13 : (!decide (g ≤ (8 : Int))) = false := by
      rcases Bool.eq_false_or_eq_true (!decide (g ≤ (8 : Int))) with h | h
      · exfalso; (first | (simp_all only [Bool.and_eq_true, Bool.not_eq_true', Bool.false_eq_true, Bool.true_eq_false, reduceCtorEq]; done) | (simp only [sx, sy, eq_self, ne_eq, IntKind.wrap_i64, wrapU64, Int.reduceLT] at * <;> first | contradiction | omega) | omega | ((try simp only [sx, sy, eq_self, ne_eq, IntKind.wrap_i64, wrapU64, Int.reduceLT] at *) <;> omega) | (simp_all; done))
      · exact h
    have hq14 : (b == f) = true := by
      rcases Bool.eq_false_or_eq_true (b == f) with h | h
      · exact h
      · exfalso; (first | (simp_all only [Bool.and_eq_true, Bool.not_eq_true', Bool.false_eq_true, Bool.true_eq_false, reduceCtorEq]; done) | (simp only [sx, sy, eq_self, ne_eq, IntKind.wrap_i64, wrapU64, Int.reduceLT] at * <;> first | contradiction | omega) | omega | ((try simp only [sx, sy, eq_self, ne_eq, IntKind.wrap_i64, wrapU64, Int.reduceLT] at *) <;> omega) | (simp_all; done))
    have hq15 : (a != (3 : Int)) = false := by
      rcases Bool.eq_false_or_eq_true (a != (3 : Int)) with h | h
      · exfalso; (first | (simp_all only [Bool.and_eq_true, Bool.not_eq_true', Bool.false_eq_true, Bool.true_eq_false, reduceCtorEq]; done) | (simp only [sx, sy, eq_self, ne_eq, IntKind.wrap_i64, wrapU64, Int.reduceLT] at * <;> first | contradiction | omega) | omega | ((try simp only [sx, sy, eq_self, ne_eq, IntKind.wrap_i64, wrapU64, Int.reduceLT] at *) <;> omega) | (simp_all; done))
      · exact h
    have e0 : pSv_c0 a b c d f g = (c == g) := ((bif_t hq6 _ _).trans rfl); rw [e0]; exact pSv_p0 a b c d f g h1 h2 h3 h4 h5 hq0 hq1 hq2 hq3 hq4 hq5 hq6 hq7 hq8 hq9 hq10 hq11 hq12 hq13 hq14 hq15
  ·
    have hq9 : (!a == (3 : Int)) = true := by
      rcases Bool.eq_false_or_eq_true (!a == (3 : Int)) with h | h
      · exact h
      · exfalso; (first | (simp_all only [Bool.and_eq_true, Bool.not_eq_true', Bool.false_eq_true, Bool.true_eq_false, reduceCtorEq]; done) | (simp only [sx, sy, eq_self, ne_eq, IntKind.wrap_i64, wrapU64, Int.reduceLT] at * <;> first | contradiction | omega) | omega | ((try simp only [sx, sy, eq_self, ne_eq, IntKind.wrap_i64, wrapU64, Int.reduceLT] at *) <;> omega) | (simp_all; done))
    have hq16 : (c != (0 : Int)) = false := by
      rcases Bool.eq_false_or_eq_true (c != (0 : Int)) with h | h
      · exfalso; (first | (simp_all only [Bool.and_eq_true, Bool.not_eq_true', Bool.false_eq_true, Bool.true_eq_false, reduceCtorEq]; done) | (simp only [sx, sy, eq_self, ne_eq, IntKind.wrap_i64, wrapU64, Int.reduceLT] at * <;> first | contradiction | omega) | omega | ((try simp only [sx, sy, eq_self, ne_eq, IntKind.wrap_i64, wrapU64, Int.reduceLT] at *) <;> omega) | (simp_all; done))
      · exact h
    have hq10 : (decide (f ≥ (0 : Int))) = true := by
      rcases Bool.eq_false_or_eq_true (decide (f ≥ (0 : Int))) with h | h
      · exact h
      · exfalso; (first | (simp_all only [Bool.and_eq_true, Bool.not_eq_true', Bool.false_eq_true, Bool.true_eq_false, reduceCtorEq]; done) | (simp only [sx, sy, eq_self, ne_eq, IntKind.wrap_i64, wrapU64, Int.reduceLT] at * <;> first | contradiction | omega) | omega | ((try simp only [sx, sy, eq_self, ne_eq, IntKind.wrap_i64, wrapU64, Int.reduceLT] at *) <;> omega) | (simp_all; done))
    have hq11 : (!decide (f < (64 : Int))) = false := by
      rcases Bool.eq_false_or_eq_true (!decide (f < (64 : Int))) with h | h
      · exfalso; (first | (simp_all only [Bool.and_eq_true, Bool.not_eq_true', Bool.false_eq_true, Bool.true_eq_false, reduceCtorEq]; done) | (simp only [sx, sy, eq_self, ne_eq, IntKind.wrap_i64, wrapU64, Int.reduceLT] at * <;> first | contradiction | omega) | omega | ((try simp only [sx, sy, eq_self, ne_eq, IntKind.wrap_i64, wrapU64, Int.reduceLT] at *) <;> omega) | (simp_all; done))
      · exact h
    have hq12 : (decide (g ≥ (1 : Int))) = true := by
      rcases Bool.eq_false_or_eq_true (decide (g ≥ (1 : Int))) with h | h
      · exact h
      · exfalso; (first | (simp_all only [Bool.and_eq_true, Bool.not_eq_true', Bool.false_eq_true, Bool.true_eq_false, reduceCtorEq]; done) | (simp only [sx, sy, eq_self, ne_eq, IntKind.wrap_i64, wrapU64, Int.reduceLT] at * <;> first | contradiction | omega) | omega | ((try simp only [sx, sy, eq_self, ne_eq, IntKind.wrap_i64, wrapU64, Int.reduceLT] at *) <;> omega) | (simp_all; done))
    have hq13 : (!decide (g ≤ (8 : Int))) = false := by
      rcases Bool.eq_false_or_eq_true (!decide (g ≤ (8 : Int))) with h | h
      · exfalso; (first | (simp_all only [Bool.and_eq_true, Bool.not_eq_true', Bool.false_eq_true, Bool.true_eq_false, reduceCtorEq]; done) | (simp only [sx, sy, eq_self, ne_eq, IntKind.wrap_i64, wrapU64, Int.reduceLT] at * <;> first | contradiction | omega) | omega | ((try simp only [sx, sy, eq_self, ne_eq, IntKind.wrap_i64, wrapU64, Int.reduceLT] at *) <;> omega) | (simp_all; done))
      · exact h
    have hq14 : (b == f) = true := by
      rcases Bool.eq_false_or_eq_true (b == f) with h | h
      · exact h
      · exfalso; (first | (simp_all only [Bool.and_eq_true, Bool.not_eq_true', Bool.false_eq_true, Bool.true_eq_false, reduceCtorEq]; done) | (simp only [sx, sy, eq_self, ne_eq, IntKind.wrap_i64, wrapU64, Int.reduceLT] at * <;> first | contradiction | omega) | omega | ((try simp only [sx, sy, eq_self, ne_eq, IntKind.wrap_i64, wrapU64, Int.reduceLT] at *) <;> omega) | (simp_all; done))
    have hq15 : (a != (3 : Int)) = true := by
      rcases Bool.eq_false_or_eq_true (a != (3 : Int)) with h | h
      · exact h
      · exfalso; (first | (simp_all only [Bool.and_eq_true, Bool.not_eq_true', Bool.false_eq_true, Bool.true_eq_false, reduceCtorEq]; done) | (simp only [sx, sy, eq_self, ne_eq, IntKind.wrap_i64, wrapU64, Int.reduceLT] at * <;> first | contradiction | omega) | omega | ((try simp only [sx, sy, eq_self, ne_eq, IntKind.wrap_i64, wrapU64, Int.reduceLT] at *) <;> omega) | (simp_all; done))
    have e0 : pSv_c0 a b c d f g = (true) := ((bif_f hq6 _ _).trans rfl); rw [e0]; exact pSv_p1 a b c d f g h1 h2 h3 h4 h5 hq0 hq1 hq2 hq3 hq4 hq5 hq6 hq9 hq16 hq10 hq11 hq12 hq13 hq14 hq15

noncomputable def pAg_c0 (a b c d t : Int) : Int := (IntKind.i64.wrap (t - d))
theorem pAg_p0 (a b c d t : Int) (h1 : 1 ≤ a ∧ a ≤ 2 ∧ c = 0 ∨ a = 3 ∧ 1 ≤ c ∧ c ≤ 4) (h2 : 0 ≤ b ∧ b ≤ 5) (h3 : 0 ≤ d ∧ d ≤ 19) (h4 : d ≤ t ∧ t ≤ 2000) (hq0 : (decide (a < (1 : Int))) = false) (hq1 : (decide (a > (3 : Int))) = false) (hq2 : (decide (b ≥ (0 : Int))) = true) (hq3 : (!decide (b < (64 : Int))) = false) (hq4 : (decide (d ≥ (0 : Int))) = true) (hq5 : (!decide (d ≤ (1099511627776 : Int))) = false) (hq6 : (a == (3 : Int)) = true) (hq7 : (decide (c ≥ (1 : Int))) = true) (hq8 : (!decide (c ≤ (8 : Int))) = false) (hq9 : (!a == (3 : Int)) = false) (hq10 : (decide (t ≥ (0 : Int))) = true) (hq11 : (!decide (t ≤ (1099511627776 : Int))) = false) (hq12 : (decide (t < d)) = false) : Known Tryd.prog knCallKnownL 18 [.agg #[.int .i64 a, .int .i64 b, .int .i64 c, .int .i64 d], .int .i64 t] (.tuple #[(.int .i64 (IntKind.i64.wrap (t - d))), (.int .i64 ((0 : Int)))]) :=
  open_res mix tabMo_ok (T := tabMo) (fuel := 3000) (ans := [(0, .b 0), (4, .b 0), (5, .b 1), (8, .b 0), (11, .b 1), (16, .b 0), (18, .b 1), (21, .b 1), (28, .b 0), (31, .b 0), (39, .b 1), (42, .b 0), (43, .b 0)]) (log := [(decide (t < d)) = false, (!decide (t ≤ (1099511627776 : Int))) = false, (decide (t ≥ (0 : Int))) = true, (!a == (3 : Int)) = false, (!decide (c ≤ (8 : Int))) = false, (decide (c ≥ (1 : Int))) = true, (a == (3 : Int)) = true, (!decide (d ≤ (1099511627776 : Int))) = false, (decide (d ≥ (0 : Int))) = true, (!decide (b < (64 : Int))) = false, (decide (b ≥ (0 : Int))) = true, (decide (a > (3 : Int))) = false, (decide (a < (1 : Int))) = false]) (by kernel_rfl) ⟨hq12, hq11, hq10, hq9, hq8, hq7, hq6, hq5, hq4, hq3, hq2, hq1, hq0, trivial⟩ (by kernel_rfl)
theorem pAg_p1 (a b c d t : Int) (h1 : 1 ≤ a ∧ a ≤ 2 ∧ c = 0 ∨ a = 3 ∧ 1 ≤ c ∧ c ≤ 4) (h2 : 0 ≤ b ∧ b ≤ 5) (h3 : 0 ≤ d ∧ d ≤ 19) (h4 : d ≤ t ∧ t ≤ 2000) (hq0 : (decide (a < (1 : Int))) = false) (hq1 : (decide (a > (3 : Int))) = false) (hq2 : (decide (b ≥ (0 : Int))) = true) (hq3 : (!decide (b < (64 : Int))) = false) (hq4 : (decide (d ≥ (0 : Int))) = true) (hq5 : (!decide (d ≤ (1099511627776 : Int))) = false) (hq6 : (a == (3 : Int)) = false) (hq9 : (!a == (3 : Int)) = true) (hq13 : (c != (0 : Int)) = false) (hq10 : (decide (t ≥ (0 : Int))) = true) (hq11 : (!decide (t ≤ (1099511627776 : Int))) = false) (hq12 : (decide (t < d)) = false) : Known Tryd.prog knCallKnownL 18 [.agg #[.int .i64 a, .int .i64 b, .int .i64 c, .int .i64 d], .int .i64 t] (.tuple #[(.int .i64 (IntKind.i64.wrap (t - d))), (.int .i64 ((0 : Int)))]) :=
  open_res mix tabMo_ok (T := tabMo) (fuel := 3000) (ans := [(0, .b 0), (4, .b 0), (5, .b 1), (8, .b 0), (11, .b 1), (16, .b 0), (18, .b 0), (28, .b 1), (34, .b 0), (36, .b 1), (39, .b 0), (40, .b 0)]) (log := [(decide (t < d)) = false, (!decide (t ≤ (1099511627776 : Int))) = false, (decide (t ≥ (0 : Int))) = true, (c != (0 : Int)) = false, (!a == (3 : Int)) = true, (a == (3 : Int)) = false, (!decide (d ≤ (1099511627776 : Int))) = false, (decide (d ≥ (0 : Int))) = true, (!decide (b < (64 : Int))) = false, (decide (b ≥ (0 : Int))) = true, (decide (a > (3 : Int))) = false, (decide (a < (1 : Int))) = false]) (by kernel_rfl) ⟨hq12, hq11, hq10, hq13, hq9, hq6, hq5, hq4, hq3, hq2, hq1, hq0, trivial⟩ (by kernel_rfl)
set_option maxHeartbeats 8000000 in
theorem pAg (a b c d t : Int) (h1 : 1 ≤ a ∧ a ≤ 2 ∧ c = 0 ∨ a = 3 ∧ 1 ≤ c ∧ c ≤ 4) (h2 : 0 ≤ b ∧ b ≤ 5) (h3 : 0 ≤ d ∧ d ≤ 19) (h4 : d ≤ t ∧ t ≤ 2000) : Known Tryd.prog knCallKnownL 18 [.agg #[.int .i64 a, .int .i64 b, .int .i64 c, .int .i64 d], .int .i64 t] (.tuple #[(.int .i64 (pAg_c0 a b c d t)), (.int .i64 ((0 : Int)))]) := by
  have hq0 : (decide (a < (1 : Int))) = false := by
    rcases Bool.eq_false_or_eq_true (decide (a < (1 : Int))) with h | h
    · exfalso; (first | (simp_all only [Bool.and_eq_true, Bool.not_eq_true', Bool.false_eq_true, Bool.true_eq_false, reduceCtorEq]; done) | (simp only [sx, sy, eq_self, ne_eq, IntKind.wrap_i64, wrapU64, Int.reduceLT] at * <;> first | contradiction | omega) | omega | ((try simp only [sx, sy, eq_self, ne_eq, IntKind.wrap_i64, wrapU64, Int.reduceLT] at *) <;> omega) | (simp_all; done))
    · exact h
  have hq1 : (decide (a > (3 : Int))) = false := by
    rcases Bool.eq_false_or_eq_true (decide (a > (3 : Int))) with h | h
    · exfalso; (first | (simp_all only [Bool.and_eq_true, Bool.not_eq_true', Bool.false_eq_true, Bool.true_eq_false, reduceCtorEq]; done) | (simp only [sx, sy, eq_self, ne_eq, IntKind.wrap_i64, wrapU64, Int.reduceLT] at * <;> first | contradiction | omega) | omega | ((try simp only [sx, sy, eq_self, ne_eq, IntKind.wrap_i64, wrapU64, Int.reduceLT] at *) <;> omega) | (simp_all; done))
    · exact h
  have hq2 : (decide (b ≥ (0 : Int))) = true := by
    rcases Bool.eq_false_or_eq_true (decide (b ≥ (0 : Int))) with h | h
    · exact h
    · exfalso; (first | (simp_all only [Bool.and_eq_true, Bool.not_eq_true', Bool.false_eq_true, Bool.true_eq_false, reduceCtorEq]; done) | (simp only [sx, sy, eq_self, ne_eq, IntKind.wrap_i64, wrapU64, Int.reduceLT] at * <;> first | contradiction | omega) | omega | ((try simp only [sx, sy, eq_self, ne_eq, IntKind.wrap_i64, wrapU64, Int.reduceLT] at *) <;> omega) | (simp_all; done))
  have hq3 : (!decide (b < (64 : Int))) = false := by
    rcases Bool.eq_false_or_eq_true (!decide (b < (64 : Int))) with h | h
    · exfalso; (first | (simp_all only [Bool.and_eq_true, Bool.not_eq_true', Bool.false_eq_true, Bool.true_eq_false, reduceCtorEq]; done) | (simp only [sx, sy, eq_self, ne_eq, IntKind.wrap_i64, wrapU64, Int.reduceLT] at * <;> first | contradiction | omega) | omega | ((try simp only [sx, sy, eq_self, ne_eq, IntKind.wrap_i64, wrapU64, Int.reduceLT] at *) <;> omega) | (simp_all; done))
    · exact h
  have hq4 : (decide (d ≥ (0 : Int))) = true := by
    rcases Bool.eq_false_or_eq_true (decide (d ≥ (0 : Int))) with h | h
    · exact h
    · exfalso; (first | (simp_all only [Bool.and_eq_true, Bool.not_eq_true', Bool.false_eq_true, Bool.true_eq_false, reduceCtorEq]; done) | (simp only [sx, sy, eq_self, ne_eq, IntKind.wrap_i64, wrapU64, Int.reduceLT] at * <;> first | contradiction | omega) | omega | ((try simp only [sx, sy, eq_self, ne_eq, IntKind.wrap_i64, wrapU64, Int.reduceLT] at *) <;> omega) | (simp_all; done))
  have hq5 : (!decide (d ≤ (1099511627776 : Int))) = false := by
    rcases Bool.eq_false_or_eq_true (!decide (d ≤ (1099511627776 : Int))) with h | h
    · exfalso; (first | (simp_all only [Bool.and_eq_true, Bool.not_eq_true', Bool.false_eq_true, Bool.true_eq_false, reduceCtorEq]; done) | (simp only [sx, sy, eq_self, ne_eq, IntKind.wrap_i64, wrapU64, Int.reduceLT] at * <;> first | contradiction | omega) | omega | ((try simp only [sx, sy, eq_self, ne_eq, IntKind.wrap_i64, wrapU64, Int.reduceLT] at *) <;> omega) | (simp_all; done))
    · exact h
  rcases Bool.eq_false_or_eq_true (a == (3 : Int)) with hq6 | hq6
  ·
    have hq7 : (decide (c ≥ (1 : Int))) = true := by
      rcases Bool.eq_false_or_eq_true (decide (c ≥ (1 : Int))) with h | h
      · exact h
      · exfalso; (first | (simp_all only [Bool.and_eq_true, Bool.not_eq_true', Bool.false_eq_true, Bool.true_eq_false, reduceCtorEq]; done) | (simp only [sx, sy, eq_self, ne_eq, IntKind.wrap_i64, wrapU64, Int.reduceLT] at * <;> first | contradiction | omega) | omega | ((try simp only [sx, sy, eq_self, ne_eq, IntKind.wrap_i64, wrapU64, Int.reduceLT] at *) <;> omega) | (simp_all; done))
    have hq8 : (!decide (c ≤ (8 : Int))) = false := by
      rcases Bool.eq_false_or_eq_true (!decide (c ≤ (8 : Int))) with h | h
      · exfalso; (first | (simp_all only [Bool.and_eq_true, Bool.not_eq_true', Bool.false_eq_true, Bool.true_eq_false, reduceCtorEq]; done) | (simp only [sx, sy, eq_self, ne_eq, IntKind.wrap_i64, wrapU64, Int.reduceLT] at * <;> first | contradiction | omega) | omega | ((try simp only [sx, sy, eq_self, ne_eq, IntKind.wrap_i64, wrapU64, Int.reduceLT] at *) <;> omega) | (simp_all; done))
      · exact h
    have hq9 : (!a == (3 : Int)) = false := by
      rcases Bool.eq_false_or_eq_true (!a == (3 : Int)) with h | h
      · exfalso; (first | (simp_all only [Bool.and_eq_true, Bool.not_eq_true', Bool.false_eq_true, Bool.true_eq_false, reduceCtorEq]; done) | (simp only [sx, sy, eq_self, ne_eq, IntKind.wrap_i64, wrapU64, Int.reduceLT] at * <;> first | contradiction | omega) | omega | ((try simp only [sx, sy, eq_self, ne_eq, IntKind.wrap_i64, wrapU64, Int.reduceLT] at *) <;> omega) | (simp_all; done))
      · exact h
    have hq10 : (decide (t ≥ (0 : Int))) = true := by
      rcases Bool.eq_false_or_eq_true (decide (t ≥ (0 : Int))) with h | h
      · exact h
      · exfalso; (first | (simp_all only [Bool.and_eq_true, Bool.not_eq_true', Bool.false_eq_true, Bool.true_eq_false, reduceCtorEq]; done) | (simp only [sx, sy, eq_self, ne_eq, IntKind.wrap_i64, wrapU64, Int.reduceLT] at * <;> first | contradiction | omega) | omega | ((try simp only [sx, sy, eq_self, ne_eq, IntKind.wrap_i64, wrapU64, Int.reduceLT] at *) <;> omega) | (simp_all; done))
    have hq11 : (!decide (t ≤ (1099511627776 : Int))) = false := by
      rcases Bool.eq_false_or_eq_true (!decide (t ≤ (1099511627776 : Int))) with h | h
      · exfalso; (first | (simp_all only [Bool.and_eq_true, Bool.not_eq_true', Bool.false_eq_true, Bool.true_eq_false, reduceCtorEq]; done) | (simp only [sx, sy, eq_self, ne_eq, IntKind.wrap_i64, wrapU64, Int.reduceLT] at * <;> first | contradiction | omega) | omega | ((try simp only [sx, sy, eq_self, ne_eq, IntKind.wrap_i64, wrapU64, Int.reduceLT] at *) <;> omega) | (simp_all; done))
      · exact h
    have hq12 : (decide (t < d)) = false := by
      rcases Bool.eq_false_or_eq_true (decide (t < d)) with h | h
      · exfalso; (first | (simp_all only [Bool.and_eq_true, Bool.not_eq_true', Bool.false_eq_true, Bool.true_eq_false, reduceCtorEq]; done) | (simp only [sx, sy, eq_self, ne_eq, IntKind.wrap_i64, wrapU64, Int.reduceLT] at * <;> first | contradiction | omega) | omega | ((try simp only [sx, sy, eq_self, ne_eq, IntKind.wrap_i64, wrapU64, Int.reduceLT] at *) <;> omega) | (simp_all; done))
      · exact h
    have e0 : pAg_c0 a b c d t = (IntKind.i64.wrap (t - d)) := rfl; rw [e0]; exact pAg_p0 a b c d t h1 h2 h3 h4 hq0 hq1 hq2 hq3 hq4 hq5 hq6 hq7 hq8 hq9 hq10 hq11 hq12
  ·
    have hq9 : (!a == (3 : Int)) = true := by
      rcases Bool.eq_false_or_eq_true (!a == (3 : Int)) with h | h
      · exact h
      · exfalso; (first | (simp_all only [Bool.and_eq_true, Bool.not_eq_true', Bool.false_eq_true, Bool.true_eq_false, reduceCtorEq]; done) | (simp only [sx, sy, eq_self, ne_eq, IntKind.wrap_i64, wrapU64, Int.reduceLT] at * <;> first | contradiction | omega) | omega | ((try simp only [sx, sy, eq_self, ne_eq, IntKind.wrap_i64, wrapU64, Int.reduceLT] at *) <;> omega) | (simp_all; done))
    have hq13 : (c != (0 : Int)) = false := by
      rcases Bool.eq_false_or_eq_true (c != (0 : Int)) with h | h
      · exfalso; (first | (simp_all only [Bool.and_eq_true, Bool.not_eq_true', Bool.false_eq_true, Bool.true_eq_false, reduceCtorEq]; done) | (simp only [sx, sy, eq_self, ne_eq, IntKind.wrap_i64, wrapU64, Int.reduceLT] at * <;> first | contradiction | omega) | omega | ((try simp only [sx, sy, eq_self, ne_eq, IntKind.wrap_i64, wrapU64, Int.reduceLT] at *) <;> omega) | (simp_all; done))
      · exact h
    have hq10 : (decide (t ≥ (0 : Int))) = true := by
      rcases Bool.eq_false_or_eq_true (decide (t ≥ (0 : Int))) with h | h
      · exact h
      · exfalso; (first | (simp_all only [Bool.and_eq_true, Bool.not_eq_true', Bool.false_eq_true, Bool.true_eq_false, reduceCtorEq]; done) | (simp only [sx, sy, eq_self, ne_eq, IntKind.wrap_i64, wrapU64, Int.reduceLT] at * <;> first | contradiction | omega) | omega | ((try simp only [sx, sy, eq_self, ne_eq, IntKind.wrap_i64, wrapU64, Int.reduceLT] at *) <;> omega) | (simp_all; done))
    have hq11 : (!decide (t ≤ (1099511627776 : Int))) = false := by
      rcases Bool.eq_false_or_eq_true (!decide (t ≤ (1099511627776 : Int))) with h | h
      · exfalso; (first | (simp_all only [Bool.and_eq_true, Bool.not_eq_true', Bool.false_eq_true, Bool.true_eq_false, reduceCtorEq]; done) | (simp only [sx, sy, eq_self, ne_eq, IntKind.wrap_i64, wrapU64, Int.reduceLT] at * <;> first | contradiction | omega) | omega | ((try simp only [sx, sy, eq_self, ne_eq, IntKind.wrap_i64, wrapU64, Int.reduceLT] at *) <;> omega) | (simp_all; done))
      · exact h
    have hq12 : (decide (t < d)) = false := by
      rcases Bool.eq_false_or_eq_true (decide (t < d)) with h | h
      · exfalso; (first | (simp_all only [Bool.and_eq_true, Bool.not_eq_true', Bool.false_eq_true, Bool.true_eq_false, reduceCtorEq]; done) | (simp only [sx, sy, eq_self, ne_eq, IntKind.wrap_i64, wrapU64, Int.reduceLT] at * <;> first | contradiction | omega) | omega | ((try simp only [sx, sy, eq_self, ne_eq, IntKind.wrap_i64, wrapU64, Int.reduceLT] at *) <;> omega) | (simp_all; done))
      · exact h
    have e0 : pAg_c0 a b c d t = (IntKind.i64.wrap (t - d)) := rfl; rw [e0]; exact pAg_p1 a b c d t h1 h2 h3 h4 hq0 hq1 hq2 hq3 hq4 hq5 hq6 hq9 hq13 hq10 hq11 hq12

end Go.Proofs.YtfoijpkonjidiaaDoor
