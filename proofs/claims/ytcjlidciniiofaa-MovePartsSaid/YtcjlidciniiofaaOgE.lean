import Derived.Test.YtcjlidciniiofaaOgJ
import Derived.Test.YtcjlidciniiofaaOgS
import Derived.ProofKit
import Derived.IntWalk
set_option linter.unnecessarySimpa false
set_option linter.unusedSimpArgs false
set_option linter.unusedVariables false
namespace Go.Proofs.Ytcjlidciniiofaa
open Go Go.RowKit
set_option maxHeartbeats 8000000
set_option maxRecDepth 100000
noncomputable def okD (p g v q l s k : Int) : Bool := by classical exact decide (DOk p g v q l s k)
theorem okD_is {p g v q l s k : Int} : okD p g v q l s k = true ↔ DOk p g v q l s k := by unfold okD; simp
theorem wide {p g v q l s k : Int} (h : DOk p g v q l s k) : DOk p g v q l 20 5 := by
 obtain ⟨a1, a2, a3, a4, a5, a6, a7, a8, a9, b1, b2, b3, h⟩ := h
 exact ⟨a1, a2, a3, a4, a5, by omega, by omega, by omega, by omega, by omega, b2, by omega, h⟩
theorem kNeeds (p g v q l s k : Int) (hg : (okD p g v q l s k) = true) : Known Try.prog [] 51 [.agg #[.int .i64 p, .int .i64 g, .int .i64 v, .int .i64 q, .int .i64 l], .int .i64 s, .int .i64 k] (.tuple #[.int .i64 (nN p g v q l s k), .int .i64 0]) := pNeeds_all (okD_is.1 hg)
noncomputable def kNeeds_k : List Value → Option (Bool × Value)
 | [.agg ⟨[.int .i64 p, .int .i64 g, .int .i64 v, .int .i64 q, .int .i64 l]⟩, .int .i64 s, .int .i64 k] => some (okD p g v q l s k, .tuple #[.int .i64 (nN p g v q l s k), .int .i64 0])
 | _ => none
theorem kNeeds_ok : ∀ args v, kNeeds_k args = some (true, v) → Known Try.prog [] 51 args v := by
 intro args v h
 unfold kNeeds_k at h
 split at h
 ·injection h with h; injection h with hg h; subst h; exact kNeeds _ _ _ _ _ _ _ hg
 ·cases h
theorem kStep (p g v q l s k : Int) (hg : (okD p g v q l s k) = true) : Known Try.prog [] 52 [.agg #[.int .i64 p, .int .i64 g, .int .i64 v, .int .i64 q, .int .i64 l], .int .i64 s, .int .i64 k] (.tuple #[.agg #[.int .i64 (tP p g v q s), .int .i64 g, .int .i64 (tV p g v q s), .int .i64 (tQ p g v q l s k), .int .i64 (tL p g v q l s k)], .bool (decide (q = 2)), .int .i64 0]) := pStep_all (okD_is.1 hg)
noncomputable def kStep_k : List Value → Option (Bool × Value)
 | [.agg ⟨[.int .i64 p, .int .i64 g, .int .i64 v, .int .i64 q, .int .i64 l]⟩, .int .i64 s, .int .i64 k] => some (okD p g v q l s k, .tuple #[.agg #[.int .i64 (tP p g v q s), .int .i64 g, .int .i64 (tV p g v q s), .int .i64 (tQ p g v q l s k), .int .i64 (tL p g v q l s k)], .bool (decide (q = 2)), .int .i64 0])
 | _ => none
theorem kStep_ok : ∀ args v, kStep_k args = some (true, v) → Known Try.prog [] 52 args v := by
 intro args v h
 unfold kStep_k at h
 split at h
 ·injection h with h; injection h with hg h; subst h; exact kStep _ _ _ _ _ _ _ hg
 ·cases h
theorem kCheck (p g v q l : Int) (hg : (okD p g v q l 20 5) = true) : Known Try.prog [] 46 [.agg #[.int .i64 p, .int .i64 g, .int .i64 v, .int .i64 q, .int .i64 l]] (.int .i64 0) := by obtain ⟨a1, a2, a3, a4, a5, a6, _, _, _, _, b2, b3, h⟩ := okD_is.1 hg; exact dCheck_all p g v q l ⟨a1, a2, a3, a4, a5, a6, by decide, by decide, by decide, by decide, b2, b3, h⟩
noncomputable def kCheck_k : List Value → Option (Bool × Value)
 | [.agg ⟨[.int .i64 p, .int .i64 g, .int .i64 v, .int .i64 q, .int .i64 l]⟩] => some (okD p g v q l 20 5, .int .i64 0)
 | _ => none
theorem kCheck_ok : ∀ args v, kCheck_k args = some (true, v) → Known Try.prog [] 46 args v := by
 intro args v h
 unfold kCheck_k at h
 split at h
 ·injection h with h; injection h with hg h; subst h; exact kCheck _ _ _ _ _ hg
 ·cases h
noncomputable def tabV : GTab := (GTab.fn 51 kNeeds_k (GTab.fn 52 kStep_k (GTab.fn 46 kCheck_k GTab.none)))
theorem tabV_ok : GOk Try.prog [] tabV := (GOk.fn kNeeds_ok (GOk.fn kStep_ok (GOk.fn kCheck_ok GOk.none)))
theorem mvC_p0 (p g v q l t d s k : Int) (h1 : okD p g v q l s k = true) (h2 : okD p g v q l 20 5 = true) (hs : 1 ≤ s ∧ s ≤ 20) (hk : 0 ≤ k ∧ k ≤ 5) (ht : 0 ≤ d ∧ d ≤ t ∧ t ≤ 200000) (hn : 0 ≤ nN p g v q l s k ∧ nN p g v q l s k ≤ t - d) (hq0 : (decide (s < (1 : Int))) = false) (hq1 : (decide (s > (20 : Int))) = false) (hq2 : (decide (k < (0 : Int))) = false) (hq3 : (decide (k > (5 : Int))) = false) (hq4 : (okD p g v q l (20 : Int) (5 : Int)) = true) (hq5 : (decide (t ≥ (0 : Int))) = true) (hq6 : (!decide (t ≤ (200000 : Int))) = false) (hq7 : (decide (d < (0 : Int))) = false) (hq8 : (decide (d > t)) = false) (hq9 : (okD p g v q l s k) = true) (hq10 : (decide (nN p g v q l s k > IntKind.i64.wrap (t - d))) = false) : Known Try.prog [] 20 [.agg #[.int .i64 p, .int .i64 g, .int .i64 v, .int .i64 q, .int .i64 l, .int .i64 t, .int .i64 d], .int .i64 s, .int .i64 k] (.int .i64 ((0 : Int))) :=
 open_res mix tabV_ok (T := tabV) (fuel := 3000) (ans := [(0, .b 0), (3, .b 0), (6, .b 0), (9, .b 0), (11, .b 1), (13, .b 1), (16, .b 0), (22, .b 0), (32, .b 0), (34, .b 1), (40, .b 0)]) (log := [(decide (nN p g v q l s k > IntKind.i64.wrap (t - d))) = false, (okD p g v q l s k) = true, (decide (d > t)) = false, (decide (d < (0 : Int))) = false, (!decide (t ≤ (200000 : Int))) = false, (decide (t ≥ (0 : Int))) = true, (okD p g v q l (20 : Int) (5 : Int)) = true, (decide (k > (5 : Int))) = false, (decide (k < (0 : Int))) = false, (decide (s > (20 : Int))) = false, (decide (s < (1 : Int))) = false]) (by kernel_rfl) ⟨hq10, hq9, hq8, hq7, hq6, hq5, hq4, hq3, hq2, hq1, hq0, trivial⟩ (by kernel_rfl)
set_option maxHeartbeats 8000000 in
theorem mvC (p g v q l t d s k : Int) (h1 : okD p g v q l s k = true) (h2 : okD p g v q l 20 5 = true) (hs : 1 ≤ s ∧ s ≤ 20) (hk : 0 ≤ k ∧ k ≤ 5) (ht : 0 ≤ d ∧ d ≤ t ∧ t ≤ 200000) (hn : 0 ≤ nN p g v q l s k ∧ nN p g v q l s k ≤ t - d) : Known Try.prog [] 20 [.agg #[.int .i64 p, .int .i64 g, .int .i64 v, .int .i64 q, .int .i64 l, .int .i64 t, .int .i64 d], .int .i64 s, .int .i64 k] (.int .i64 ((0 : Int))) := by
 have hq0 : (decide (s < (1 : Int))) = false := by
  rcases Bool.eq_false_or_eq_true (decide (s < (1 : Int))) with h | h
  ·exfalso; (first | (simp_all only [Bool.and_eq_true, Bool.not_eq_true', Bool.false_eq_true, Bool.true_eq_false, reduceCtorEq]; done) | (simp only [sx, sy, eq_self, ne_eq, IntKind.wrap_i64, wrapU64, Int.reduceLT] at * <;> first | with_reducible contradiction | omega) | omega | ((try simp only [sx, sy, eq_self, ne_eq, IntKind.wrap_i64, wrapU64, Int.reduceLT] at *) <;> omega) | (simp_all; done))
  ·exact h
 have hq1 : (decide (s > (20 : Int))) = false := by
  rcases Bool.eq_false_or_eq_true (decide (s > (20 : Int))) with h | h
  ·exfalso; (first | (simp_all only [Bool.and_eq_true, Bool.not_eq_true', Bool.false_eq_true, Bool.true_eq_false, reduceCtorEq]; done) | (simp only [sx, sy, eq_self, ne_eq, IntKind.wrap_i64, wrapU64, Int.reduceLT] at * <;> first | with_reducible contradiction | omega) | omega | ((try simp only [sx, sy, eq_self, ne_eq, IntKind.wrap_i64, wrapU64, Int.reduceLT] at *) <;> omega) | (simp_all; done))
  ·exact h
 have hq2 : (decide (k < (0 : Int))) = false := by
  rcases Bool.eq_false_or_eq_true (decide (k < (0 : Int))) with h | h
  ·exfalso; (first | (simp_all only [Bool.and_eq_true, Bool.not_eq_true', Bool.false_eq_true, Bool.true_eq_false, reduceCtorEq]; done) | (simp only [sx, sy, eq_self, ne_eq, IntKind.wrap_i64, wrapU64, Int.reduceLT] at * <;> first | with_reducible contradiction | omega) | omega | ((try simp only [sx, sy, eq_self, ne_eq, IntKind.wrap_i64, wrapU64, Int.reduceLT] at *) <;> omega) | (simp_all; done))
  ·exact h
 have hq3 : (decide (k > (5 : Int))) = false := by
  rcases Bool.eq_false_or_eq_true (decide (k > (5 : Int))) with h | h
  ·exfalso; (first | (simp_all only [Bool.and_eq_true, Bool.not_eq_true', Bool.false_eq_true, Bool.true_eq_false, reduceCtorEq]; done) | (simp only [sx, sy, eq_self, ne_eq, IntKind.wrap_i64, wrapU64, Int.reduceLT] at * <;> first | with_reducible contradiction | omega) | omega | ((try simp only [sx, sy, eq_self, ne_eq, IntKind.wrap_i64, wrapU64, Int.reduceLT] at *) <;> omega) | (simp_all; done))
  ·exact h
 have hq4 : (okD p g v q l (20 : Int) (5 : Int)) = true := by
  rcases Bool.eq_false_or_eq_true (okD p g v q l (20 : Int) (5 : Int)) with h | h
  ·exact h
  ·exfalso; (first | (simp_all only [Bool.and_eq_true, Bool.not_eq_true', Bool.false_eq_true, Bool.true_eq_false, reduceCtorEq]; done) | (simp only [sx, sy, eq_self, ne_eq, IntKind.wrap_i64, wrapU64, Int.reduceLT] at * <;> first | with_reducible contradiction | omega) | omega | ((try simp only [sx, sy, eq_self, ne_eq, IntKind.wrap_i64, wrapU64, Int.reduceLT] at *) <;> omega) | (simp_all; done))
 have hq5 : (decide (t ≥ (0 : Int))) = true := by
  rcases Bool.eq_false_or_eq_true (decide (t ≥ (0 : Int))) with h | h
  ·exact h
  ·exfalso; (first | (simp_all only [Bool.and_eq_true, Bool.not_eq_true', Bool.false_eq_true, Bool.true_eq_false, reduceCtorEq]; done) | (simp only [sx, sy, eq_self, ne_eq, IntKind.wrap_i64, wrapU64, Int.reduceLT] at * <;> first | with_reducible contradiction | omega) | omega | ((try simp only [sx, sy, eq_self, ne_eq, IntKind.wrap_i64, wrapU64, Int.reduceLT] at *) <;> omega) | (simp_all; done))
 have hq6 : (!decide (t ≤ (200000 : Int))) = false := by
  rcases Bool.eq_false_or_eq_true (!decide (t ≤ (200000 : Int))) with h | h
  ·exfalso; (first | (simp_all only [Bool.and_eq_true, Bool.not_eq_true', Bool.false_eq_true, Bool.true_eq_false, reduceCtorEq]; done) | (simp only [sx, sy, eq_self, ne_eq, IntKind.wrap_i64, wrapU64, Int.reduceLT] at * <;> first | with_reducible contradiction | omega) | omega | ((try simp only [sx, sy, eq_self, ne_eq, IntKind.wrap_i64, wrapU64, Int.reduceLT] at *) <;> omega) | (simp_all; done))
  ·exact h
 have hq7 : (decide (d < (0 : Int))) = false := by
  rcases Bool.eq_false_or_eq_true (decide (d < (0 : Int))) with h | h
  ·exfalso; (first | (simp_all only [Bool.and_eq_true, Bool.not_eq_true', Bool.false_eq_true, Bool.true_eq_false, reduceCtorEq]; done) | (simp only [sx, sy, eq_self, ne_eq, IntKind.wrap_i64, wrapU64, Int.reduceLT] at * <;> first | with_reducible contradiction | omega) | omega | ((try simp only [sx, sy, eq_self, ne_eq, IntKind.wrap_i64, wrapU64, Int.reduceLT] at *) <;> omega) | (simp_all; done))
  ·exact h
 have hq8 : (decide (d > t)) = false := by
  rcases Bool.eq_false_or_eq_true (decide (d > t)) with h | h
  ·exfalso; (first | (simp_all only [Bool.and_eq_true, Bool.not_eq_true', Bool.false_eq_true, Bool.true_eq_false, reduceCtorEq]; done) | (simp only [sx, sy, eq_self, ne_eq, IntKind.wrap_i64, wrapU64, Int.reduceLT] at * <;> first | with_reducible contradiction | omega) | omega | ((try simp only [sx, sy, eq_self, ne_eq, IntKind.wrap_i64, wrapU64, Int.reduceLT] at *) <;> omega) | (simp_all; done))
  ·exact h
 have hq9 : (okD p g v q l s k) = true := by
  rcases Bool.eq_false_or_eq_true (okD p g v q l s k) with h | h
  ·exact h
  ·exfalso; (first | (simp_all only [Bool.and_eq_true, Bool.not_eq_true', Bool.false_eq_true, Bool.true_eq_false, reduceCtorEq]; done) | (simp only [sx, sy, eq_self, ne_eq, IntKind.wrap_i64, wrapU64, Int.reduceLT] at * <;> first | with_reducible contradiction | omega) | omega | ((try simp only [sx, sy, eq_self, ne_eq, IntKind.wrap_i64, wrapU64, Int.reduceLT] at *) <;> omega) | (simp_all; done))
 have hq10 : (decide (nN p g v q l s k > IntKind.i64.wrap (t - d))) = false := by
  rcases Bool.eq_false_or_eq_true (decide (nN p g v q l s k > IntKind.i64.wrap (t - d))) with h | h
  ·exfalso; (first | (simp_all only [Bool.and_eq_true, Bool.not_eq_true', Bool.false_eq_true, Bool.true_eq_false, reduceCtorEq]; done) | (simp only [sx, sy, eq_self, ne_eq, IntKind.wrap_i64, wrapU64, Int.reduceLT] at * <;> first | with_reducible contradiction | omega) | omega | ((try simp only [sx, sy, eq_self, ne_eq, IntKind.wrap_i64, wrapU64, Int.reduceLT] at *) <;> omega) | (simp_all; done))
  ·exact h
 exact mvC_p0 p g v q l t d s k h1 h2 hs hk ht hn hq0 hq1 hq2 hq3 hq4 hq5 hq6 hq7 hq8 hq9 hq10
noncomputable def okP (p g v q l t d s k : Int) : Bool := by classical exact decide (DOk p g v q l s k ∧ 0 ≤ d ∧ d ≤ t ∧ t ≤ 200000 ∧ nN p g v q l s k ≤ t - d)
theorem okP_is {p g v q l t d s k : Int} : okP p g v q l t d s k = true ↔ (DOk p g v q l s k ∧ 0 ≤ d ∧ d ≤ t ∧ t ≤ 200000 ∧ nN p g v q l s k ≤ t - d) := by unfold okP; simp
theorem mvC_is {p g v q l t d s k : Int} (h : okP p g v q l t d s k = true) : Known Try.prog [] 20 [.agg #[.int .i64 p, .int .i64 g, .int .i64 v, .int .i64 q, .int .i64 l, .int .i64 t, .int .i64 d], .int .i64 s, .int .i64 k] (.int .i64 0) := by
 obtain ⟨h, h1, h2, h3, h4⟩ := okP_is.1 h
 have hn := nN_bounds h
 have h' := h
 obtain ⟨a1, a2, a3, a4, a5, a6, a7, a8, a9, b1, b2, b3, _⟩ := h'
 exact mvC p g v q l t d s k (okD_is.2 h) (okD_is.2 (wide h)) ⟨a7, a8⟩ ⟨a9, b1⟩ ⟨h1, h2, h3⟩ ⟨hn.1, h4⟩
theorem kMC (p g v q l t d s k : Int) (hg : (okP p g v q l t d s k) = true) : Known Try.prog [] 20 [.agg #[.int .i64 p, .int .i64 g, .int .i64 v, .int .i64 q, .int .i64 l, .int .i64 t, .int .i64 d], .int .i64 s, .int .i64 k] (.int .i64 0) := mvC_is hg
noncomputable def kMC_k : List Value → Option (Bool × Value)
 | [.agg ⟨[.int .i64 p, .int .i64 g, .int .i64 v, .int .i64 q, .int .i64 l, .int .i64 t, .int .i64 d]⟩, .int .i64 s, .int .i64 k] => some (okP p g v q l t d s k, .int .i64 0)
 | _ => none
theorem kMC_ok : ∀ args v, kMC_k args = some (true, v) → Known Try.prog [] 20 args v := by
 intro args v h
 unfold kMC_k at h
 split at h
 ·injection h with h; injection h with hg h; subst h; exact kMC _ _ _ _ _ _ _ _ _ hg
 ·cases h
noncomputable def tabX : GTab := (GTab.fn 20 kMC_k tabV)
theorem tabX_ok : GOk Try.prog [] tabX := (GOk.fn kMC_ok tabV_ok)
end Go.Proofs.Ytcjlidciniiofaa
