/- Layer 33: a bit of a word, of the reference. -/
import Derived.Test.YtfpabkpmcmfbhaaDoorZT33
import Derived.ProofKit
import Derived.IntWalk
namespace Go.Proofs.YtfpabkpmcmfbhaaDoor
open Go Go.RowKit
set_option linter.unusedVariables false
set_option linter.unusedSimpArgs false
set_option linter.unnecessarySimpa false
set_option maxHeartbeats 8000000
set_option maxRecDepth 100000
theorem qWd (c : Int) (hg : (decide (0 ≤ c ∧ c ≤ 8)) = true) : Known Tryd.prog knWordKnownL 40 [.int .i64 c] (.int .i64 (pwI c)) := words_is (of_decide_eq_true hg)
noncomputable def qWd_k : List Value → Option (Bool × Value)
  | [.int .i64 c] => some (decide (0 ≤ c ∧ c ≤ 8), .int .i64 (pwI c))
  | _ => none
theorem qWd_ok : ∀ args v, qWd_k args = some (true, v) → Known Tryd.prog knWordKnownL 40 args v := by
  intro args v h
  unfold qWd_k at h
  split at h
  · injection h with h; injection h with hg h; subst h; exact qWd _ hg
  · cases h
noncomputable def tabW : GTab := (GTab.fn 40 qWd_k GTab.none)
theorem tabW_ok : GOk Tryd.prog knWordKnownL tabW := (GOk.fn qWd_ok GOk.none)
noncomputable def rbt_b0 (a c : Int) : Bool := decide ((0 : Int) ≤ IntKind.i64.wrap (c - (1 : Int)) ∧ IntKind.i64.wrap (c - (1 : Int)) ≤ (8 : Int))
noncomputable def rbt_c0 (a c : Int) : Bool := ((IntKind.i64.wrap (a.tdiv (pwI (IntKind.i64.wrap (c - (1 : Int)))))).tmod (2 : Int) == (1 : Int))
theorem rbt_p0 (a c : Int) (hc : 1 ≤ c ∧ c ≤ 8) (hp : 1 ≤ pwI (IntKind.i64.wrap (c - 1)) ∧ pwI (IntKind.i64.wrap (c - 1)) ≤ 256) (hq0 : (rbt_b0 a c) = true) (hq1 : (pwI (IntKind.i64.wrap (c - (1 : Int))) == (0 : Int)) = false) : Known Tryd.prog knWordKnownL 25 [.int .i64 a, .int .i64 c] (.bool ((IntKind.i64.wrap (a.tdiv (pwI (IntKind.i64.wrap (c - (1 : Int)))))).tmod (2 : Int) == (1 : Int))) :=
  open_res mix tabW_ok (T := tabW) (fuel := 3000) (ans := [(0, .b 1), (1, .b 0)]) (log := [(pwI (IntKind.i64.wrap (c - (1 : Int))) == (0 : Int)) = false, (rbt_b0 a c) = true]) (by kernel_rfl) ⟨hq1, hq0, trivial⟩ (by kernel_rfl)
set_option maxHeartbeats 8000000 in
theorem rbt (a c : Int) (hc : 1 ≤ c ∧ c ≤ 8) (hp : 1 ≤ pwI (IntKind.i64.wrap (c - 1)) ∧ pwI (IntKind.i64.wrap (c - 1)) ≤ 256) : Known Tryd.prog knWordKnownL 25 [.int .i64 a, .int .i64 c] (.bool (rbt_c0 a c)) := by
  have hq0 : (rbt_b0 a c) = true := by
    rcases Bool.eq_false_or_eq_true (rbt_b0 a c) with h | h
    · exact h
    · exfalso; (try simp only [rbt_b0] at *); (first | (simp_all only [Bool.and_eq_true, Bool.not_eq_true', Bool.false_eq_true, Bool.true_eq_false, reduceCtorEq]; done) | (simp only [sx, sy, eq_self, ne_eq, IntKind.wrap_i64, wrapU64, Int.reduceLT] at * <;> first | contradiction | omega) | omega | ((try simp only [sx, sy, eq_self, ne_eq, IntKind.wrap_i64, wrapU64, Int.reduceLT] at *) <;> omega) | (simp_all; done))
  have hq1 : (pwI (IntKind.i64.wrap (c - (1 : Int))) == (0 : Int)) = false := by
    rcases Bool.eq_false_or_eq_true (pwI (IntKind.i64.wrap (c - (1 : Int))) == (0 : Int)) with h | h
    · exfalso; (try simp only [rbt_b0] at *); (first | (simp_all only [Bool.and_eq_true, Bool.not_eq_true', Bool.false_eq_true, Bool.true_eq_false, reduceCtorEq]; done) | (simp only [sx, sy, eq_self, ne_eq, IntKind.wrap_i64, wrapU64, Int.reduceLT] at * <;> first | contradiction | omega) | omega | ((try simp only [sx, sy, eq_self, ne_eq, IntKind.wrap_i64, wrapU64, Int.reduceLT] at *) <;> omega) | (simp_all; done))
    · exact h
  have e0 : rbt_c0 a c = ((IntKind.i64.wrap (a.tdiv (pwI (IntKind.i64.wrap (c - (1 : Int)))))).tmod (2 : Int) == (1 : Int)) := rfl; rw [e0]; exact rbt_p0 a c hc hp hq0 hq1

noncomputable def rvd_c0 (a c : Int) : Int := (bif (decide (c < (1 : Int))) then ((2 : Int)) else (bif (decide (c > (8 : Int))) then ((2 : Int)) else (bif (decide (a < (0 : Int))) then ((2 : Int)) else (bif (decide (a ≥ pwI c)) then ((2 : Int)) else ((0 : Int))))))
theorem rvd_p0 (a c : Int) (hp : 1 ≤ pwI c ∧ pwI c ≤ 256 ∨ c < 1 ∨ 8 < c) (hq0 : (decide (c < (1 : Int))) = true) : Known Tryd.prog knWordKnownL 24 [.int .i64 a, .int .i64 c] (.int .i64 ((2 : Int))) :=
  open_res mix tabW_ok (T := tabW) (fuel := 3000) (ans := [(0, .b 1)]) (log := [(decide (c < (1 : Int))) = true]) (by kernel_rfl) ⟨hq0, trivial⟩ (by kernel_rfl)
theorem rvd_p1 (a c : Int) (hp : 1 ≤ pwI c ∧ pwI c ≤ 256 ∨ c < 1 ∨ 8 < c) (hq0 : (decide (c < (1 : Int))) = false) (hq1 : (decide (c > (8 : Int))) = true) : Known Tryd.prog knWordKnownL 24 [.int .i64 a, .int .i64 c] (.int .i64 ((2 : Int))) :=
  open_res mix tabW_ok (T := tabW) (fuel := 3000) (ans := [(0, .b 0), (3, .b 1)]) (log := [(decide (c > (8 : Int))) = true, (decide (c < (1 : Int))) = false]) (by kernel_rfl) ⟨hq1, hq0, trivial⟩ (by kernel_rfl)
theorem rvd_p2 (a c : Int) (hp : 1 ≤ pwI c ∧ pwI c ≤ 256 ∨ c < 1 ∨ 8 < c) (hq0 : (decide (c < (1 : Int))) = false) (hq1 : (decide (c > (8 : Int))) = false) (hq2 : (decide (a < (0 : Int))) = true) : Known Tryd.prog knWordKnownL 24 [.int .i64 a, .int .i64 c] (.int .i64 ((2 : Int))) :=
  open_res mix tabW_ok (T := tabW) (fuel := 3000) (ans := [(0, .b 0), (3, .b 0), (6, .b 1)]) (log := [(decide (a < (0 : Int))) = true, (decide (c > (8 : Int))) = false, (decide (c < (1 : Int))) = false]) (by kernel_rfl) ⟨hq2, hq1, hq0, trivial⟩ (by kernel_rfl)
theorem rvd_p3 (a c : Int) (hp : 1 ≤ pwI c ∧ pwI c ≤ 256 ∨ c < 1 ∨ 8 < c) (hq0 : (decide (c < (1 : Int))) = false) (hq1 : (decide (c > (8 : Int))) = false) (hq2 : (decide (a < (0 : Int))) = false) (hq3 : (decide ((0 : Int) ≤ c ∧ c ≤ (8 : Int))) = true) (hq4 : (decide (a ≥ pwI c)) = true) : Known Tryd.prog knWordKnownL 24 [.int .i64 a, .int .i64 c] (.int .i64 ((2 : Int))) :=
  open_res mix tabW_ok (T := tabW) (fuel := 3000) (ans := [(0, .b 0), (3, .b 0), (6, .b 0), (9, .b 1), (12, .b 1)]) (log := [(decide (a ≥ pwI c)) = true, (decide ((0 : Int) ≤ c ∧ c ≤ (8 : Int))) = true, (decide (a < (0 : Int))) = false, (decide (c > (8 : Int))) = false, (decide (c < (1 : Int))) = false]) (by kernel_rfl) ⟨hq4, hq3, hq2, hq1, hq0, trivial⟩ (by kernel_rfl)
theorem rvd_p4 (a c : Int) (hp : 1 ≤ pwI c ∧ pwI c ≤ 256 ∨ c < 1 ∨ 8 < c) (hq0 : (decide (c < (1 : Int))) = false) (hq1 : (decide (c > (8 : Int))) = false) (hq2 : (decide (a < (0 : Int))) = false) (hq3 : (decide ((0 : Int) ≤ c ∧ c ≤ (8 : Int))) = true) (hq4 : (decide (a ≥ pwI c)) = false) : Known Tryd.prog knWordKnownL 24 [.int .i64 a, .int .i64 c] (.int .i64 ((0 : Int))) :=
  open_res mix tabW_ok (T := tabW) (fuel := 3000) (ans := [(0, .b 0), (3, .b 0), (6, .b 0), (9, .b 1), (12, .b 0)]) (log := [(decide (a ≥ pwI c)) = false, (decide ((0 : Int) ≤ c ∧ c ≤ (8 : Int))) = true, (decide (a < (0 : Int))) = false, (decide (c > (8 : Int))) = false, (decide (c < (1 : Int))) = false]) (by kernel_rfl) ⟨hq4, hq3, hq2, hq1, hq0, trivial⟩ (by kernel_rfl)
set_option maxHeartbeats 8000000 in
theorem rvd (a c : Int) (hp : 1 ≤ pwI c ∧ pwI c ≤ 256 ∨ c < 1 ∨ 8 < c) : Known Tryd.prog knWordKnownL 24 [.int .i64 a, .int .i64 c] (.int .i64 (rvd_c0 a c)) := by
  rcases Bool.eq_false_or_eq_true (decide (c < (1 : Int))) with hq0 | hq0
  ·
    have e0 : rvd_c0 a c = ((2 : Int)) := ((bif_t hq0 _ _).trans rfl); rw [e0]; exact rvd_p0 a c hp hq0
  ·
    rcases Bool.eq_false_or_eq_true (decide (c > (8 : Int))) with hq1 | hq1
    ·
      have e0 : rvd_c0 a c = ((2 : Int)) := ((bif_f hq0 _ _).trans ((bif_t hq1 _ _).trans rfl)); rw [e0]; exact rvd_p1 a c hp hq0 hq1
    ·
      rcases Bool.eq_false_or_eq_true (decide (a < (0 : Int))) with hq2 | hq2
      ·
        have e0 : rvd_c0 a c = ((2 : Int)) := ((bif_f hq0 _ _).trans ((bif_f hq1 _ _).trans ((bif_t hq2 _ _).trans rfl))); rw [e0]; exact rvd_p2 a c hp hq0 hq1 hq2
      ·
        have hq3 : (decide ((0 : Int) ≤ c ∧ c ≤ (8 : Int))) = true := by
          rcases Bool.eq_false_or_eq_true (decide ((0 : Int) ≤ c ∧ c ≤ (8 : Int))) with h | h
          · exact h
          · exfalso; (first | (simp_all only [Bool.and_eq_true, Bool.not_eq_true', Bool.false_eq_true, Bool.true_eq_false, reduceCtorEq]; done) | (simp only [sx, sy, eq_self, ne_eq, IntKind.wrap_i64, wrapU64, Int.reduceLT] at * <;> first | contradiction | omega) | omega | ((try simp only [sx, sy, eq_self, ne_eq, IntKind.wrap_i64, wrapU64, Int.reduceLT] at *) <;> omega) | (simp_all; done))
        rcases Bool.eq_false_or_eq_true (decide (a ≥ pwI c)) with hq4 | hq4
        ·
          have e0 : rvd_c0 a c = ((2 : Int)) := ((bif_f hq0 _ _).trans ((bif_f hq1 _ _).trans ((bif_f hq2 _ _).trans ((bif_t hq4 _ _).trans rfl)))); rw [e0]; exact rvd_p3 a c hp hq0 hq1 hq2 hq3 hq4
        ·
          have e0 : rvd_c0 a c = ((0 : Int)) := ((bif_f hq0 _ _).trans ((bif_f hq1 _ _).trans ((bif_f hq2 _ _).trans ((bif_f hq4 _ _).trans rfl)))); rw [e0]; exact rvd_p4 a c hp hq0 hq1 hq2 hq3 hq4

end Go.Proofs.YtfpabkpmcmfbhaaDoor
