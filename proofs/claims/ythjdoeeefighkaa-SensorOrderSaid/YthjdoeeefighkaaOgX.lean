/- Layer 12: SensorTwo. -/
import Derived.Test.YthjdoeeefighkaaNC
import Derived.ProofKit
import Derived.IntWalk
namespace Go.Proofs.Ythjdoeeefighkaa
open Go Go.RowKit
set_option linter.unusedVariables false
set_option linter.unusedSimpArgs false
set_option linter.unnecessarySimpa false
set_option maxHeartbeats 8000000
set_option maxRecDepth 100000
noncomputable def mod_c0 (n m : Int) : Int := (bif (decide (m < (1 : Int))) then ((0 : Int)) else (bif (decide (n.tmod m < (0 : Int))) then (IntKind.i64.wrap (n.tmod m + m)) else (n.tmod m)))
theorem mod_p0 (n m : Int)  (hq0 : (decide (m < (1 : Int))) = true) : Known Try.prog [] 33 [.int .i64 n, .int .i64 m] (.int .i64 ((0 : Int))) :=
  open_res mix GOk.none (T := GTab.none) (fuel := 3000) (ans := [(0, .b 1)]) (log := [(decide (m < (1 : Int))) = true]) (by kernel_rfl) ⟨hq0, trivial⟩ (by kernel_rfl)
theorem mod_p1 (n m : Int)  (hq0 : (decide (m < (1 : Int))) = false) (hq1 : (m == (0 : Int)) = false) (hq2 : (decide (n.tmod m < (0 : Int))) = true) : Known Try.prog [] 33 [.int .i64 n, .int .i64 m] (.int .i64 (IntKind.i64.wrap (n.tmod m + m))) :=
  open_res mix GOk.none (T := GTab.none) (fuel := 3000) (ans := [(0, .b 0), (1, .b 0), (2, .b 1)]) (log := [(decide (n.tmod m < (0 : Int))) = true, (m == (0 : Int)) = false, (decide (m < (1 : Int))) = false]) (by kernel_rfl) ⟨hq2, hq1, hq0, trivial⟩ (by kernel_rfl)
theorem mod_p2 (n m : Int)  (hq0 : (decide (m < (1 : Int))) = false) (hq1 : (m == (0 : Int)) = false) (hq2 : (decide (n.tmod m < (0 : Int))) = false) : Known Try.prog [] 33 [.int .i64 n, .int .i64 m] (.int .i64 (n.tmod m)) :=
  open_res mix GOk.none (T := GTab.none) (fuel := 3000) (ans := [(0, .b 0), (1, .b 0), (2, .b 0)]) (log := [(decide (n.tmod m < (0 : Int))) = false, (m == (0 : Int)) = false, (decide (m < (1 : Int))) = false]) (by kernel_rfl) ⟨hq2, hq1, hq0, trivial⟩ (by kernel_rfl)
set_option maxHeartbeats 8000000 in
theorem mod (n m : Int)  : Known Try.prog [] 33 [.int .i64 n, .int .i64 m] (.int .i64 (mod_c0 n m)) := by
  rcases Bool.eq_false_or_eq_true (decide (m < (1 : Int))) with hq0 | hq0
  ·
    have e0 : mod_c0 n m = ((0 : Int)) := ((bif_t hq0 _ _).trans rfl); rw [e0]; exact mod_p0 n m hq0
  ·
    have hq1 : (m == (0 : Int)) = false := by
      rcases Bool.eq_false_or_eq_true (m == (0 : Int)) with h | h
      · exfalso; (first | (simp_all only [Bool.and_eq_true, Bool.not_eq_true', Bool.false_eq_true, Bool.true_eq_false, reduceCtorEq]; done) | (simp only [sx, sy, eq_self, ne_eq, IntKind.wrap_i64, wrapU64, Int.reduceLT] at * <;> first | contradiction | omega) | omega | ((try simp only [sx, sy, eq_self, ne_eq, IntKind.wrap_i64, wrapU64, Int.reduceLT] at *) <;> omega) | (simp_all; done))
      · exact h
    rcases Bool.eq_false_or_eq_true (decide (n.tmod m < (0 : Int))) with hq2 | hq2
    ·
      have e0 : mod_c0 n m = (IntKind.i64.wrap (n.tmod m + m)) := ((bif_f hq0 _ _).trans ((bif_t hq2 _ _).trans rfl)); rw [e0]; exact mod_p1 n m hq0 hq1 hq2
    ·
      have e0 : mod_c0 n m = (n.tmod m) := ((bif_f hq0 _ _).trans ((bif_f hq2 _ _).trans rfl)); rw [e0]; exact mod_p2 n m hq0 hq1 hq2
noncomputable def mod_k : List Value → Option Value
  | [.int .i64 n, .int .i64 m] => some (.int .i64 (mod_c0 n m))
  | _ => none
theorem mod_ok : ∀ args v, mod_k args = some v → Known Try.prog [] 33 args v := by
  intro args v h
  unfold mod_k at h
  split at h
  · injection h with h; subst h; exact mod _ _
  · cases h

theorem kmod_t {n m : Int} (h : 0 < m) : n.tmod m = if 0 ≤ n then n % m else -((-n) % m) := by
  split
  · rename_i hn
    exact Int.tmod_eq_emod_of_nonneg hn
  · rename_i hn
    have e : n = -(-n) := by omega
    conv => lhs; rw [e]
    rw [Int.neg_tmod, Int.tmod_eq_emod_of_nonneg (by omega)]
theorem kMod {n m : Int} (h : 0 < m ∧ m ≤ 4611686018427387904) : Known Try.prog [] 33 [.int .i64 n, .int .i64 m] (.int .i64 (n % m)) := by
  have k := mod n m
  have e : mod_c0 n m = n % m := by
    unfold mod_c0
    have b0 := Int.emod_nonneg n (by omega : m ≠ 0)
    have b1 := Int.emod_lt_of_pos n h.1
    have c0 : decide (m < 1) = false := decide_eq_false (by omega)
    rw [c0, cond_false]
    by_cases hn : 0 ≤ n
    · rw [Int.tmod_eq_emod_of_nonneg hn, decide_eq_false (by omega), cond_false]
    · have t1 : n.tmod m = -((-n) % m) := by rw [kmod_t h.1, if_neg hn]
      have d0 := Int.emod_nonneg (-n) (by omega : m ≠ 0)
      have d1 := Int.emod_lt_of_pos (-n) h.1
      have key : n % m = if (-n) % m = 0 then 0 else m - (-n) % m := by
        split
        · rename_i z
          have := Int.dvd_of_emod_eq_zero z
          exact Int.emod_eq_zero_of_dvd (Int.dvd_neg.1 this)
        · rename_i z
          have e1 : n = m - (-n) % m + m * (-((-n) / m) - 1) := by
            have := Int.emod_add_mul_ediv (-n) m
            rw [Int.mul_sub, Int.mul_neg, Int.mul_one]; omega
          rw [e1, Int.add_mul_emod_self_left, Int.emod_eq_of_lt (by omega) (by omega)]
          rw [← e1]
      rw [t1, key]
      split
      · rename_i z
        rw [z, decide_eq_false (by omega), cond_false]; omega
      · rename_i z
        rw [decide_eq_true (by omega), cond_true, Go.IntWalk.i64_in _ ⟨by omega, by omega⟩]; omega
  rw [e] at k
  exact k
theorem qMod (n m : Int) (hg : (decide (0 < m ∧ m ≤ 4611686018427387904)) = true) : Known Try.prog [] 33 [.int .i64 n, .int .i64 m] (.int .i64 (n % m)) := kMod (of_decide_eq_true hg)
noncomputable def qMod_k : List Value → Option (Bool × Value)
  | [.int .i64 n, .int .i64 m] => some (decide (0 < m ∧ m ≤ 4611686018427387904), .int .i64 (n % m))
  | _ => none
theorem qMod_ok : ∀ args v, qMod_k args = some (true, v) → Known Try.prog [] 33 args v := by
  intro args v h
  unfold qMod_k at h
  split at h
  · injection h with h; injection h with hg h; subst h; exact qMod _ _ hg
  · cases h
noncomputable def tabMd : GTab := (GTab.fn 33 qMod_k GTab.none)
theorem tabMd_ok : GOk Try.prog [] tabMd := (GOk.fn qMod_ok GOk.none)
noncomputable def mdR_c0 (n : Int) : Bool := (bif ((n % (100 : Int)).tmod (4 : Int) == (0 : Int)) then (false) else (true))
noncomputable def mdR_c1 (n : Int) : Int := (bif ((n % (100 : Int)).tmod (4 : Int) == (0 : Int)) then ((-1 : Int)) else (IntKind.i64.wrap ((IntKind.i64.wrap ((n % (100 : Int)).tdiv (4 : Int))).tmod (4 : Int) - (1 : Int))))
noncomputable def mdR_c2 (n : Int) : Int := (bif ((n % (100 : Int)).tmod (4 : Int) == (0 : Int)) then ((0 : Int)) else ((IntKind.i64.wrap ((n % (100 : Int)).tdiv (16 : Int))).tmod (2 : Int)))
theorem mdR_p0 (n : Int) (hn : 0 ≤ n % 100 ∧ n % 100 ≤ 99) (hq0 : ((n % (100 : Int)).tmod (4 : Int) == (0 : Int)) = true) : Known Try.prog [] 32 [.int .i64 n] (.agg #[(.bool (false)), (.int .i64 ((-1 : Int))), (.int .i64 ((0 : Int)))]) :=
  open_res mix tabMd_ok (T := tabMd) (fuel := 3000) (ans := [(2, .b 1)]) (log := [((n % (100 : Int)).tmod (4 : Int) == (0 : Int)) = true]) (by kernel_rfl) ⟨hq0, trivial⟩ (by kernel_rfl)
theorem mdR_p1 (n : Int) (hn : 0 ≤ n % 100 ∧ n % 100 ≤ 99) (hq0 : ((n % (100 : Int)).tmod (4 : Int) == (0 : Int)) = false) : Known Try.prog [] 32 [.int .i64 n] (.agg #[(.bool (true)), (.int .i64 (IntKind.i64.wrap ((IntKind.i64.wrap ((n % (100 : Int)).tdiv (4 : Int))).tmod (4 : Int) - (1 : Int)))), (.int .i64 ((IntKind.i64.wrap ((n % (100 : Int)).tdiv (16 : Int))).tmod (2 : Int)))]) :=
  open_res mix tabMd_ok (T := tabMd) (fuel := 3000) (ans := [(2, .b 0)]) (log := [((n % (100 : Int)).tmod (4 : Int) == (0 : Int)) = false]) (by kernel_rfl) ⟨hq0, trivial⟩ (by kernel_rfl)
set_option maxHeartbeats 8000000 in
theorem mdR (n : Int) (hn : 0 ≤ n % 100 ∧ n % 100 ≤ 99) : Known Try.prog [] 32 [.int .i64 n] (.agg #[(.bool (mdR_c0 n)), (.int .i64 (mdR_c1 n)), (.int .i64 (mdR_c2 n))]) := by
  rcases Bool.eq_false_or_eq_true ((n % (100 : Int)).tmod (4 : Int) == (0 : Int)) with hq0 | hq0
  ·
    have e0 : mdR_c0 n = (false) := ((bif_t hq0 _ _).trans rfl); rw [e0]; have e1 : mdR_c1 n = ((-1 : Int)) := ((bif_t hq0 _ _).trans rfl); rw [e1]; have e2 : mdR_c2 n = ((0 : Int)) := ((bif_t hq0 _ _).trans rfl); rw [e2]; exact mdR_p0 n hn hq0
  ·
    have e0 : mdR_c0 n = (true) := ((bif_f hq0 _ _).trans rfl); rw [e0]; have e1 : mdR_c1 n = (IntKind.i64.wrap ((IntKind.i64.wrap ((n % (100 : Int)).tdiv (4 : Int))).tmod (4 : Int) - (1 : Int))) := ((bif_f hq0 _ _).trans rfl); rw [e1]; have e2 : mdR_c2 n = ((IntKind.i64.wrap ((n % (100 : Int)).tdiv (16 : Int))).tmod (2 : Int)) := ((bif_f hq0 _ _).trans rfl); rw [e2]; exact mdR_p1 n hn hq0

end Go.Proofs.Ythjdoeeefighkaa
