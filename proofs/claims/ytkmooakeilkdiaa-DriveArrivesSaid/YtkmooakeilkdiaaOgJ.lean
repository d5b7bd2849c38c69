/- Layer 13: DriveArrives. -/
import Derived.Test.YtkmooakeilkdiaaOgI
import Derived.ProofKit
import Derived.IntWalk
namespace Go.Proofs.Ytkmooakeilkdiaa
open Go Go.RowKit
set_option linter.unusedVariables false
set_option linter.unusedSimpArgs false
set_option linter.unnecessarySimpa false
set_option linter.unusedSimpArgs false
theorem pNeeds_all {p g v q l s k : Int} (h : DOk p g v q l s k) : Known Try.prog [] 15 [.agg #[.int .i64 p, .int .i64 g, .int .i64 v, .int .i64 q, .int .i64 l], .int .i64 s, .int .i64 k] (.tuple #[.int .i64 (nN p g v q l s k), .int .i64 0]) := by
  have hb := nN_bounds h
  have h0 := h
  obtain ⟨a1, a2, a3, a4, a5, a6, a7, a8, a9, b1, b2, b3, c | c | c | c⟩ := h
  · obtain ⟨rfl, c⟩ := c
    have r := pN0 p g v l s k ⟨a1, a2, a3, a4, a5, a6, a7, a8, a9, b1, b2, b3, c⟩
    have e : pN0_c0 p g v l s k = nN p g v 0 l s k := by unfold pN0_c0 nN; simp; exact c.2.2
    rw [e] at r; exact r
  · obtain ⟨rfl, c⟩ := c
    have r := pN1 p g v l s k ⟨a1, a2, a3, a4, a5, a6, a7, a8, a9, b1, b2, b3, c⟩
    have e : pN1_c0 p g v l s k = nN p g v 1 l s k := by
      have hn : nN p g v 1 l s k = (rD s (tD p g + rT v) - v) + k + l := by unfold nN; simp
      obtain ⟨r1, r2, r3⟩ := rides_of h0 (.inl rfl)
      have bb := rD_bound (L := s) (n := tD p g + rT v) a7 r3
      have cc := rT_bound (v := v) a5 (by omega)
      have dd : tD p g ≤ 63000 := by unfold tD; omega
      unfold pN1_c0
      rw [dist1 ⟨a1, a2⟩ ⟨a3, a4⟩, w8 (v := rD s (tD p g + rT v) - v + k) (by omega), w8 (by omega), hn]; omega
    rw [e] at r; exact r
  · obtain ⟨rfl, c⟩ := c
    have r := pN2 p g v l s k ⟨a1, a2, a3, a4, a5, a6, a7, a8, a9, b1, b2, b3, c⟩ (dtri_pred a5 (by omega))
    have e : pN2_c0 p g v l s k = nN p g v 2 l s k := by
      have hn : nN p g v 2 l s k = (rD s (tD p g + rT v) - v) + k + l := by unfold nN; simp
      obtain ⟨r1, r2, r3⟩ := rides_of h0 (.inr rfl)
      have bb := rD_bound (L := s) (n := tD p g + rT v) a7 r3
      have cc := rT_bound (v := v) a5 (by omega)
      have dd : tD p g ≤ 63000 := by unfold tD; omega
      unfold pN2_c0
      rw [dist1 ⟨a1, a2⟩ ⟨a3, a4⟩, w8 (v := rD s (tD p g + rT v) - v + k) (by omega), w8 (by omega), hn]; omega
    rw [e] at r; exact r
  · obtain ⟨rfl, c⟩ := c
    have r := pN3 p g v l s k ⟨a1, a2, a3, a4, a5, a6, a7, a8, a9, b1, b2, b3, c⟩
    have e : pN3_c0 p g v l s k = nN p g v 3 l s k := by unfold pN3_c0 nN; simp
    rw [e] at r; exact r
theorem qNeeds (p g v q l s k : Int) (hg : (decide (0 ≤ p ∧ p ≤ 63000 ∧ 0 ≤ g ∧ g ≤ 63000 ∧ 0 ≤ v ∧ v ≤ s ∧ 1 ≤ s ∧ s ≤ 20 ∧ 0 ≤ k ∧ k ≤ 5 ∧ 0 ≤ l ∧ l ≤ k ∧ ((q = 0 ∧ p = g ∧ v = 0 ∧ l = 0) ∨ (q = 1 ∧ p ≠ g ∧ v = 0 ∧ 0 < l) ∨ (q = 2 ∧ p ≠ g ∧ l = 0 ∧ (v = 0 ∨ rT (v - 1) ≤ (if p < g then g - p else p - g))) ∨ (q = 3 ∧ p = g ∧ v = 0 ∧ 0 < l)))) = true) : Known Try.prog [] 15 [.agg #[.int .i64 p, .int .i64 g, .int .i64 v, .int .i64 q, .int .i64 l], .int .i64 s, .int .i64 k] (.tuple #[.int .i64 (nN p g v q l s k), .int .i64 0]) := by have h := of_decide_eq_true hg; exact pNeeds_all h
noncomputable def qNeeds_k : List Value → Option (Bool × Value)
  | [.agg ⟨[.int .i64 p, .int .i64 g, .int .i64 v, .int .i64 q, .int .i64 l]⟩, .int .i64 s, .int .i64 k] => some (decide (0 ≤ p ∧ p ≤ 63000 ∧ 0 ≤ g ∧ g ≤ 63000 ∧ 0 ≤ v ∧ v ≤ s ∧ 1 ≤ s ∧ s ≤ 20 ∧ 0 ≤ k ∧ k ≤ 5 ∧ 0 ≤ l ∧ l ≤ k ∧ ((q = 0 ∧ p = g ∧ v = 0 ∧ l = 0) ∨ (q = 1 ∧ p ≠ g ∧ v = 0 ∧ 0 < l) ∨ (q = 2 ∧ p ≠ g ∧ l = 0 ∧ (v = 0 ∨ rT (v - 1) ≤ (if p < g then g - p else p - g))) ∨ (q = 3 ∧ p = g ∧ v = 0 ∧ 0 < l))), .tuple #[.int .i64 (nN p g v q l s k), .int .i64 0])
  | _ => none
theorem qNeeds_ok : ∀ args v, qNeeds_k args = some (true, v) → Known Try.prog [] 15 args v := by
  intro args v h
  unfold qNeeds_k at h
  split at h
  · injection h with h; injection h with hg h; subst h; exact qNeeds _ _ _ _ _ _ _ hg
  · cases h
noncomputable def mod_c0 (n m : Int) : Int := (bif (decide (m < (1 : Int))) then ((0 : Int)) else (bif (decide (n.tmod m < (0 : Int))) then (IntKind.i64.wrap (n.tmod m + m)) else (n.tmod m)))
theorem mod_p0 (n m : Int)  (hq0 : (decide (m < (1 : Int))) = true) : Known Try.prog [] 23 [.int .i64 n, .int .i64 m] (.int .i64 ((0 : Int))) :=
  open_res mix GOk.none (T := GTab.none) (fuel := 3000) (ans := [(0, .b 1)]) (log := [(decide (m < (1 : Int))) = true]) (by kernel_rfl) ⟨hq0, trivial⟩ (by kernel_rfl)
theorem mod_p1 (n m : Int)  (hq0 : (decide (m < (1 : Int))) = false) (hq1 : (m == (0 : Int)) = false) (hq2 : (decide (n.tmod m < (0 : Int))) = true) : Known Try.prog [] 23 [.int .i64 n, .int .i64 m] (.int .i64 (IntKind.i64.wrap (n.tmod m + m))) :=
  open_res mix GOk.none (T := GTab.none) (fuel := 3000) (ans := [(0, .b 0), (1, .b 0), (2, .b 1)]) (log := [(decide (n.tmod m < (0 : Int))) = true, (m == (0 : Int)) = false, (decide (m < (1 : Int))) = false]) (by kernel_rfl) ⟨hq2, hq1, hq0, trivial⟩ (by kernel_rfl)
theorem mod_p2 (n m : Int)  (hq0 : (decide (m < (1 : Int))) = false) (hq1 : (m == (0 : Int)) = false) (hq2 : (decide (n.tmod m < (0 : Int))) = false) : Known Try.prog [] 23 [.int .i64 n, .int .i64 m] (.int .i64 (n.tmod m)) :=
  open_res mix GOk.none (T := GTab.none) (fuel := 3000) (ans := [(0, .b 0), (1, .b 0), (2, .b 0)]) (log := [(decide (n.tmod m < (0 : Int))) = false, (m == (0 : Int)) = false, (decide (m < (1 : Int))) = false]) (by kernel_rfl) ⟨hq2, hq1, hq0, trivial⟩ (by kernel_rfl)
set_option maxHeartbeats 8000000 in
theorem mod (n m : Int)  : Known Try.prog [] 23 [.int .i64 n, .int .i64 m] (.int .i64 (mod_c0 n m)) := by
  rcases Bool.eq_false_or_eq_true (decide (m < (1 : Int))) with hq0 | hq0
  ·
    have e0 : mod_c0 n m = ((0 : Int)) := ((bif_t hq0 _ _).trans rfl); rw [e0]; exact mod_p0 n m hq0
  ·
    have hq1 : (m == (0 : Int)) = false := by
      rcases Bool.eq_false_or_eq_true (m == (0 : Int)) with h | h
      · exfalso; (first | (simp_all only [Bool.and_eq_true, Bool.not_eq_true', Bool.false_eq_true, Bool.true_eq_false, reduceCtorEq]; done) | (simp_all; done) | (simp only [sx, sy, eq_self, ne_eq, IntKind.wrap_i64, wrapU64, Int.reduceLT] at * <;> first | contradiction | omega))
      · exact h
    rcases Bool.eq_false_or_eq_true (decide (n.tmod m < (0 : Int))) with hq2 | hq2
    ·
      have e0 : mod_c0 n m = (IntKind.i64.wrap (n.tmod m + m)) := ((bif_f hq0 _ _).trans ((bif_t hq2 _ _).trans rfl)); rw [e0]; exact mod_p1 n m hq0 hq1 hq2
    ·
      have e0 : mod_c0 n m = (n.tmod m) := ((bif_f hq0 _ _).trans ((bif_f hq2 _ _).trans rfl)); rw [e0]; exact mod_p2 n m hq0 hq1 hq2
noncomputable def mod_k : List Value → Option Value
  | [.int .i64 n, .int .i64 m] => some (.int .i64 (mod_c0 n m))
  | _ => none
theorem mod_ok : ∀ args v, mod_k args = some v → Known Try.prog [] 23 args v := by
  intro args v h
  unfold mod_k at h
  split at h
  · injection h with h; subst h; exact mod _ _
  · cases h

theorem kMod {n m : Int} (h : 0 < m ∧ m ≤ 4611686018427387904) : Known Try.prog [] 23 [.int .i64 n, .int .i64 m] (.int .i64 (n % m)) := by
  have k := mod n m
  have e : mod_c0 n m = n % m := by
    unfold mod_c0
    have b0 := Int.emod_nonneg n (by omega : m ≠ 0)
    have b1 := Int.emod_lt_of_pos n h.1
    have c0 : decide (m < 1) = false := decide_eq_false (by omega)
    rw [c0, cond_false]
    by_cases hn : 0 ≤ n
    · rw [Int.tmod_eq_emod_of_nonneg hn, decide_eq_false (by omega), cond_false]
    · have t1 : n.tmod m = -((-n) % m) := by rw [tmodP h.1, if_neg hn]
      have d0 := Int.emod_nonneg (-n) (by omega : m ≠ 0)
      have d1 := Int.emod_lt_of_pos (-n) h.1
      have key : n % m = if (-n) % m = 0 then 0 else m - (-n) % m := by
        split
        · rename_i z
          have := Int.dvd_of_emod_eq_zero z
          exact Int.emod_eq_zero_of_dvd (Int.dvd_neg.1 this)
        · rename_i z
          have e1 : n = m - (-n) % m + m * (-((-n) / m) - 1) := by
            have := Int.emod_add_mul_ediv (-n) m
            rw [Int.mul_sub, Int.mul_neg, Int.mul_one]; omega
          rw [e1, Int.add_mul_emod_self_left, Int.emod_eq_of_lt (by omega) (by omega)]
          rw [← e1]
      rw [t1, key]
      split
      · rename_i z
        rw [z]; simp
      · rename_i z
        rw [decide_eq_true (by omega), cond_true, IntKind.wrap_i64]
        omega
  rw [e] at k
  exact k
theorem qMod (n m : Int) (hg : (decide (0 < m ∧ m ≤ 4611686018427387904)) = true) : Known Try.prog [] 23 [.int .i64 n, .int .i64 m] (.int .i64 (n % m)) := kMod (of_decide_eq_true hg)
noncomputable def qMod_k : List Value → Option (Bool × Value)
  | [.int .i64 n, .int .i64 m] => some (decide (0 < m ∧ m ≤ 4611686018427387904), .int .i64 (n % m))
  | _ => none
theorem qMod_ok : ∀ args v, qMod_k args = some (true, v) → Known Try.prog [] 23 args v := by
  intro args v h
  unfold qMod_k at h
  split at h
  · injection h with h; injection h with hg h; subst h; exact qMod _ _ hg
  · cases h
theorem kDK : Known Try.prog [] 4 [] (.bool true) := run_res knDriveKnown_mix knDriveKnown_k0 driveKnown_run
noncomputable def tabO1 : GTab := (GTab.fn 23 qMod_k GTab.none)
theorem tabO1_ok : GOk Try.prog [] tabO1 := (GOk.fn qMod_ok GOk.none)
noncomputable def pMade_c0 (a b n : Int) : Int := (a % (400 : Int))
noncomputable def pMade_c1 (a b n : Int) : Int := (b % (400 : Int))
noncomputable def pMade_c2 (a b n : Int) : Int := (IntKind.i64.wrap ((1 : Int) + (n % (1000 : Int)).tmod (20 : Int)))
noncomputable def pMade_c3 (a b n : Int) : Int := ((IntKind.i64.wrap ((n % (1000 : Int)).tdiv (20 : Int))).tmod (6 : Int))
theorem pMade_p0 (a b n : Int)  : Known Try.prog [] 19 [.int .i64 a, .int .i64 b, .int .i64 n] (.tuple #[(.int .i64 (a % (400 : Int))), (.int .i64 (b % (400 : Int))), (.int .i64 (IntKind.i64.wrap ((1 : Int) + (n % (1000 : Int)).tmod (20 : Int)))), (.int .i64 ((IntKind.i64.wrap ((n % (1000 : Int)).tdiv (20 : Int))).tmod (6 : Int)))]) :=
  open_res mix tabO1_ok (T := tabO1) (fuel := 3000) (ans := []) (log := []) (by kernel_rfl) trivial (by kernel_rfl)
set_option maxHeartbeats 8000000 in
theorem pMade (a b n : Int)  : Known Try.prog [] 19 [.int .i64 a, .int .i64 b, .int .i64 n] (.tuple #[(.int .i64 (pMade_c0 a b n)), (.int .i64 (pMade_c1 a b n)), (.int .i64 (pMade_c2 a b n)), (.int .i64 (pMade_c3 a b n))]) := by
  have e0 : pMade_c0 a b n = (a % (400 : Int)) := rfl; rw [e0]; have e1 : pMade_c1 a b n = (b % (400 : Int)) := rfl; rw [e1]; have e2 : pMade_c2 a b n = (IntKind.i64.wrap ((1 : Int) + (n % (1000 : Int)).tmod (20 : Int))) := rfl; rw [e2]; have e3 : pMade_c3 a b n = ((IntKind.i64.wrap ((n % (1000 : Int)).tdiv (20 : Int))).tmod (6 : Int)) := rfl; rw [e3]; exact pMade_p0 a b n
noncomputable def pMade_k : List Value → Option Value
  | [.int .i64 a, .int .i64 b, .int .i64 n] => some (.tuple #[(.int .i64 (pMade_c0 a b n)), (.int .i64 (pMade_c1 a b n)), (.int .i64 (pMade_c2 a b n)), (.int .i64 (pMade_c3 a b n))])
  | _ => none
theorem pMade_ok : ∀ args v, pMade_k args = some v → Known Try.prog [] 19 args v := by
  intro args v h
  unfold pMade_k at h
  split at h
  · injection h with h; subst h; exact pMade _ _ _
  · cases h

theorem made_is (a b n : Int) : Known Try.prog [] 19 [.int .i64 a, .int .i64 b, .int .i64 n] (.tuple #[.int .i64 (a % 400), .int .i64 (b % 400), .int .i64 (1 + n % 1000 % 20), .int .i64 (n % 1000 / 20 % 6)]) := by
  have h := pMade a b n
  have e2 : pMade_c2 a b n = 1 + n % 1000 % 20 := by
    unfold pMade_c2
    rw [Int.tmod_eq_emod_of_nonneg (by omega), w8 (by omega)]
  have e3 : pMade_c3 a b n = n % 1000 / 20 % 6 := by
    unfold pMade_c3
    rw [Int.tdiv_eq_ediv_of_nonneg (by omega), w8 (by omega), Int.tmod_eq_emod_of_nonneg (by omega)]
  rw [e2, e3] at h
  exact h
theorem qMade (a b n : Int) : Known Try.prog [] 19 [.int .i64 a, .int .i64 b, .int .i64 n] (.tuple #[.int .i64 (a % 400), .int .i64 (b % 400), .int .i64 (1 + n % 1000 % 20), .int .i64 (n % 1000 / 20 % 6)]) := made_is a b n
noncomputable def qMade_k : List Value → Option Value
  | [.int .i64 a, .int .i64 b, .int .i64 n] => some (.tuple #[.int .i64 (a % 400), .int .i64 (b % 400), .int .i64 (1 + n % 1000 % 20), .int .i64 (n % 1000 / 20 % 6)])
  | _ => none
theorem qMade_ok : ∀ args v, qMade_k args = some v → Known Try.prog [] 19 args v := by
  intro args v h
  unfold qMade_k at h
  split at h
  · injection h with h; subst h; exact qMade _ _ _
  · cases h
noncomputable def tabL : GTab := (GTab.fn1 19 qMade_k (GTab.fn 15 qNeeds_k (GTab.fn 16 qStep_k (GTab.fn 20 qCheck_k (GTab.fn 23 qMod_k (GTab.fn1 4 (fun l => match l with | [] => some (.bool true) | _ => none) tabT))))))
theorem tabL_ok : GOk Try.prog [] tabL := (GOk.fn1 qMade_ok (GOk.fn qNeeds_ok (GOk.fn qStep_ok (GOk.fn qCheck_ok (GOk.fn qMod_ok (GOk.fn1 (known0 kDK) tabT_ok))))))
end Go.Proofs.Ytkmooakeilkdiaa
