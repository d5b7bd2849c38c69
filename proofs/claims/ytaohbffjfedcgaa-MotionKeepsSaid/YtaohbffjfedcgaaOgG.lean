/- Layer 9: motions made of numbers. -/
import Derived.Test.YtaohbffjfedcgaaMe
import Derived.Test.YtaohbffjfedcgaaKnMotionKnown
import Derived.ProofKit
import Derived.IntWalk
namespace Go.Proofs.Ytaohbffjfedcgaa
open Go Go.RowKit
set_option linter.unusedVariables false
set_option linter.unusedSimpArgs false
set_option linter.unnecessarySimpa false
noncomputable def mod_c0 (n m : Int) : Int := (bif (decide (m < (1 : Int))) then ((0 : Int)) else (bif (decide (n.tmod m < (0 : Int))) then (IntKind.i64.wrap (n.tmod m + m)) else (n.tmod m)))
theorem mod_p0 (n m : Int)  (hq0 : (decide (m < (1 : Int))) = true) : Known Try.prog [] 34 [.int .i64 n, .int .i64 m] (.int .i64 ((0 : Int))) :=
  open_res mix GOk.none (T := GTab.none) (fuel := 3000) (ans := [(0, .b 1)]) (log := [(decide (m < (1 : Int))) = true]) (by kernel_rfl) ⟨hq0, trivial⟩ (by kernel_rfl)
theorem mod_p1 (n m : Int)  (hq0 : (decide (m < (1 : Int))) = false) (hq1 : (m == (0 : Int)) = false) (hq2 : (decide (n.tmod m < (0 : Int))) = true) : Known Try.prog [] 34 [.int .i64 n, .int .i64 m] (.int .i64 (IntKind.i64.wrap (n.tmod m + m))) :=
  open_res mix GOk.none (T := GTab.none) (fuel := 3000) (ans := [(0, .b 0), (1, .b 0), (2, .b 1)]) (log := [(decide (n.tmod m < (0 : Int))) = true, (m == (0 : Int)) = false, (decide (m < (1 : Int))) = false]) (by kernel_rfl) ⟨hq2, hq1, hq0, trivial⟩ (by kernel_rfl)
theorem mod_p2 (n m : Int)  (hq0 : (decide (m < (1 : Int))) = false) (hq1 : (m == (0 : Int)) = false) (hq2 : (decide (n.tmod m < (0 : Int))) = false) : Known Try.prog [] 34 [.int .i64 n, .int .i64 m] (.int .i64 (n.tmod m)) :=
  open_res mix GOk.none (T := GTab.none) (fuel := 3000) (ans := [(0, .b 0), (1, .b 0), (2, .b 0)]) (log := [(decide (n.tmod m < (0 : Int))) = false, (m == (0 : Int)) = false, (decide (m < (1 : Int))) = false]) (by kernel_rfl) ⟨hq2, hq1, hq0, trivial⟩ (by kernel_rfl)
set_option maxHeartbeats 8000000 in
theorem mod (n m : Int)  : Known Try.prog [] 34 [.int .i64 n, .int .i64 m] (.int .i64 (mod_c0 n m)) := by
  rcases Bool.eq_false_or_eq_true (decide (m < (1 : Int))) with hq0 | hq0
  ·
    have e0 : mod_c0 n m = ((0 : Int)) := ((bif_t hq0 _ _).trans rfl); rw [e0]; exact mod_p0 n m hq0
  ·
    have hq1 : (m == (0 : Int)) = false := by
      rcases Bool.eq_false_or_eq_true (m == (0 : Int)) with h | h
      · exfalso; (first | (simp_all only [Bool.and_eq_true, Bool.not_eq_true', Bool.false_eq_true, Bool.true_eq_false, reduceCtorEq]; done) | (simp only [sx, sy, eq_self, ne_eq, IntKind.wrap_i64, wrapU64, Int.reduceLT] at * <;> first | contradiction | omega) | (simp_all; done))
      · exact h
    rcases Bool.eq_false_or_eq_true (decide (n.tmod m < (0 : Int))) with hq2 | hq2
    ·
      have e0 : mod_c0 n m = (IntKind.i64.wrap (n.tmod m + m)) := ((bif_f hq0 _ _).trans ((bif_t hq2 _ _).trans rfl)); rw [e0]; exact mod_p1 n m hq0 hq1 hq2
    ·
      have e0 : mod_c0 n m = (n.tmod m) := ((bif_f hq0 _ _).trans ((bif_f hq2 _ _).trans rfl)); rw [e0]; exact mod_p2 n m hq0 hq1 hq2
noncomputable def mod_k : List Value → Option Value
  | [.int .i64 n, .int .i64 m] => some (.int .i64 (mod_c0 n m))
  | _ => none
theorem mod_ok : ∀ args v, mod_k args = some v → Known Try.prog [] 34 args v := by
  intro args v h
  unfold mod_k at h
  split at h
  · injection h with h; subst h; exact mod _ _
  · cases h

theorem kMod {n m : Int} (h : 0 < m ∧ m ≤ 4611686018427387904) : Known Try.prog [] 34 [.int .i64 n, .int .i64 m] (.int .i64 (n % m)) := by
  have k := mod n m
  have e : mod_c0 n m = n % m := by
    unfold mod_c0
    have b0 := Int.emod_nonneg n (by omega : m ≠ 0)
    have b1 := Int.emod_lt_of_pos n h.1
    have c0 : decide (m < 1) = false := decide_eq_false (by omega)
    rw [c0, cond_false]
    by_cases hn : 0 ≤ n
    · rw [Int.tmod_eq_emod_of_nonneg hn, decide_eq_false (by omega), cond_false]
    · have t1 : n.tmod m = -((-n) % m) := by rw [tmodP h.1, if_neg hn]
      have d0 := Int.emod_nonneg (-n) (by omega : m ≠ 0)
      have d1 := Int.emod_lt_of_pos (-n) h.1
      have key : n % m = if (-n) % m = 0 then 0 else m - (-n) % m := by
        split
        · rename_i z
          have := Int.dvd_of_emod_eq_zero z
          exact Int.emod_eq_zero_of_dvd (Int.dvd_neg.1 this)
        · rename_i z
          have e1 : n = m - (-n) % m + m * (-((-n) / m) - 1) := by
            have := Int.emod_add_mul_ediv (-n) m
            rw [Int.mul_sub, Int.mul_neg, Int.mul_one]; omega
          rw [e1, Int.add_mul_emod_self_left, Int.emod_eq_of_lt (by omega) (by omega)]
          rw [← e1]
      rw [t1, key]
      split
      · rename_i z
        rw [z]; simp
      · rename_i z
        rw [decide_eq_true (by omega), cond_true, IntKind.wrap_i64]
        omega
  rw [e] at k
  exact k
theorem qMod (n m : Int) (hg : (decide (0 < m ∧ m ≤ 4611686018427387904)) = true) : Known Try.prog [] 34 [.int .i64 n, .int .i64 m] (.int .i64 (n % m)) := kMod (of_decide_eq_true hg)
noncomputable def qMod_k : List Value → Option (Bool × Value)
  | [.int .i64 n, .int .i64 m] => some (decide (0 < m ∧ m ≤ 4611686018427387904), .int .i64 (n % m))
  | _ => none
theorem qMod_ok : ∀ args v, qMod_k args = some (true, v) → Known Try.prog [] 34 args v := by
  intro args v h
  unfold qMod_k at h
  split at h
  · injection h with h; injection h with hg h; subst h; exact qMod _ _ hg
  · cases h
theorem start_ok {p g m : Int} (h : ckM p g 0 m = 0) : Known Try.prog [] 9 [.int .i64 p, .int .i64 g, .int .i64 m] (.tuple #[.agg #[.int .i64 p, .int .i64 g, .int .i64 0, .int .i64 m], .int .i64 0]) := by
  have k := pSt p g m
  have e : pSt_c0 p g m = p ∧ pSt_c1 p g m = g ∧ pSt_c3 p g m = m ∧ pSt_c4 p g m = 0 := by
    unfold pSt_c0 pSt_c1 pSt_c3 pSt_c4
    rw [show (ckM p g 0 m != 0) = false by simp [h]]
    exact ⟨rfl, rfl, rfl, rfl⟩
  rw [e.1, e.2.1, e.2.2.1, e.2.2.2] at k
  exact k
theorem left_ok {p g s m : Int} (h : ckM p g s m = 0) : Known Try.prog [] 17 [.agg #[.int .i64 p, .int .i64 g, .int .i64 s, .int .i64 m]] (.tuple #[.int .i64 (lfV p g s m), .int .i64 0]) := by
  have k := pLeft_is p g s m
  unfold lfW at k
  rw [if_pos h, h] at k
  exact k
theorem kSt (p g m : Int) (hg : (decide (ckM p g 0 m = 0)) = true) : Known Try.prog [] 9 [.int .i64 p, .int .i64 g, .int .i64 m] (.tuple #[.agg #[.int .i64 p, .int .i64 g, .int .i64 0, .int .i64 m], .int .i64 0]) := start_ok (of_decide_eq_true hg)
noncomputable def kSt_k : List Value → Option (Bool × Value)
  | [.int .i64 p, .int .i64 g, .int .i64 m] => some (decide (ckM p g 0 m = 0), .tuple #[.agg #[.int .i64 p, .int .i64 g, .int .i64 0, .int .i64 m], .int .i64 0])
  | _ => none
theorem kSt_ok : ∀ args v, kSt_k args = some (true, v) → Known Try.prog [] 9 args v := by
  intro args v h
  unfold kSt_k at h
  split at h
  · injection h with h; injection h with hg h; subst h; exact kSt _ _ _ hg
  · cases h
theorem kRn (p g s m n : Int) (hg : (decide (ckM p g s m = 0 ∧ 0 ≤ n ∧ n ≤ 100000)) = true) : Known Try.prog [] 15 [.agg #[.int .i64 p, .int .i64 g, .int .i64 s, .int .i64 m], .int .i64 n] (.tuple #[.agg #[.int .i64 (itN g m n.toNat p s).1, .int .i64 g, .int .i64 (itN g m n.toNat p s).2, .int .i64 m], .int .i64 0]) := by have h := of_decide_eq_true hg; exact run_ok h.1 h.2
noncomputable def kRn_k : List Value → Option (Bool × Value)
  | [.agg ⟨[.int .i64 p, .int .i64 g, .int .i64 s, .int .i64 m]⟩, .int .i64 n] => some (decide (ckM p g s m = 0 ∧ 0 ≤ n ∧ n ≤ 100000), .tuple #[.agg #[.int .i64 (itN g m n.toNat p s).1, .int .i64 g, .int .i64 (itN g m n.toNat p s).2, .int .i64 m], .int .i64 0])
  | _ => none
theorem kRn_ok : ∀ args v, kRn_k args = some (true, v) → Known Try.prog [] 15 args v := by
  intro args v h
  unfold kRn_k at h
  split at h
  · injection h with h; injection h with hg h; subst h; exact kRn _ _ _ _ _ hg
  · cases h
theorem kSp (p g s m : Int) (hg : (decide (ckM p g s m = 0)) = true) : Known Try.prog [] 13 [.agg #[.int .i64 p, .int .i64 g, .int .i64 s, .int .i64 m]] (.tuple #[.agg #[.int .i64 (tkP p g s m), .int .i64 g, .int .i64 (tkS p g s m), .int .i64 m], .int .i64 0]) := step_ok (of_decide_eq_true hg)
noncomputable def kSp_k : List Value → Option (Bool × Value)
  | [.agg ⟨[.int .i64 p, .int .i64 g, .int .i64 s, .int .i64 m]⟩] => some (decide (ckM p g s m = 0), .tuple #[.agg #[.int .i64 (tkP p g s m), .int .i64 g, .int .i64 (tkS p g s m), .int .i64 m], .int .i64 0])
  | _ => none
theorem kSp_ok : ∀ args v, kSp_k args = some (true, v) → Known Try.prog [] 13 args v := by
  intro args v h
  unfold kSp_k at h
  split at h
  · injection h with h; injection h with hg h; subst h; exact kSp _ _ _ _ hg
  · cases h
theorem kLf (p g s m : Int) (hg : (decide (ckM p g s m = 0)) = true) : Known Try.prog [] 17 [.agg #[.int .i64 p, .int .i64 g, .int .i64 s, .int .i64 m]] (.tuple #[.int .i64 (lfV p g s m), .int .i64 0]) := left_ok (of_decide_eq_true hg)
noncomputable def kLf_k : List Value → Option (Bool × Value)
  | [.agg ⟨[.int .i64 p, .int .i64 g, .int .i64 s, .int .i64 m]⟩] => some (decide (ckM p g s m = 0), .tuple #[.int .i64 (lfV p g s m), .int .i64 0])
  | _ => none
theorem kLf_ok : ∀ args v, kLf_k args = some (true, v) → Known Try.prog [] 17 args v := by
  intro args v h
  unfold kLf_k at h
  split at h
  · injection h with h; injection h with hg h; subst h; exact kLf _ _ _ _ hg
  · cases h
noncomputable def tabK : GTab := (GTab.fn 34 qMod_k (GTab.fn 9 kSt_k (GTab.fn 15 kRn_k (GTab.fn 13 kSp_k (GTab.fn 17 kLf_k (GTab.fn1 11 qChk_k GTab.none))))))
theorem tabK_ok : GOk Try.prog [] tabK := (GOk.fn qMod_ok (GOk.fn kSt_ok (GOk.fn kRn_ok (GOk.fn kSp_ok (GOk.fn kLf_ok (GOk.fn1 qChk_ok GOk.none))))))
noncomputable def mdG_b0 (pos goal most ticks : Int) : Bool := decide (ckM (pos % (300 : Int)) (goal % (300 : Int)) (0 : Int) (IntKind.i64.wrap ((1 : Int) + most % (20 : Int))) = (0 : Int))
noncomputable def mdG_b1 (pos goal most ticks : Int) : Bool := decide (ckM (pos % (300 : Int)) (goal % (300 : Int)) (0 : Int) (IntKind.i64.wrap ((1 : Int) + most % (20 : Int))) = (0 : Int) ∧ (0 : Int) ≤ ticks % (60 : Int) ∧ ticks % (60 : Int) ≤ (100000 : Int))
noncomputable def mdG_b2 (pos goal most ticks : Int) : Bool := decide ((itN (goal % (300 : Int)) (IntKind.i64.wrap ((1 : Int) + most % (20 : Int))) (ticks % (60 : Int)).toNat (pos % (300 : Int)) (0 : Int)).fst ≥ (0 : Int))
noncomputable def mdG_b3 (pos goal most ticks : Int) : Bool := decide ((itN (goal % (300 : Int)) (IntKind.i64.wrap ((1 : Int) + most % (20 : Int))) (ticks % (60 : Int)).toNat (pos % (300 : Int)) (0 : Int)).fst < (300 : Int))
noncomputable def mdG_c0 (pos goal most ticks : Int) : Int := ((itN (goal % (300 : Int)) (IntKind.i64.wrap ((1 : Int) + most % (20 : Int))) (ticks % (60 : Int)).toNat (pos % (300 : Int)) (0 : Int)).fst)
noncomputable def mdG_c1 (pos goal most ticks : Int) : Int := (goal % (300 : Int))
noncomputable def mdG_c2 (pos goal most ticks : Int) : Int := ((itN (goal % (300 : Int)) (IntKind.i64.wrap ((1 : Int) + most % (20 : Int))) (ticks % (60 : Int)).toNat (pos % (300 : Int)) (0 : Int)).snd)
noncomputable def mdG_c3 (pos goal most ticks : Int) : Int := (IntKind.i64.wrap ((1 : Int) + most % (20 : Int)))
noncomputable def mdG_c4 (pos goal most ticks : Int) : Bool := (decide (goal % (300 : Int) < (300 : Int)))
theorem mdG_p0 (pos goal most ticks : Int) (hm : 0 ≤ most % 20 ∧ most % 20 ≤ 19) (ht : 0 ≤ ticks % 60 ∧ ticks % 60 ≤ 59) (hg : 0 ≤ goal % 300 ∧ goal % 300 ≤ 299) (hc : ckM (pos % 300) (goal % 300) 0 (IntKind.i64.wrap (1 + most % 20)) = 0) (hb : 0 ≤ (itN (goal % 300) (IntKind.i64.wrap (1 + most % 20)) (ticks % 60).toNat (pos % 300) 0).1 ∧ (itN (goal % 300) (IntKind.i64.wrap (1 + most % 20)) (ticks % 60).toNat (pos % 300) 0).1 ≤ 299) (hq0 : (mdG_b0 pos goal most ticks) = true) (hq1 : (mdG_b1 pos goal most ticks) = true) (hq2 : (mdG_b2 pos goal most ticks) = true) (hq3 : (mdG_b3 pos goal most ticks) = true) (hq4 : (decide (goal % (300 : Int) ≥ (0 : Int))) = true) : Known Try.prog [] 32 [.int .i64 pos, .int .i64 goal, .int .i64 most, .int .i64 ticks] (.tuple #[(.agg #[(.int .i64 ((itN (goal % (300 : Int)) (IntKind.i64.wrap ((1 : Int) + most % (20 : Int))) (ticks % (60 : Int)).toNat (pos % (300 : Int)) (0 : Int)).fst)), (.int .i64 (goal % (300 : Int))), (.int .i64 ((itN (goal % (300 : Int)) (IntKind.i64.wrap ((1 : Int) + most % (20 : Int))) (ticks % (60 : Int)).toNat (pos % (300 : Int)) (0 : Int)).snd)), (.int .i64 (IntKind.i64.wrap ((1 : Int) + most % (20 : Int))))]), (.bool (decide (goal % (300 : Int) < (300 : Int))))]) :=
  open_res mix tabK_ok (T := tabK) (fuel := 3000) (ans := [(3, .b 1), (5, .b 1), (13, .b 1), (17, .b 1), (21, .b 1)]) (log := [(decide (goal % (300 : Int) ≥ (0 : Int))) = true, (mdG_b3 pos goal most ticks) = true, (mdG_b2 pos goal most ticks) = true, (mdG_b1 pos goal most ticks) = true, (mdG_b0 pos goal most ticks) = true]) (by kernel_rfl) ⟨hq4, hq3, hq2, hq1, hq0, trivial⟩ (by kernel_rfl)
set_option maxHeartbeats 8000000 in
theorem mdG (pos goal most ticks : Int) (hm : 0 ≤ most % 20 ∧ most % 20 ≤ 19) (ht : 0 ≤ ticks % 60 ∧ ticks % 60 ≤ 59) (hg : 0 ≤ goal % 300 ∧ goal % 300 ≤ 299) (hc : ckM (pos % 300) (goal % 300) 0 (IntKind.i64.wrap (1 + most % 20)) = 0) (hb : 0 ≤ (itN (goal % 300) (IntKind.i64.wrap (1 + most % 20)) (ticks % 60).toNat (pos % 300) 0).1 ∧ (itN (goal % 300) (IntKind.i64.wrap (1 + most % 20)) (ticks % 60).toNat (pos % 300) 0).1 ≤ 299) : Known Try.prog [] 32 [.int .i64 pos, .int .i64 goal, .int .i64 most, .int .i64 ticks] (.tuple #[(.agg #[(.int .i64 (mdG_c0 pos goal most ticks)), (.int .i64 (mdG_c1 pos goal most ticks)), (.int .i64 (mdG_c2 pos goal most ticks)), (.int .i64 (mdG_c3 pos goal most ticks))]), (.bool (mdG_c4 pos goal most ticks))]) := by
  have hq0 : (mdG_b0 pos goal most ticks) = true := by
    rcases Bool.eq_false_or_eq_true (mdG_b0 pos goal most ticks) with h | h
    · exact h
    · exfalso; (try simp only [mdG_b0, mdG_b1, mdG_b2, mdG_b3] at *); (first | (simp_all only [Bool.and_eq_true, Bool.not_eq_true', Bool.false_eq_true, Bool.true_eq_false, reduceCtorEq]; done) | (simp only [sx, sy, eq_self, ne_eq, IntKind.wrap_i64, wrapU64, Int.reduceLT] at * <;> first | contradiction | omega) | (simp_all; done))
  have hq1 : (mdG_b1 pos goal most ticks) = true := by
    rcases Bool.eq_false_or_eq_true (mdG_b1 pos goal most ticks) with h | h
    · exact h
    · exfalso; (try simp only [mdG_b0, mdG_b1, mdG_b2, mdG_b3] at *); (first | (simp_all only [Bool.and_eq_true, Bool.not_eq_true', Bool.false_eq_true, Bool.true_eq_false, reduceCtorEq]; done) | (simp only [sx, sy, eq_self, ne_eq, IntKind.wrap_i64, wrapU64, Int.reduceLT] at * <;> first | contradiction | omega) | (simp_all; done))
  have hq2 : (mdG_b2 pos goal most ticks) = true := by
    rcases Bool.eq_false_or_eq_true (mdG_b2 pos goal most ticks) with h | h
    · exact h
    · exfalso; (try simp only [mdG_b0, mdG_b1, mdG_b2, mdG_b3] at *); (first | (simp_all only [Bool.and_eq_true, Bool.not_eq_true', Bool.false_eq_true, Bool.true_eq_false, reduceCtorEq]; done) | (simp only [sx, sy, eq_self, ne_eq, IntKind.wrap_i64, wrapU64, Int.reduceLT] at * <;> first | contradiction | omega) | (simp_all; done))
  have hq3 : (mdG_b3 pos goal most ticks) = true := by
    rcases Bool.eq_false_or_eq_true (mdG_b3 pos goal most ticks) with h | h
    · exact h
    · exfalso; (try simp only [mdG_b0, mdG_b1, mdG_b2, mdG_b3] at *); (first | (simp_all only [Bool.and_eq_true, Bool.not_eq_true', Bool.false_eq_true, Bool.true_eq_false, reduceCtorEq]; done) | (simp only [sx, sy, eq_self, ne_eq, IntKind.wrap_i64, wrapU64, Int.reduceLT] at * <;> first | contradiction | omega) | (simp_all; done))
  have hq4 : (decide (goal % (300 : Int) ≥ (0 : Int))) = true := by
    rcases Bool.eq_false_or_eq_true (decide (goal % (300 : Int) ≥ (0 : Int))) with h | h
    · exact h
    · exfalso; (try simp only [mdG_b0, mdG_b1, mdG_b2, mdG_b3] at *); (first | (simp_all only [Bool.and_eq_true, Bool.not_eq_true', Bool.false_eq_true, Bool.true_eq_false, reduceCtorEq]; done) | (simp only [sx, sy, eq_self, ne_eq, IntKind.wrap_i64, wrapU64, Int.reduceLT] at * <;> first | contradiction | omega) | (simp_all; done))
  have e0 : mdG_c0 pos goal most ticks = ((itN (goal % (300 : Int)) (IntKind.i64.wrap ((1 : Int) + most % (20 : Int))) (ticks % (60 : Int)).toNat (pos % (300 : Int)) (0 : Int)).fst) := rfl; rw [e0]; have e1 : mdG_c1 pos goal most ticks = (goal % (300 : Int)) := rfl; rw [e1]; have e2 : mdG_c2 pos goal most ticks = ((itN (goal % (300 : Int)) (IntKind.i64.wrap ((1 : Int) + most % (20 : Int))) (ticks % (60 : Int)).toNat (pos % (300 : Int)) (0 : Int)).snd) := rfl; rw [e2]; have e3 : mdG_c3 pos goal most ticks = (IntKind.i64.wrap ((1 : Int) + most % (20 : Int))) := rfl; rw [e3]; have e4 : mdG_c4 pos goal most ticks = (decide (goal % (300 : Int) < (300 : Int))) := rfl; rw [e4]; exact mdG_p0 pos goal most ticks hm ht hg hc hb hq0 hq1 hq2 hq3 hq4

theorem kMK : Known Try.prog [] 5 [] (.bool true) := run_res knMotionKnown_mix knMotionKnown_k0 motionKnown_run
end Go.Proofs.Ytaohbffjfedcgaa
