/- Layer 2: the nearest floor. -/
import Derived.Test.YtboobndcgilmlaaDoorOgB
namespace Go.Proofs.YtboobndcgilmlaaDoor
open Go Go.RowKit
set_option linter.unusedVariables false
theorem mask_known : Known Tryd.prog knMaskKnownL 6 [] (.bool true) := run_res knMaskKnown_mix (knMaskKnown_k0) maskKnown_run
theorem kmod_t {n m : Int} (h : 0 < m) : n.tmod m = if 0 ≤ n then n % m else -((-n) % m) := by
  split
  · rename_i hn
    exact Int.tmod_eq_emod_of_nonneg hn
  · rename_i hn
    have e : n = -(-n) := by omega
    conv => lhs; rw [e]
    rw [Int.neg_tmod, Int.tmod_eq_emod_of_nonneg (by omega)]
theorem mod_c {n m : Int} (h : 0 < m ∧ m ≤ 4611686018427387904) : mod_c0 n m = n % m := by
  unfold mod_c0
  have b0 := Int.emod_nonneg n (by omega : m ≠ 0)
  have b1 := Int.emod_lt_of_pos n h.1
  have c0 : decide (m < 1) = false := decide_eq_false (by omega)
  rw [c0, cond_false]
  by_cases hn : 0 ≤ n
  · rw [Int.tmod_eq_emod_of_nonneg hn, decide_eq_false (by omega), cond_false]
  · have t1 : n.tmod m = -((-n) % m) := by rw [kmod_t h.1, if_neg hn]
    have d0 := Int.emod_nonneg (-n) (by omega : m ≠ 0)
    have d1 := Int.emod_lt_of_pos (-n) h.1
    have key : n % m = if (-n) % m = 0 then 0 else m - (-n) % m := by
      split
      · rename_i z
        have := Int.dvd_of_emod_eq_zero z
        exact Int.emod_eq_zero_of_dvd (Int.dvd_neg.1 this)
      · rename_i z
        have e1 : n = m - (-n) % m + m * (-((-n) / m) - 1) := by
          have := Int.emod_add_mul_ediv (-n) m
          rw [Int.mul_sub, Int.mul_neg, Int.mul_one]; omega
        rw [e1, Int.add_mul_emod_self_left, Int.emod_eq_of_lt (by omega) (by omega)]
        rw [← e1]
    rw [t1, key]
    split
    · rename_i z
      rw [z, decide_eq_false (by omega), cond_false]; omega
    · rename_i z
      rw [decide_eq_true (by omega), cond_true, Go.IntWalk.i64_in _ ⟨by omega, by omega⟩]; omega
theorem kMod {n m : Int} (h : 0 < m ∧ m ≤ 4611686018427387904) : Known Tryd.prog knMaskKnownL 35 [.int .i64 n, .int .i64 m] (.int .i64 (n % m)) := by
  have k := mod n m
  rwa [mod_c h] at k
/-- the distance of two floors -/
def ds (i f : Int) : Int := max i f - min i f
/-- what Nearest returns -/
noncomputable def neV (m f : Int) : Int := neP_c0 m f
noncomputable def neE (m f : Int) : Int := neP_c1 m f
theorem near_k {m : Int} (h : isW m = true) (f : Int) : Known Tryd.prog knMaskKnownL 15 [.int .u64 m, .int .i64 f] (.tuple #[.int .i64 (neV m f), .int .i64 (neE m f)]) := neP m f h
theorem beV_is {m f : Int} (h : isW m = true) (hf : 0 ≤ f ∧ f < 64) : IsBelow m f (beV m f) (beE m f) := below_is (of_decide_eq_true h) hf
theorem abV_is {m f : Int} (h : isW m = true) (hf : 0 ≤ f ∧ f < 64) : IsAbove m f (abV m f) (abE m f) := above_is (of_decide_eq_true h) hf
theorem hs_in {m f : Int} (h : hs m f = true) : 0 ≤ f ∧ f < 64 := by
  unfold hs at h
  rw [Bool.and_eq_true, decide_eq_true_eq] at h
  exact h.1
/-- Nearest, in words -/
structure IsNear (m f v e : Int) : Prop where
  none : e = 6 → v = 0 ∧ ∀ j : Int, hs m j = false
  some : e = 0 → hs m v = true ∧ ∀ j : Int, hs m j = true → ds v f < ds j f ∨ (ds v f = ds j f ∧ v ≤ j)
  self : hs m f = true → v = f ∧ e = 0
  err : e = 0 ∨ e = 6
theorem near_is {m f : Int} (h : isW m = true) (hf : 0 ≤ f ∧ f < 64) : IsNear m f (neV m f) (neE m f) := by
  have B := beV_is h hf
  have A := abV_is h hf
  unfold neV neE neP_c0 neP_c1
  generalize beV m f = b at *
  generalize beE m f = be at *
  generalize abV m f = a at *
  generalize abE m f = ae at *
  cases hh : hs m f with
  | true =>
    simp only [cond_true]
    exact ⟨fun e => by simp at e, fun _ => ⟨hh, fun j hj => by unfold ds; omega⟩, fun _ => ⟨rfl, rfl⟩, .inl rfl⟩
  | false =>
    have hne : ∀ {j : Int}, hs m j = true → j ≠ f := fun hj e => by rw [e, hh] at hj; cases hj
    simp only [cond_false]
    rcases B.err with be0 | be6
    · obtain ⟨b0, b1, b2, b3⟩ := B.some be0
      subst be0
      simp only [show ((0 : Int) == 2) = false by decide, show ((0 : Int) == 0) = true by decide, cond_true, cond_false]
      rcases A.err with ae0 | ae6
      · obtain ⟨a0, a1, a2, a3⟩ := A.some ae0
        subst ae0
        simp only [show ((0 : Int) != 0) = false by decide, cond_false]
        rw [Go.IntWalk.i64_in (f - b) ⟨by omega, by omega⟩, Go.IntWalk.i64_in (a - f) ⟨by omega, by omega⟩]
        by_cases c : f - b ≤ a - f
        · rw [decide_eq_true c, cond_true, cond_true]
          refine ⟨fun e => by simp at e, fun _ => ⟨b2, fun j hj => ?_⟩, fun e => absurd (hh.symm.trans e) (by decide), .inl rfl⟩
          have n1 := hne hj
          have n2 : ¬ (b < j ∧ j < f) := fun c => by rw [b3 j c.1 c.2] at hj; cases hj
          have n3 : ¬ (f < j ∧ j < a) := fun c => by rw [a3 j c.1 c.2] at hj; cases hj
          unfold ds; omega
        · rw [decide_eq_false c, cond_false, cond_false]
          refine ⟨fun e => by simp at e, fun _ => ⟨a2, fun j hj => ?_⟩, fun e => absurd (hh.symm.trans e) (by decide), .inl rfl⟩
          have n1 := hne hj
          have n2 : ¬ (b < j ∧ j < f) := fun c => by rw [b3 j c.1 c.2] at hj; cases hj
          have n3 : ¬ (f < j ∧ j < a) := fun c => by rw [a3 j c.1 c.2] at hj; cases hj
          unfold ds; omega
      · obtain ⟨a0, a1⟩ := A.none ae6
        subst ae6
        simp only [show ((6 : Int) != 0) = true by decide, cond_true]
        refine ⟨fun e => by simp at e, fun _ => ⟨b2, fun j hj => ?_⟩, fun e => absurd (hh.symm.trans e) (by decide), .inl rfl⟩
        have n1 := hne hj
        have n2 : ¬ (b < j ∧ j < f) := fun c => by rw [b3 j c.1 c.2] at hj; cases hj
        have n3 : ¬ (f < j) := fun c => by rw [a1 j c] at hj; cases hj
        unfold ds; omega
    · obtain ⟨b0, b1⟩ := B.none be6
      subst be6
      simp only [show ((6 : Int) == 2) = false by decide, show ((6 : Int) == 0) = false by decide, cond_false]
      rcases A.err with ae0 | ae6
      · obtain ⟨a0, a1, a2, a3⟩ := A.some ae0
        subst ae0
        refine ⟨fun e => by simp at e, fun _ => ⟨a2, fun j hj => ?_⟩, fun e => absurd (hh.symm.trans e) (by decide), .inl rfl⟩
        have n1 := hne hj
        have n2 : ¬ (j < f) := fun c => by rw [b1 j c] at hj; cases hj
        have n3 : ¬ (f < j ∧ j < a) := fun c => by rw [a3 j c.1 c.2] at hj; cases hj
        unfold ds; omega
      · obtain ⟨a0, a1⟩ := A.none ae6
        subst ae6
        refine ⟨fun _ => ⟨a0, fun j => ?_⟩, fun e => by simp at e, fun e => absurd (hh.symm.trans e) (by decide), .inr rfl⟩
        rcases (by omega : j < f ∨ j = f ∨ f < j) with c | c | c
        · exact b1 j c
        · rw [c]; exact hh
        · exact a1 j c
/-- a set of which no floor is a member is empty -/
theorem hs_none {m : Int} (h : isW m = true) (hn : ∀ j : Int, hs m j = false) : m = 0 := by
  have hm : 0 ≤ m ∧ m < 18446744073709551616 := of_decide_eq_true h
  refine tb_zero hm.1 fun i => ?_
  rcases (by omega : i < 64 ∨ 64 ≤ i) with c | c
  · have := hn (i : Int)
    unfold hs at this
    rw [decide_eq_true (by omega), Bool.true_and, Int.toNat_natCast] at this
    exact this
  · exact tb_big hm c
theorem hs_zero (j : Int) : hs 0 j = false := by unfold hs tb; simp
theorem near_zero {m f : Int} (h : isW m = true) (hf : 0 ≤ f ∧ f < 64) : (m = 0 → neE m f = 6) ∧ (m ≠ 0 → neE m f = 0) := by
  have N := near_is h hf
  refine ⟨fun e => ?_, fun e => ?_⟩
  · rcases N.err with c | c
    · have := (N.some c).1
      rw [e, hs_zero] at this
      cases this
    · exact c
  · rcases N.err with c | c
    · exact c
    · exact absurd (hs_none h (N.none c).2) e
end Go.Proofs.YtboobndcgilmlaaDoor
