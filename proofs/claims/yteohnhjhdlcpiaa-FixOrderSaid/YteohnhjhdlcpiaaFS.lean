/- Layer 1: FixOrder walked. -/
import Derived.Test.YteohnhjhdlcpiaaFJ
import Derived.Test.YteohnhjhdlcpiaaFR
namespace Go.Proofs.Yteohnhjhdlcpiaa
open Go.RowKit
set_option linter.unusedVariables false

theorem split_any {p y : Int} (h0 : 0 ≤ p) (hp : Is127 p) (hy : 1 ≤ y) (hy2 : y ≤ 9223372036854775808) : SplitOK p y := by
  refine psplit p y h0 hp hy hy2 fun W => ?_
  obtain ⟨_, s2, s3, s4, s5⟩ := w_split h0 hp hy hy2
  obtain ⟨l0, l1⟩ := lo_rng p
  rw [← s2, ← s3]
  by_cases h : HI p % y = 0
  · rw [h, Int.zero_mul, Int.zero_add]
    exact pdiv0 (LO p) y W l0 l1 hy
  · exact pdivG (HI p % y) (LO p) y W (by omega) s4 l0 l1 hy (by omega)
theorem mag_times {a b : Int} (ha : In64 a) (hb : In64 b) : mag (a * b) = mag a * mag b := by
  have hs := mag_sign a b
  have h0 := (mag_mul ha hb).1
  obtain ⟨m, hm⟩ : ∃ m, m = mag a * mag b := ⟨_, rfl⟩
  rw [← hm] at hs h0 ⊢
  rw [hs]
  split <;> (unfold mag; split <;> omega)
theorem scl_self {a b : Int} (ha : In64 a) (hb : In64 b) (h : b ≠ 0) : scl (a * b) b 3 = a := by
  have hm := mag_times ha hb
  have b0 : mag b ≠ 0 := by unfold mag; split <;> omega
  have hq : qS (a * b) b 3 = mag a := by
    unfold qS
    rw [hm, Int.mul_ediv_cancel _ b0, Int.mul_emod_left]
    simp
  unfold scl
  rw [hq]
  have hs := mag_sign a b
  have a0 : 0 ≤ mag a := (mag_rng ha).1
  have b1 : 0 ≤ mag b := (mag_rng hb).1
  by_cases z : a = 0
  · subst z
    simp [mag]
  · have a1 : mag a ≠ 0 := by unfold mag; split <;> omega
    have hp : 0 < mag a * mag b := Int.mul_pos (by omega) (by omega)
    obtain ⟨m, hmm⟩ : ∃ m, m = mag a * mag b := ⟨_, rfl⟩
    rw [← hmm] at hs hp
    unfold mag
    by_cases ha0 : a < 0 <;> by_cases hb0 : b < 0 <;> simp [ha0, hb0] at hs <;> rw [hs] <;> simp [ha0, hb0] <;> omega
theorem bn_all {v : Int} (h : -9223372036854775808 ≤ v ∧ v ≤ 9223372036854775807) : bnV (-9223372036854775808) 9223372036854775807 v = v ∧ bnE (-9223372036854775808) 9223372036854775807 v = 0 := by
  unfold bnV bnE okV okE
  have n : ¬ (9223372036854775807 : Int) < -9223372036854775808 := by omega
  rw [if_neg n, if_neg n, if_pos h, if_pos h]
  exact ⟨rfl, rfl⟩
theorem bn_out {v : Int} (h : ¬ (-9223372036854775808 ≤ v ∧ v ≤ 9223372036854775807)) : bnE (-9223372036854775808) 9223372036854775807 v = 14 := by
  unfold bnE okE
  have n : ¬ (9223372036854775807 : Int) < -9223372036854775808 := by omega
  rw [if_neg n, if_neg h]
theorem ok_self {v : Int} (h : -9223372036854775808 ≤ v ∧ v ≤ 9223372036854775807) : okV (-9223372036854775808) 9223372036854775807 v = v ∧ okE (-9223372036854775808) 9223372036854775807 v = 0 := by
  unfold okV okE; rw [if_pos h, if_pos h]; exact ⟨rfl, rfl⟩

set_option maxRecDepth 20000 in
set_option maxHeartbeats 8000000 in
theorem fixOrder_true (a b : Int) (w : World) (ha : In64 a) (hb : In64 b) : Calls Try.prog 7 #[.int .i64 a, .int .i64 b] w fun e w' => e = .returned (.bool true) ∧ Below w.heap.size w w' := by
  have m1 : In64 (-9223372036854775808) := by unfold In64; omega
  have m2 : In64 9223372036854775807 := by unfold In64; omega
  have A1 := fun W => pAdd (-9223372036854775808) 9223372036854775807 a b W m1 m2 ha hb
  have A2 := fun W => pAdd (-9223372036854775808) 9223372036854775807 b a W m1 m2 hb ha
  have M1 := fun W => pMul (-9223372036854775808) 9223372036854775807 a b W m1 m2 ha hb
  have M2 := fun W => pMul (-9223372036854775808) 9223372036854775807 b a W m1 m2 hb ha
  have S1 := fun W => pSub (-9223372036854775808) 9223372036854775807 a b W m1 m2 ha hb
  rw [Int.add_comm b a] at A2
  rw [Int.mul_comm b a] at M2
  have hD : (-9223372036854775808 ≤ a - b ∧ a - b ≤ 9223372036854775807) ∨ ¬ (-9223372036854775808 ≤ a - b ∧ a - b ≤ 9223372036854775807) := Classical.em _
  have A3 : (-9223372036854775808 ≤ a - b ∧ a - b ≤ 9223372036854775807) → ∀ W, Calls Try.prog 10 #[.agg #[.int .i64 (-9223372036854775808), .int .i64 9223372036854775807], .int .i64 (a - b), .int .i64 b] W (Out2 a 0 W) := by
    intro h W
    have H := pAdd (-9223372036854775808) 9223372036854775807 (a - b) b W m1 m2 (by unfold In64; omega) hb
    rw [show a - b + b = a by omega, (bn_all (v := a) (by unfold In64 at ha; omega)).1, (bn_all (v := a) (by unfold In64 at ha; omega)).2] at H
    exact H
  have Q : b ≠ 0 → ∀ W, Calls Try.prog 23 #[.agg #[.int .i64 (-9223372036854775808), .int .i64 9223372036854775807], .int .i64 a, .int .i64 b, .int .i64 b, .int .i64 3] W (Out2 a 0 W) := by
    intro h W
    obtain ⟨y0, y1⟩ := mag_rng hb
    have y2 : 1 ≤ mag b := by unfold mag; split <;> omega
    have p1 := mag_prod ha hb
    have p0 : 0 ≤ mag (a * b) := by unfold mag; split <;> omega
    have H := pScale (-9223372036854775808) 9223372036854775807 a b b 3 W m1 m2 ha hb hb (by omega) (by omega) h (split_any p0 (by unfold Is127; omega) y2 y1)
    rw [scl_self ha hb h, (ok_self (v := a) (by unfold In64 at ha; omega)).1, (ok_self (v := a) (by unfold In64 at ha; omega)).2] at H
    exact H
  obtain ⟨v1, hv1⟩ : ∃ v, v = bnV (-9223372036854775808) 9223372036854775807 (a + b) := ⟨_, rfl⟩
  obtain ⟨e1, he1⟩ : ∃ v, v = bnE (-9223372036854775808) 9223372036854775807 (a + b) := ⟨_, rfl⟩
  obtain ⟨v2, hv2⟩ : ∃ v, v = bnV (-9223372036854775808) 9223372036854775807 (a * b) := ⟨_, rfl⟩
  obtain ⟨e2, he2⟩ : ∃ v, v = bnE (-9223372036854775808) 9223372036854775807 (a * b) := ⟨_, rfl⟩
  rw [← hv1, ← he1] at A1 A2
  rw [← hv2, ← he2] at M1 M2
  have HA1 := Lib.hid A1
  have HA2 := Lib.hid A2
  have HM1 := Lib.hid M1
  have HM2 := Lib.hid M2
  have HS1 := Lib.hid S1
  have HA3 := Lib.hid A3
  have HQ := Lib.hid Q
  have HDD := Lib.hid hD
  clear A1 A2 M1 M2 S1 A3 Q hD hv1 he1 hv2 he2
  have hz : b = 0 ∨ b ≠ 0 := Classical.em _
  have HZ := Lib.hid hz
  clear hz
  go_enter Try.func7, Try.ntmps7
  go_wp2_with fail
  refine (fixKnown_true _).mono ?_
  rintro _ w1 ⟨rfl, hb1⟩
  go_wp2_with fail
  refine (all_any _).mono ?_
  rintro _ w2 ⟨rfl, hb2⟩
  go_wp2_with fail
  refine (HA1.out _).mono ?_
  rintro _ w3 ⟨rfl, hb3⟩
  go_wp2_with fail
  refine (all_any _).mono ?_
  rintro _ w4 ⟨rfl, hb4⟩
  go_wp2_with fail
  refine (HA2.out _).mono ?_
  rintro _ w5 ⟨rfl, hb5⟩
  go_wp2_with fail
  refine (all_any _).mono ?_
  rintro _ w6 ⟨rfl, hb6⟩
  go_wp2_with fail
  refine (HM1.out _).mono ?_
  rintro _ w7 ⟨rfl, hb7⟩
  go_wp2_with fail
  refine (all_any _).mono ?_
  rintro _ w8 ⟨rfl, hb8⟩
  go_wp2_with fail
  refine (HM2.out _).mono ?_
  rintro _ w9 ⟨rfl, hb9⟩
  go_wp2_with fail
  refine (all_any _).mono ?_
  rintro _ wa ⟨rfl, hba⟩
  go_wp2_with fail
  refine (HS1.out _).mono ?_
  rintro _ wb ⟨rfl, hbb⟩
  rcases HDD.out with hd | hd
  · rw [(bn_all hd).1, (bn_all hd).2]
    have HD2 := Lib.hid hd
    clear hd
    go_wp2_with fail
    refine (all_any _).mono ?_
    rintro _ wc ⟨rfl, hbc⟩
    go_wp2_with fail
    refine (HA3.out HD2.out _).mono ?_
    rintro _ wd ⟨rfl, hbd⟩
    go_wp2_with fail
    refine (gives_true a _).mono ?_
    rintro _ wd2 ⟨rfl, hbd2⟩
    rcases HZ.out with hz | hz
    · subst hz
      go_wp2_with fail
      refine (all_any _).mono ?_
      rintro _ we ⟨rfl, hbe⟩
      go_wp2_with fail
      refine (pScaleZ (-9223372036854775808) 9223372036854775807 a 0 3 _ (by omega) (by omega) (by omega)).mono ?_
      rintro _ wf ⟨rfl, hbf⟩
      go_wp2
      all_goals go_ret
      all_goals exact ⟨by first | rfl | (simp; done), (by repeat (first | exact Below.refl _ _ | apply keep_alloc | apply keep_drew | apply keep_drewN | refine keep_step (by assumption) ?_ (by rfl) | refine keep_set ?_ _ _ (by first | exact Nat.le_refl _ | (show _ ≤ _; simp; done) | (show _ ≤ _; simp; omega))))⟩
    · have hz2 : (b == 0) = false := by simp [hz]
      have HZ2 := Lib.hid hz
      clear hz
      go_wp2_with fail
      refine (all_any _).mono ?_
      rintro _ we ⟨rfl, hbe⟩
      go_wp2_with fail
      refine (HQ.out HZ2.out _).mono ?_
      rintro _ wf ⟨rfl, hbf⟩
      go_wp2_with fail
      refine (gives_true a _).mono ?_
      rintro _ wg ⟨rfl, hbg⟩
      go_wp2
      all_goals go_ret
      all_goals exact ⟨by first | rfl | (simp; done), (by repeat (first | exact Below.refl _ _ | apply keep_alloc | apply keep_drew | apply keep_drewN | refine keep_step (by assumption) ?_ (by rfl) | refine keep_set ?_ _ _ (by first | exact Nat.le_refl _ | (show _ ≤ _; simp; done) | (show _ ≤ _; simp; omega))))⟩
  · rw [bn_out hd]
    clear hd
    rcases HZ.out with hz | hz
    · subst hz
      go_wp2_with fail
      refine (all_any _).mono ?_
      rintro _ we ⟨rfl, hbe⟩
      go_wp2_with fail
      refine (pScaleZ (-9223372036854775808) 9223372036854775807 a 0 3 _ (by omega) (by omega) (by omega)).mono ?_
      rintro _ wf ⟨rfl, hbf⟩
      go_wp2
      all_goals go_ret
      all_goals exact ⟨by first | rfl | (simp; done), (by repeat (first | exact Below.refl _ _ | apply keep_alloc | apply keep_drew | apply keep_drewN | refine keep_step (by assumption) ?_ (by rfl) | refine keep_set ?_ _ _ (by first | exact Nat.le_refl _ | (show _ ≤ _; simp; done) | (show _ ≤ _; simp; omega))))⟩
    · have hz2 : (b == 0) = false := by simp [hz]
      have HZ2 := Lib.hid hz
      clear hz
      go_wp2_with fail
      refine (all_any _).mono ?_
      rintro _ we ⟨rfl, hbe⟩
      go_wp2_with fail
      refine (HQ.out HZ2.out _).mono ?_
      rintro _ wf ⟨rfl, hbf⟩
      go_wp2_with fail
      refine (gives_true a _).mono ?_
      rintro _ wg ⟨rfl, hbg⟩
      go_wp2
      all_goals go_ret
      all_goals exact ⟨by first | rfl | (simp; done), (by repeat (first | exact Below.refl _ _ | apply keep_alloc | apply keep_drew | apply keep_drewN | refine keep_step (by assumption) ?_ (by rfl) | refine keep_set ?_ _ _ (by first | exact Nat.le_refl _ | (show _ ≤ _; simp; done) | (show _ ≤ _; simp; omega))))⟩
end Go.Proofs.Yteohnhjhdlcpiaa
