/- Layer 1: FixRounds walked. -/
import Derived.Test.YteohnhjhdlcpiaaFK
namespace Go.Proofs.Yteohnhjhdlcpiaa
open Go.RowKit
set_option linter.unusedVariables false

theorem ok_all {v : Int} (h : -9223372036854775808 ≤ v ∧ v ≤ 9223372036854775807) : okV (-9223372036854775808) 9223372036854775807 v = v ∧ okE (-9223372036854775808) 9223372036854775807 v = 0 := by
  unfold okV okE; rw [if_pos h, if_pos h]; exact ⟨rfl, rfl⟩
theorem odd_t (L : Int) : (L.tmod 2 == 0) = decide (L % 2 = 0) := by
  have h : L.tmod 2 = 0 ↔ L % 2 = 0 := by
    constructor
    · intro h; have := Int.tmod_add_tdiv_mul L 2; omega
    · intro h; exact Int.tmod_eq_zero_of_dvd (Int.dvd_of_emod_eq_zero h)
  by_cases h2 : L % 2 = 0
  · simp [h2, h.2 h2]
  · have h3 : ¬ L.tmod 2 = 0 := fun e => h2 (h.1 e)
    simp [h2, h3]

set_option maxRecDepth 20000 in
set_option maxHeartbeats 16000000 in
theorem fixRounds_true (a b : Int) (w : World) (ha : In64 a) (hb : In64 b) : Calls Try.prog 8 #[.int .i64 a, .int .i64 b] w fun e w' => e = .returned (.bool true) ∧ Below w.heap.size w w' := by
  obtain ⟨A, tA⟩ : ∃ A, a.tmod 1073741824 = A := ⟨_, rfl⟩
  obtain ⟨B, tB⟩ : ∃ B, b.tmod 1073741824 = B := ⟨_, rfl⟩
  have hA : -1073741824 < A ∧ A < 1073741824 := by
    rw [← tA]; exact ⟨by have := Int.lt_tmod_of_pos a (b := 1073741824) (by omega); omega, Int.tmod_lt_of_pos a (by omega)⟩
  have hB : -1073741824 < B ∧ B < 1073741824 := by
    rw [← tB]; exact ⟨by have := Int.lt_tmod_of_pos b (b := 1073741824) (by omega); omega, Int.tmod_lt_of_pos b (by omega)⟩
  clear ha hb
  by_cases hB0 : B = 0
  · subst hB0
    go_enter Try.func8, Try.ntmps8
    go_wp2_with fail
    refine (fixKnown_true _).mono ?_
    rintro _ w1 ⟨rfl, hb1⟩
    go_wp2
    go_ret
    exact ⟨rfl, (by repeat (first | exact Below.refl _ _ | apply keep_alloc | apply keep_drew | apply keep_drewN | refine keep_step (by assumption) ?_ (by rfl) | refine keep_set ?_ _ _ (by first | exact Nat.le_refl _ | (show _ ≤ _; simp; done) | (show _ ≤ _; simp; omega))))⟩
  · have hb0 : (B == 0) = false := by simp [hB0]
    have a64 : In64 A := by unfold In64; omega
    have b64 : In64 B := by unfold In64; omega
    obtain ⟨a', b', L, H, Nn, X, Y, hsg, s1, s2, s3, hX, hY, L0, L1, hb', hcase⟩ := roundFacts hA hB hB0
    have hH : -1073741825 ≤ H ∧ H ≤ 1073741826 := by omega
    have hN : -1073741825 ≤ Nn ∧ Nn ≤ 1073741826 := by omega
    have D1 := fun W => pDiv (-9223372036854775808) 9223372036854775807 A B 1 W (by unfold In64; omega) (by unfold In64; omega) a64 b64 (by omega) (by omega) hB0
    have D2 := fun W => pDiv (-9223372036854775808) 9223372036854775807 A B 2 W (by unfold In64; omega) (by unfold In64; omega) a64 b64 (by omega) (by omega) hB0
    have D3 := fun W => pDiv (-9223372036854775808) 9223372036854775807 A B 3 W (by unfold In64; omega) (by unfold In64; omega) a64 b64 (by omega) (by omega) hB0
    rw [s1, (ok_all (v := L) (by omega)).1, (ok_all (v := L) (by omega)).2] at D1
    rw [s2, (ok_all (v := H) (by omega)).1, (ok_all (v := H) (by omega)).2] at D2
    rw [s3, (ok_all (v := Nn) (by omega)).1, (ok_all (v := Nn) (by omega)).2] at D3
    have E1 := Lib.hid D1
    have E2 := Lib.hid D2
    have E3 := Lib.hid D3
    have HX := Lib.hid hX
    have HY := Lib.hid hY
    have HS := Lib.hid hsg
    have HC := Lib.hid hcase
    have OD := odd_t L
    have ab' : -1073741824 < a' ∧ a' < 1073741824 ∧ b' < 1073741824 := by omega
    clear D1 D2 D3 hX hY hsg hcase s1 s2 s3 hB0
    go_enter Try.func8, Try.ntmps8
    go_wp2_with fail
    refine (fixKnown_true _).mono ?_
    rintro _ w1 ⟨rfl, hb1⟩
    go_wp2_with fail
    refine (all_any _).mono ?_
    rintro _ w2 ⟨rfl, hb2⟩
    go_wp2_with fail
    refine (E1.out _).mono ?_
    rintro _ w3 ⟨rfl, hb3⟩
    go_wp2_with fail
    refine (all_any _).mono ?_
    rintro _ w4 ⟨rfl, hb4⟩
    go_wp2_with fail
    refine (E2.out _).mono ?_
    rintro _ w5 ⟨rfl, hb5⟩
    go_wp2_with fail
    refine (all_any _).mono ?_
    rintro _ w6 ⟨rfl, hb6⟩
    go_wp2_with fail
    refine (E3.out _).mono ?_
    rintro _ w7 ⟨rfl, hb7⟩
    have hbw : Below w.heap.size w w7 := (by repeat (first | exact Below.refl _ _ | apply keep_alloc | apply keep_drew | apply keep_drewN | refine keep_step (by assumption) ?_ (by rfl) | refine keep_set ?_ _ _ (by first | exact Nat.le_refl _ | (show _ ≤ _; simp; done) | (show _ ≤ _; simp; omega))))
    rcases HS.out with ⟨g1, rfl, rfl⟩ | ⟨g1, g2, g3⟩
    · rcases HC.out with ⟨n1, n2, c3, c4⟩ | ⟨n1, c2, c3, c4, ⟨n2, c5⟩ | ⟨n2, c5⟩⟩
      · subst n1
        subst n2
        have hX := HX.out
        rw [c3] at hX
        clear HX HY HS HC c3 c4 hb1 hb2 hb3 hb4 hb5 hb6 hb7 E1 E2 E3 OD
        go_wp2
        all_goals go_ret
        all_goals exact ⟨by first | rfl | (simp; done) | (simp <;> omega), hbw⟩
      · subst n1
        have n3 := n2.symm
        subst n3
        have hX := HX.out
        have hY := HY.out
        have q2 : (L + 1 == L) = false := by simp; omega
        have q3 : (L == L + 1) = false := by simp; omega
        have q1 : (X == a') = false := by simp; omega
        have x1 : a' - b' ≤ X := by omega
        have y1 : Y ≤ a' + b' := by omega
        rcases c5 with d | ⟨d, e⟩
        · have d1 : decide (a' - X < Y - a') = true := by simp; omega
          clear HX HY HS HC c2 d hb1 hb2 hb3 hb4 hb5 hb6 hb7 E1 E2 E3 OD
          go_wp2
          all_goals go_ret
          all_goals exact ⟨by first | rfl | (simp; done) | (simp <;> omega), hbw⟩
        · have d1 : decide (a' - X < Y - a') = false := by simp; omega
          have d2 : (a' - X == Y - a') = true := by simp; omega
          have OD2 := OD.trans (show _ = true by simp [e])
          clear HX HY HS HC c2 d e hb1 hb2 hb3 hb4 hb5 hb6 hb7 E1 E2 E3 OD
          go_wp2
          all_goals go_ret
          all_goals exact ⟨by first | rfl | (simp; done) | (simp <;> omega), hbw⟩
      · subst n1
        subst n2
        have hX := HX.out
        have hY := HY.out
        have q2 : (L + 1 == L) = false := by simp; omega
        have q3 : (L == L + 1) = false := by simp; omega
        have q1 : (X == a') = false := by simp; omega
        have x1 : a' - b' ≤ X := by omega
        have y1 : Y ≤ a' + b' := by omega
        rcases c5 with d | ⟨d, e⟩
        · have d1 : decide (a' - X < Y - a') = false := by simp; omega
          have d2 : (a' - X == Y - a') = false := by simp; omega
          clear HX HY HS HC c2 d hb1 hb2 hb3 hb4 hb5 hb6 hb7 E1 E2 E3 OD
          go_wp2
          all_goals go_ret
          all_goals exact ⟨by first | rfl | (simp; done) | (simp <;> omega), hbw⟩
        · have d1 : decide (a' - X < Y - a') = false := by simp; omega
          have d2 : (a' - X == Y - a') = true := by simp; omega
          have OD2 := OD.trans (show _ = false by simp [e])
          clear HX HY HS HC c2 d e hb1 hb2 hb3 hb4 hb5 hb6 hb7 E1 E2 E3 OD
          go_wp2
          all_goals go_ret
          all_goals exact ⟨by first | rfl | (simp; done) | (simp <;> omega), hbw⟩
    · obtain rfl : A = -a' := by omega
      obtain rfl : B = -b' := by omega
      clear g2 g3
      rcases HC.out with ⟨n1, n2, c3, c4⟩ | ⟨n1, c2, c3, c4, ⟨n2, c5⟩ | ⟨n2, c5⟩⟩
      · subst n1
        subst n2
        have hX := HX.out
        rw [c3] at hX
        clear HX HY HS HC c3 c4 hb1 hb2 hb3 hb4 hb5 hb6 hb7 E1 E2 E3 OD
        go_wp2
        all_goals go_ret
        all_goals exact ⟨by first | rfl | (simp; done) | (simp <;> omega), hbw⟩
      · subst n1
        have n3 := n2.symm
        subst n3
        have hX := HX.out
        have hY := HY.out
        have q2 : (L + 1 == L) = false := by simp; omega
        have q3 : (L == L + 1) = false := by simp; omega
        have q1 : (X == a') = false := by simp; omega
        have x1 : a' - b' ≤ X := by omega
        have y1 : Y ≤ a' + b' := by omega
        rcases c5 with d | ⟨d, e⟩
        · have d1 : decide (a' - X < Y - a') = true := by simp; omega
          clear HX HY HS HC c2 d hb1 hb2 hb3 hb4 hb5 hb6 hb7 E1 E2 E3 OD
          go_wp2
          all_goals go_ret
          all_goals exact ⟨by first | rfl | (simp; done) | (simp <;> omega), hbw⟩
        · have d1 : decide (a' - X < Y - a') = false := by simp; omega
          have d2 : (a' - X == Y - a') = true := by simp; omega
          have OD2 := OD.trans (show _ = true by simp [e])
          clear HX HY HS HC c2 d e hb1 hb2 hb3 hb4 hb5 hb6 hb7 E1 E2 E3 OD
          go_wp2
          all_goals go_ret
          all_goals exact ⟨by first | rfl | (simp; done) | (simp <;> omega), hbw⟩
      · subst n1
        subst n2
        have hX := HX.out
        have hY := HY.out
        have q2 : (L + 1 == L) = false := by simp; omega
        have q3 : (L == L + 1) = false := by simp; omega
        have q1 : (X == a') = false := by simp; omega
        have x1 : a' - b' ≤ X := by omega
        have y1 : Y ≤ a' + b' := by omega
        rcases c5 with d | ⟨d, e⟩
        · have d1 : decide (a' - X < Y - a') = false := by simp; omega
          have d2 : (a' - X == Y - a') = false := by simp; omega
          clear HX HY HS HC c2 d hb1 hb2 hb3 hb4 hb5 hb6 hb7 E1 E2 E3 OD
          go_wp2
          all_goals go_ret
          all_goals exact ⟨by first | rfl | (simp; done) | (simp <;> omega), hbw⟩
        · have d1 : decide (a' - X < Y - a') = false := by simp; omega
          have d2 : (a' - X == Y - a') = true := by simp; omega
          have OD2 := OD.trans (show _ = false by simp [e])
          clear HX HY HS HC c2 d e hb1 hb2 hb3 hb4 hb5 hb6 hb7 E1 E2 E3 OD
          go_wp2
          all_goals go_ret
          all_goals exact ⟨by first | rfl | (simp; done) | (simp <;> omega), hbw⟩
end Go.Proofs.Yteohnhjhdlcpiaa
