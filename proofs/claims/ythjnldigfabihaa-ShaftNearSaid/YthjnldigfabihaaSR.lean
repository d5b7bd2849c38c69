/- Layer 7: ShaftKnown. -/
import Derived.Test.YthjnldigfabihaaSQ
namespace Go.Proofs.Ythjnldigfabihaa
open Go.RowKit
set_option linter.unusedVariables false

set_option maxRecDepth 20000 in
set_option maxHeartbeats 16000000 in
theorem shaftKnown_true (w : World) : Calls Try.prog 5 #[] w fun e w' => e = .returned (.bool true) ∧ Below w.heap.size w w' := by
  go_enter Try.func5, Try.ntmps5
  go_wp2_with fail
  refine (gaps_any _).mono ?_
  rintro _ w1 ⟨b1, rfl, hig, hbw1⟩
  go_wp2_with fail
  refine (pDistance G _ 3 3 1 3 _ rfl (by decide) hig).mono ?_
  rintro _ w2 ⟨rfl, hb2⟩
  rw [show dV G 1 3 = 10 by decide, show dE G 1 3 = 0 by decide]
  clear hig
  go_wp2_with fail
  refine (gaps_any _).mono ?_
  rintro _ w3 ⟨b3, rfl, hig, hbw3⟩
  go_wp2_with fail
  refine (pDistance G _ 3 3 3 1 _ rfl (by decide) hig).mono ?_
  rintro _ w4 ⟨rfl, hb4⟩
  rw [show dV G 3 1 = 10 by decide, show dE G 3 1 = 0 by decide]
  clear hig
  go_wp2_with fail
  refine (gaps_any _).mono ?_
  rintro _ w5 ⟨b5, rfl, hig, hbw5⟩
  go_wp2_with fail
  refine (pNearest G _ 3 3 21 _ rfl (by decide) hig).mono ?_
  rintro _ w6 ⟨rfl, hb6⟩
  rw [show nV G 21 = 0 by decide, show lE G 21 0 0 = 2 by decide]
  clear hig
  go_wp2_with fail
  refine (gaps_any _).mono ?_
  rintro _ w7 ⟨b7, rfl, hig, hbw7⟩
  go_wp2_with fail
  refine (pLevel G _ 3 3 11 1 1 _ rfl (by decide) hig).mono ?_
  rintro _ w8 ⟨rfl, hb8⟩
  rw [show lV G 11 1 1 = true by decide, show lE G 11 1 1 = 0 by decide]
  clear hig
  go_wp2_with fail
  refine (gaps_any _).mono ?_
  rintro _ w9 ⟨b9, rfl, hig, hbw9⟩
  go_wp2_with fail
  refine (pLevel G _ 3 3 12 1 1 _ rfl (by decide) hig).mono ?_
  rintro _ w10 ⟨rfl, hb10⟩
  rw [show lV G 12 1 1 = false by decide, show lE G 12 1 1 = 0 by decide]
  clear hig
  go_wp2_with fail
  refine (gaps_any _).mono ?_
  rintro _ w11 ⟨b11, rfl, hig, hbw11⟩
  go_wp2_with fail
  refine (pAt G _ 3 3 11 1 _ rfl (by decide) hig).mono ?_
  rintro _ w12 ⟨rfl, hb12⟩
  rw [show aV G 11 1 = 1 by decide, show aE G 11 1 = 0 by decide]
  clear hig
  go_wp2_with fail
  refine (gaps_any _).mono ?_
  rintro _ w13 ⟨b13, rfl, hig, hbw13⟩
  go_wp2_with fail
  refine (pAt G _ 3 3 12 1 _ rfl (by decide) hig).mono ?_
  rintro _ w14 ⟨rfl, hb14⟩
  rw [show aV G 12 1 = 0 by decide, show aE G 12 1 = 6 by decide]
  clear hig
  go_wp2_with fail
  refine (gaps_any _).mono ?_
  rintro _ w15 ⟨b15, rfl, hig, hbw15⟩
  go_wp2_with fail
  refine (pAt G _ 3 3 12 2 _ rfl (by decide) hig).mono ?_
  rintro _ w16 ⟨rfl, hb16⟩
  rw [show aV G 12 2 = 1 by decide, show aE G 12 2 = 0 by decide]
  clear hig
  go_wp2_with fail
  refine (gaps_any _).mono ?_
  rintro _ w17 ⟨b17, rfl, hig, hbw17⟩
  go_wp2_with fail
  refine (pBetween G _ 3 3 0 10 _ rfl (by decide) hig).mono ?_
  rintro _ w18 ⟨AP, cP, rfl, hiP, _, hb18⟩
  rw [show bV G 0 10 = [0, 1] by decide] at hiP
  rw [show bV G 0 10 = [0, 1] by decide, show bE G 0 10 = 0 by decide]
  simp only [List.length_cons, List.length_nil]
  clear hig
  go_wp2_with fail
  refine (gaps_any _).mono ?_
  rintro _ w19 ⟨b19, rfl, hig, hbw19⟩
  go_wp2_with fail
  refine (pBetween G _ 3 3 11 13 _ rfl (by decide) hig).mono ?_
  rintro _ w20 ⟨AQ, cQ, rfl, hiQ, _, hb20⟩
  rw [show bV G 11 13 = [] by decide] at hiQ
  rw [show bV G 11 13 = [] by decide, show bE G 11 13 = 0 by decide]
  simp only [List.length_cons, List.length_nil]
  clear hig
  go_wp2_with fail
  refine (gaps_any _).mono ?_
  rintro _ w21 ⟨b21, rfl, hig, hbw21⟩
  go_wp2_with fail
  refine (pBetween G _ 3 3 5 4 _ rfl (by decide) hig).mono ?_
  rintro _ w22 ⟨AR, cR, rfl, hiR, _, hb22⟩
  rw [show bV G 5 4 = [] by decide] at hiR
  rw [show bV G 5 4 = [] by decide, show bE G 5 4 = 2 by decide]
  simp only [List.length_cons, List.length_nil]
  clear hig
  go_wp2_with fail
  refine (pCheck [] none 0 0 _ rfl (by decide) (.inl rfl)).mono ?_
  rintro _ w23 ⟨rfl, hb23⟩
  rw [show ckE [] = 4 by decide, show ckI [] = 0 by decide]
  go_wp2_with fail
  refine (pCheck [10, 0] _ 2 _ _ rfl (by decide) (ints_new _ rfl rfl)).mono ?_
  rintro _ w24 ⟨rfl, hb24⟩
  rw [show ckE [10, 0] = 2 by decide, show ckI [10, 0] = 1 by decide]
  go_wp2_with fail
  refine (near_true 5 0 _ (by decide) (by decide)).mono ?_
  rintro _ w25 ⟨rfl, hb25⟩
  go_wp2_with fail
  refine (near_true 6 1 _ (by decide) (by decide)).mono ?_
  rintro _ w26 ⟨rfl, hb26⟩
  go_wp2_with fail
  refine (near_true 13 2 _ (by decide) (by decide)).mono ?_
  rintro _ w27 ⟨rfl, hb27⟩
  go_wp2_with fail
  refine (near_true 17 2 _ (by decide) (by decide)).mono ?_
  rintro _ w28 ⟨rfl, hb28⟩
  go_wp2_with fail
  refine (near_true 18 3 _ (by decide) (by decide)).mono ?_
  rintro _ w29 ⟨rfl, hb29⟩
  go_wp2_with fail
  apply Calls.mono
  focus
    refine sameInts_same _ _ [0, 1] 2 _ _ _ rfl (by decide) ?_ ?_
    · exact hiP.step (by repeat (first | exact Below.refl _ _ | apply keep_alloc | apply keep_drew | apply keep_drewN | refine keep_step (by assumption) ?_ (by rfl) | refine keep_set ?_ _ _ (by first | exact Nat.le_refl _ | (show _ ≤ _; simp; done) | (show _ ≤ _; simp; omega))))
    · exact ints_new _ (by simp) (by rfl)
  rintro _ w30 ⟨rfl, hb30⟩
  go_wp2_with fail
  refine (awake_true _).mono ?_
  rintro _ w31 ⟨rfl, hb31⟩
  go_wp2
  go_ret
  exact ⟨rfl, (by repeat (first | exact Below.refl _ _ | apply keep_alloc | apply keep_drew | apply keep_drewN | refine keep_step (by assumption) ?_ (by rfl) | refine keep_set ?_ _ _ (by first | exact Nat.le_refl _ | (show _ ≤ _; simp; done) | (show _ ≤ _; simp; omega))))⟩
end Go.Proofs.Ythjnldigfabihaa
