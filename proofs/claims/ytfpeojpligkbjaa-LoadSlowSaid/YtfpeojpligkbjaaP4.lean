/- Layer 11: LoadKnown. -/
import Derived.Test.YtfpeojpligkbjaaP3
namespace Go.Proofs.Ytfpeojpligkbjaa
open Go.RowKit
set_option linter.unusedVariables false

theorem chk_def (e f s : Int) : chk e f s = if e < 0 ∨ s < 0 ∨ 10000 < f then 2 else if f < 0 ∨ 10000 < e ∨ 10000 < s ∨ f - s ≤ e + s then 8 else 0 := rfl
theorem bnd_def (e f s n : Int) : bnd e f s n = if n ≤ e then 1 else if n ≤ f then 2 else 3 := rfl
theorem hld_def (e f s was n : Int) : hld e f s was n = if was = 1 ∧ n ≤ e + s then 1 else if was = 3 ∧ f - s < n then 3 else bnd e f s n := rfl

set_option maxHeartbeats 8000000 in
set_option maxRecDepth 100000 in
theorem loadKnown_true (w : World) : Calls Try.prog 7 #[] w fun e w' => e = .returned (.bool true) ∧ Below w.heap.size w w' := by
  have r1 : Hid (chgOut 50 600 20 [0, 70, 71, 601, 581, 580] = [2, 3, 5]) := Lib.hid (by decide)
  have r2 : Hid (runErr 50 600 20 [0, 70, 71, 601, 581, 580] = 0) := Lib.hid (by decide)
  have t1 : totV [80, 75] = 155 := by decide
  have t2 : totE [80, 75] = 0 := by decide
  have t3 : totV [] = 0 := by decide
  have t4 : totE [] = 0 := by decide
  have t5 : totE [9999, 2] = 14 := by decide
  have d1 := chk_def
  have d2 := chl_def
  have d3 := bnd_def
  have d4 := hld_def
  have d5 := bandV_def
  have d6 := heldE_def
  have d7 := heldV_def
  have d8 := tareE_def
  have d9 := tareV_def
  have d10 := fitE_def
  have d11 := fitV_def
  go_enter Try.func7, Try.ntmps7
  go_wp2_with (first | (go_at_call 11; (apply Calls.mono; (focus ((first | (with_reducible exact pBand _ _ _ _ _ i64_lit i64_lit i64_lit) | (apply pBand _ _ _ _ _ i64_lit i64_lit i64_lit <;> first | (with_reducible assumption) | (first | omega | (simp only [Bool.not_eq_true', Bool.not_eq_false', beq_iff_eq, beq_eq_false_iff_ne, ne_eq, bne_iff_ne, bne_eq_false_iff_eq, Bool.not_eq_true, Bool.not_eq_false, decide_eq_true_eq, decide_eq_false_iff_not, Bool.and_eq_true, Bool.or_eq_true] at *; omega) | (simp only [Bool.not_eq_true', Bool.not_eq_false', beq_iff_eq, beq_eq_false_iff_ne, ne_eq, bne_iff_ne, bne_eq_false_iff_eq, Bool.not_eq_true, Bool.not_eq_false, decide_eq_true_eq, decide_eq_false_iff_not, Bool.and_eq_true, Bool.or_eq_true, wrap64] at *; omega)))); done))); rintro e w' ⟨rfl, hb⟩; obtain ⟨hc, hf⟩ := bcell (show Below w.heap.size w w' from (by repeat (first | exact Below.refl _ _ | apply keep_alloc | apply keep_drew | apply keep_drewN | refine keep_step (by assumption) ?_ (by rfl))))) | (go_at_call 13; (apply Calls.mono; (focus ((first | (with_reducible exact pHeld _ _ _ _ _ _ i64_lit i64_lit i64_lit) | (apply pHeld _ _ _ _ _ _ i64_lit i64_lit i64_lit <;> first | (with_reducible assumption) | (first | omega | (simp only [Bool.not_eq_true', Bool.not_eq_false', beq_iff_eq, beq_eq_false_iff_ne, ne_eq, bne_iff_ne, bne_eq_false_iff_eq, Bool.not_eq_true, Bool.not_eq_false, decide_eq_true_eq, decide_eq_false_iff_not, Bool.and_eq_true, Bool.or_eq_true] at *; omega) | (simp only [Bool.not_eq_true', Bool.not_eq_false', beq_iff_eq, beq_eq_false_iff_ne, ne_eq, bne_iff_ne, bne_eq_false_iff_eq, Bool.not_eq_true, Bool.not_eq_false, decide_eq_true_eq, decide_eq_false_iff_not, Bool.and_eq_true, Bool.or_eq_true, wrap64] at *; omega)))); done))); rintro e w' ⟨rfl, hb⟩; obtain ⟨hc, hf⟩ := bcell (show Below w.heap.size w w' from (by repeat (first | exact Below.refl _ _ | apply keep_alloc | apply keep_drew | apply keep_drewN | refine keep_step (by assumption) ?_ (by rfl))))) | (go_at_call 30; go_in) | (go_at_call 31; go_in) | (go_at_call 32; go_in))
  apply Calls.mono
  focus
    refine pchanges 50 600 20 _ 6 6 [0, 70, 71, 601, 581, 580] _ i64_lit i64_lit i64_lit rfl (by decide) ?_
    exact ints_new _ (by simp) (by rfl)
  rintro _ w1 ⟨A1, c1, rfl, hi1, hl1, hb1⟩
  rw [r1.out] at hi1
  rw [r1.out, r2.out]
  simp only [List.length_cons, List.length_nil]
  go_wp2_with fail
  apply Calls.mono
  focus
    refine pTotal _ 2 2 [80, 75] _ rfl (by decide) ?_
    exact ints_new _ (by simp) (by rfl)
  rintro _ w2 ⟨rfl, hb2⟩
  go_wp2_with fail
  refine (pTotal none 0 0 [] _ rfl (by decide) (.inl rfl)).mono ?_
  rintro _ w3 ⟨rfl, hb3⟩
  go_wp2_with fail
  apply Calls.mono
  focus
    refine pTotal _ 2 2 [9999, 2] _ rfl (by decide) ?_
    exact ints_new _ (by simp) (by rfl)
  rintro _ w4 ⟨rfl, hb4⟩
  go_wp2_with (first | (go_at_call 26; (apply Calls.mono; (focus ((first | (with_reducible exact pTare) | (apply pTare <;> first | (with_reducible assumption) | (first | omega | (simp only [Bool.not_eq_true', Bool.not_eq_false', beq_iff_eq, beq_eq_false_iff_ne, ne_eq, bne_iff_ne, bne_eq_false_iff_eq, Bool.not_eq_true, Bool.not_eq_false, decide_eq_true_eq, decide_eq_false_iff_not, Bool.and_eq_true, Bool.or_eq_true] at *; omega) | (simp only [Bool.not_eq_true', Bool.not_eq_false', beq_iff_eq, beq_eq_false_iff_ne, ne_eq, bne_iff_ne, bne_eq_false_iff_eq, Bool.not_eq_true, Bool.not_eq_false, decide_eq_true_eq, decide_eq_false_iff_not, Bool.and_eq_true, Bool.or_eq_true, wrap64] at *; omega)))); done))); rintro e w' ⟨rfl, hb⟩; obtain ⟨hc, hf⟩ := bcell (show Below w.heap.size w w' from (by repeat (first | exact Below.refl _ _ | apply keep_alloc | apply keep_drew | apply keep_drewN | refine keep_step (by assumption) ?_ (by rfl))))))
  apply Calls.mono
  focus
    refine sameInts_same _ _ [2, 3, 5] 3 _ _ _ rfl (by decide) ?_ ?_
    · exact hi1.step (by repeat (first | exact Below.refl _ _ | apply keep_alloc | apply keep_drew | apply keep_drewN | refine keep_step (by assumption) ?_ (by rfl)))
    · exact ints_new _ (by simp) (by rfl)
  rintro _ w5 ⟨rfl, hb5⟩
  go_wp2_with (first | (go_at_call 28; (apply Calls.mono; (focus ((first | (with_reducible exact pFit _ _ _ _ _ _ i64_lit i64_lit i64_lit) | (apply pFit _ _ _ _ _ _ i64_lit i64_lit i64_lit <;> first | (with_reducible assumption) | (first | omega | (simp only [Bool.not_eq_true', Bool.not_eq_false', beq_iff_eq, beq_eq_false_iff_ne, ne_eq, bne_iff_ne, bne_eq_false_iff_eq, Bool.not_eq_true, Bool.not_eq_false, decide_eq_true_eq, decide_eq_false_iff_not, Bool.and_eq_true, Bool.or_eq_true] at *; omega) | (simp only [Bool.not_eq_true', Bool.not_eq_false', beq_iff_eq, beq_eq_false_iff_ne, ne_eq, bne_iff_ne, bne_eq_false_iff_eq, Bool.not_eq_true, Bool.not_eq_false, decide_eq_true_eq, decide_eq_false_iff_not, Bool.and_eq_true, Bool.or_eq_true, wrap64] at *; omega)))); done))); rintro e w' ⟨rfl, hb⟩; obtain ⟨hc, hf⟩ := bcell (show Below w.heap.size w w' from (by repeat (first | exact Below.refl _ _ | apply keep_alloc | apply keep_drew | apply keep_drewN | refine keep_step (by assumption) ?_ (by rfl))))) | (go_at_call 15; (apply Calls.mono; (focus ((first | (with_reducible exact pchk _ _ _ _ i64_lit i64_lit i64_lit) | (apply pchk _ _ _ _ i64_lit i64_lit i64_lit <;> first | (with_reducible assumption) | (first | omega | (simp only [Bool.not_eq_true', Bool.not_eq_false', beq_iff_eq, beq_eq_false_iff_ne, ne_eq, bne_iff_ne, bne_eq_false_iff_eq, Bool.not_eq_true, Bool.not_eq_false, decide_eq_true_eq, decide_eq_false_iff_not, Bool.and_eq_true, Bool.or_eq_true] at *; omega) | (simp only [Bool.not_eq_true', Bool.not_eq_false', beq_iff_eq, beq_eq_false_iff_ne, ne_eq, bne_iff_ne, bne_eq_false_iff_eq, Bool.not_eq_true, Bool.not_eq_false, decide_eq_true_eq, decide_eq_false_iff_not, Bool.and_eq_true, Bool.or_eq_true, wrap64] at *; omega)))); done))); rintro e w' ⟨rfl, hb⟩; obtain ⟨hc, hf⟩ := bcell (show Below w.heap.size w w' from (by repeat (first | exact Below.refl _ _ | apply keep_alloc | apply keep_drew | apply keep_drewN | refine keep_step (by assumption) ?_ (by rfl))))) | (go_at_call 17; (apply Calls.mono; (focus ((first | (with_reducible exact awake_true) | (apply awake_true <;> first | (with_reducible assumption) | (first | omega | (simp only [Bool.not_eq_true', Bool.not_eq_false', beq_iff_eq, beq_eq_false_iff_ne, ne_eq, bne_iff_ne, bne_eq_false_iff_eq, Bool.not_eq_true, Bool.not_eq_false, decide_eq_true_eq, decide_eq_false_iff_not, Bool.and_eq_true, Bool.or_eq_true] at *; omega) | (simp only [Bool.not_eq_true', Bool.not_eq_false', beq_iff_eq, beq_eq_false_iff_ne, ne_eq, bne_iff_ne, bne_eq_false_iff_eq, Bool.not_eq_true, Bool.not_eq_false, decide_eq_true_eq, decide_eq_false_iff_not, Bool.and_eq_true, Bool.or_eq_true, wrap64] at *; omega)))); done))); rintro e w' ⟨rfl, hb⟩; obtain ⟨hc, hf⟩ := bcell (show Below w.heap.size w w' from (by repeat (first | exact Below.refl _ _ | apply keep_alloc | apply keep_drew | apply keep_drewN | refine keep_step (by assumption) ?_ (by rfl))))) | (go_at_call 30; go_in))
  go_ret
  exact ⟨rfl, (by repeat (first | exact Below.refl _ _ | apply keep_alloc | apply keep_drew | apply keep_drewN | refine keep_step (by assumption) ?_ (by rfl)))⟩
end Go.Proofs.Ytfpeojpligkbjaa
