/- Layer 11: the laws' own functions. -/
import Derived.Test.YtfpeojpligkbjaaL
import Derived.Test.YtfpeojpligkbjaaH
namespace Go.Proofs.Ytfpeojpligkbjaa
open Go.RowKit
set_option linter.unusedVariables false

theorem ints_new (w : World) {b : Nat} {xs : List Int} {cs : Array Value} (hb : b = w.heap.size) (h : cs.toList = xs.map (Value.int .i64)) : Ints (w.alloc (.cells cs 3)) (some ⟨b, 0, none⟩) xs := by
  subst hb
  refine .inr ⟨_, _, rfl, fun i hi => ?_⟩
  rw [World.cell?_alloc_at _ _ _ _ rfl]
  have h1 : cs.toList[0 + i]? = some (.int .i64 (nth xs i)) := by rw [h, nth_eq hi]; simp [hi]
  simpa using h1

def rl : Value := .agg #[.int .i64 50, .int .i64 600, .int .i64 20]
theorem i64_lit {n : Int} (h : decide (-9223372036854775808 ≤ n ∧ n ≤ 9223372036854775807) = true := by decide) : In64 n := by simpa [In64] using h

set_option maxHeartbeats 4000000 in
theorem awake_true (w : World) : Calls Try.prog 17 #[] w fun e w' => e = .returned (.bool true) ∧ Below w.heap.size w w' := by
  have b1 : bandV 50 600 20 51 = 2 := by decide
  have b2 : chl 50 600 20 51 = 0 := by decide
  have h1 : heldV 50 600 20 1 70 = 1 := by decide
  have h2 : heldE 50 600 20 1 70 = 0 := by decide
  have f1 : fitV 50 600 20 0 80 = 7 := by decide
  have f2 : fitE 50 600 20 0 80 = 0 := by decide
  have r1 : runOut 50 600 20 [0, 70, 71, 601, 581, 580] = [1, 1, 2, 3, 3, 2] := by decide
  have r2 : runErr 50 600 20 [0, 70, 71, 601, 581, 580] = 0 := by decide
  have R1 := Lib.hid r1
  have R2 := Lib.hid r2
  clear r1 r2
  go_enter Try.func17, Try.ntmps17
  go_wp2_with (first | (go_at_call 30; go_in))
  apply Calls.mono
  focus
    refine prun 50 600 20 _ 6 6 [0, 70, 71, 601, 581, 580] _ ⟨by decide, by decide⟩ ⟨by decide, by decide⟩ ⟨by decide, by decide⟩ rfl (by decide) ?_
    exact ints_new _ (by simp) (by rfl)
  rintro _ w1 ⟨A1, c1, rfl, hi1, hl1, hb1⟩
  rw [R1.out] at hi1
  rw [R1.out, R2.out]
  simp only [List.length_cons, List.length_nil]
  go_wp2_with (first | (go_at_call 28; (apply Calls.mono; (focus ((first | (with_reducible exact pFit 50 600 20 0 80 _ i64_lit i64_lit i64_lit) | (apply pFit 50 600 20 0 80 _ i64_lit i64_lit i64_lit <;> first | (with_reducible assumption) | (first | omega | (simp only [Bool.not_eq_true', Bool.not_eq_false', beq_iff_eq, beq_eq_false_iff_ne, ne_eq, bne_iff_ne, bne_eq_false_iff_eq, Bool.not_eq_true, Bool.not_eq_false, decide_eq_true_eq, decide_eq_false_iff_not, Bool.and_eq_true, Bool.or_eq_true] at *; omega) | (simp only [Bool.not_eq_true', Bool.not_eq_false', beq_iff_eq, beq_eq_false_iff_ne, ne_eq, bne_iff_ne, bne_eq_false_iff_eq, Bool.not_eq_true, Bool.not_eq_false, decide_eq_true_eq, decide_eq_false_iff_not, Bool.and_eq_true, Bool.or_eq_true, wrap64] at *; omega)))); done))); rintro e w' ⟨rfl, hb⟩; obtain ⟨hc, hf⟩ := bcell (show Below w.heap.size w w' from (by repeat (first | exact Below.refl _ _ | apply keep_alloc | apply keep_drew | apply keep_drewN | refine keep_step (by assumption) ?_ (by rfl))))) | (go_at_call 11; (apply Calls.mono; (focus ((first | (with_reducible exact pBand 50 600 20 51 _ i64_lit i64_lit i64_lit) | (apply pBand 50 600 20 51 _ i64_lit i64_lit i64_lit <;> first | (with_reducible assumption) | (first | omega | (simp only [Bool.not_eq_true', Bool.not_eq_false', beq_iff_eq, beq_eq_false_iff_ne, ne_eq, bne_iff_ne, bne_eq_false_iff_eq, Bool.not_eq_true, Bool.not_eq_false, decide_eq_true_eq, decide_eq_false_iff_not, Bool.and_eq_true, Bool.or_eq_true] at *; omega) | (simp only [Bool.not_eq_true', Bool.not_eq_false', beq_iff_eq, beq_eq_false_iff_ne, ne_eq, bne_iff_ne, bne_eq_false_iff_eq, Bool.not_eq_true, Bool.not_eq_false, decide_eq_true_eq, decide_eq_false_iff_not, Bool.and_eq_true, Bool.or_eq_true, wrap64] at *; omega)))); done))); rintro e w' ⟨rfl, hb⟩; obtain ⟨hc, hf⟩ := bcell (show Below w.heap.size w w' from (by repeat (first | exact Below.refl _ _ | apply keep_alloc | apply keep_drew | apply keep_drewN | refine keep_step (by assumption) ?_ (by rfl))))) | (go_at_call 13; (apply Calls.mono; (focus ((first | (with_reducible exact pHeld 50 600 20 1 70 _ i64_lit i64_lit i64_lit) | (apply pHeld 50 600 20 1 70 _ i64_lit i64_lit i64_lit <;> first | (with_reducible assumption) | (first | omega | (simp only [Bool.not_eq_true', Bool.not_eq_false', beq_iff_eq, beq_eq_false_iff_ne, ne_eq, bne_iff_ne, bne_eq_false_iff_eq, Bool.not_eq_true, Bool.not_eq_false, decide_eq_true_eq, decide_eq_false_iff_not, Bool.and_eq_true, Bool.or_eq_true] at *; omega) | (simp only [Bool.not_eq_true', Bool.not_eq_false', beq_iff_eq, beq_eq_false_iff_ne, ne_eq, bne_iff_ne, bne_eq_false_iff_eq, Bool.not_eq_true, Bool.not_eq_false, decide_eq_true_eq, decide_eq_false_iff_not, Bool.and_eq_true, Bool.or_eq_true, wrap64] at *; omega)))); done))); rintro e w' ⟨rfl, hb⟩; obtain ⟨hc, hf⟩ := bcell (show Below w.heap.size w w' from (by repeat (first | exact Below.refl _ _ | apply keep_alloc | apply keep_drew | apply keep_drewN | refine keep_step (by assumption) ?_ (by rfl))))) | (go_at_call 30; go_in) | (go_at_call 31; go_in) | (go_at_call 32; go_in))
  apply Calls.mono
  focus
    refine sameInts_eq _ _ [1, 1, 2, 3, 3, 2] [1, 1, 2, 3, 3, 2] 6 _ _ _ rfl rfl (by decide) ?_ ?_
    · exact hi1.step (by repeat (first | exact Below.refl _ _ | apply keep_alloc | apply keep_drew | apply keep_drewN | refine keep_step (by assumption) ?_ (by rfl)))
    · exact ints_new _ (by simp) (by rfl)
  rintro _ w2 ⟨rfl, hb2⟩
  simp only [decide_true]
  go_wp2
  go_ret
  exact ⟨rfl, (by repeat (first | exact Below.refl _ _ | apply keep_alloc | apply keep_drew | apply keep_drewN | refine keep_step (by assumption) ?_ (by rfl)))⟩
end Go.Proofs.Ytfpeojpligkbjaa
