/- Layer 11. -/
import Derived.Test.YtfpeojpligkbjaaA
namespace Go.Proofs.Ytfpeojpligkbjaa
open Go.RowKit
set_option linter.unusedVariables false

theorem pcheck (e f s n : Int) (w : World) (he : In64 e) (hf : In64 f) (hs : In64 s) :
    Calls Try.prog 35 #[(.agg #[.int .i64 e, .int .i64 f, .int .i64 s]), .int .i64 n] w fun x w' => x = .returned (.int .i64 (chl e f s n)) ∧ Below w.heap.size w w' := by
  go_enter Try.func35, Try.ntmps35
  go_wp2_with (first | (go_at_call 15; (apply Calls.mono; (focus ((first | (with_reducible exact pchk) | (apply pchk <;> first | (with_reducible assumption) | (first | omega | (simp only [Bool.not_eq_true', Bool.not_eq_false', beq_iff_eq, beq_eq_false_iff_ne, ne_eq, bne_iff_ne, bne_eq_false_iff_eq, Bool.not_eq_true, Bool.not_eq_false, decide_eq_true_eq, decide_eq_false_iff_not, Bool.and_eq_true, Bool.or_eq_true] at *; omega) | (simp only [Bool.not_eq_true', Bool.not_eq_false', beq_iff_eq, beq_eq_false_iff_ne, ne_eq, bne_iff_ne, bne_eq_false_iff_eq, Bool.not_eq_true, Bool.not_eq_false, decide_eq_true_eq, decide_eq_false_iff_not, Bool.and_eq_true, Bool.or_eq_true, wrap64] at *; omega)))); done))); rintro e w' ⟨rfl, hb⟩; obtain ⟨hc, hf⟩ := bcell (show Below w.heap.size w w' from (by repeat (first | exact Below.refl _ _ | apply keep_alloc | apply keep_drew | apply keep_drewN | refine keep_step (by assumption) ?_ (by rfl))))) | go_in)
  all_goals go_ret
  all_goals (refine ⟨ret_int ?_, (by repeat (first | exact Below.refl _ _ | apply keep_alloc | apply keep_drew | apply keep_drewN | refine keep_step (by assumption) ?_ (by rfl)))⟩)
  all_goals (simp only [chl])
  all_goals (first | omega | (simp only [Bool.not_eq_true', Bool.not_eq_false', beq_iff_eq, beq_eq_false_iff_ne, ne_eq, bne_iff_ne, bne_eq_false_iff_eq, Bool.not_eq_true, Bool.not_eq_false, decide_eq_true_eq, decide_eq_false_iff_not, Bool.and_eq_true, Bool.or_eq_true] at *; omega) | (simp only [Bool.not_eq_true', Bool.not_eq_false', beq_iff_eq, beq_eq_false_iff_ne, ne_eq, bne_iff_ne, bne_eq_false_iff_eq, Bool.not_eq_true, Bool.not_eq_false, decide_eq_true_eq, decide_eq_false_iff_not, Bool.and_eq_true, Bool.or_eq_true, wrap64] at *; omega))

theorem pbandOf (e f s n : Int) (w : World) :
    Calls Try.prog 36 #[(.agg #[.int .i64 e, .int .i64 f, .int .i64 s]), .int .i64 n] w fun x w' => x = .returned (.int .i64 (bnd e f s n)) ∧ Below w.heap.size w w' := by
  go_enter Try.func36, Try.ntmps36
  go_wp2
  all_goals go_ret
  all_goals (refine ⟨ret_int ?_, (by repeat (first | exact Below.refl _ _ | apply keep_alloc | apply keep_drew | apply keep_drewN | refine keep_step (by assumption) ?_ (by rfl)))⟩)
  all_goals (simp only [bnd]; omega)

theorem rband (e f s n : Int) (w : World) :
    Calls Try.prog 38 #[(.agg #[.int .i64 e, .int .i64 f, .int .i64 s]), .int .i64 n] w fun x w' => x = .returned (.int .i64 (bnd e f s n)) ∧ Below w.heap.size w w' := by
  go_enter Try.func38, Try.ntmps38
  go_wp2
  all_goals go_ret
  all_goals (refine ⟨ret_int ?_, (by repeat (first | exact Below.refl _ _ | apply keep_alloc | apply keep_drew | apply keep_drewN | refine keep_step (by assumption) ?_ (by rfl)))⟩)
  all_goals (simp only [bnd]; omega)

def Nice (e f s : Int) : Prop := 0 ≤ e ∧ 0 ≤ s ∧ f ≤ 10000 ∧ 0 ≤ f ∧ e ≤ 10000 ∧ s ≤ 10000 ∧ e + s < f - s
theorem nice_of {e f s : Int} (h : chk e f s = 0) : Nice e f s := by unfold chk at h; unfold Nice; omega
theorem nice_of_chl {e f s n : Int} (h : chl e f s n = 0) : Nice e f s ∧ 0 ≤ n ∧ n ≤ 10000 := by
  unfold chl at h; unfold Nice; unfold chk at h; omega

theorem pheld (e f s was n : Int) (w : World) (hn : Nice e f s) (hw : 1 ≤ was ∧ was ≤ 3) :
    Calls Try.prog 40 #[(.agg #[.int .i64 e, .int .i64 f, .int .i64 s]), .int .i64 was, .int .i64 n] w fun x w' => x = .returned (.int .i64 (hld e f s was n)) ∧ Below w.heap.size w w' := by
  obtain ⟨h1, h2, h3, h4, h5, h6, h7⟩ := hn
  obtain ⟨hw1, hw2⟩ := hw
  go_enter Try.func40, Try.ntmps40
  go_wp2_with (first | (go_at_call 36; (apply Calls.mono; (focus ((first | (with_reducible exact pbandOf) | (apply pbandOf <;> first | (with_reducible assumption) | (first | omega | (simp only [Bool.not_eq_true', Bool.not_eq_false', beq_iff_eq, beq_eq_false_iff_ne, ne_eq, bne_iff_ne, bne_eq_false_iff_eq, Bool.not_eq_true, Bool.not_eq_false, decide_eq_true_eq, decide_eq_false_iff_not, Bool.and_eq_true, Bool.or_eq_true] at *; omega) | (simp only [Bool.not_eq_true', Bool.not_eq_false', beq_iff_eq, beq_eq_false_iff_ne, ne_eq, bne_iff_ne, bne_eq_false_iff_eq, Bool.not_eq_true, Bool.not_eq_false, decide_eq_true_eq, decide_eq_false_iff_not, Bool.and_eq_true, Bool.or_eq_true, wrap64] at *; omega)))); done))); rintro e w' ⟨rfl, hb⟩; obtain ⟨hc, hf⟩ := bcell (show Below w.heap.size w w' from (by repeat (first | exact Below.refl _ _ | apply keep_alloc | apply keep_drew | apply keep_drewN | refine keep_step (by assumption) ?_ (by rfl))))) | go_in)
  all_goals go_ret
  all_goals (refine ⟨ret_int ?_, (by repeat (first | exact Below.refl _ _ | apply keep_alloc | apply keep_drew | apply keep_drewN | refine keep_step (by assumption) ?_ (by rfl)))⟩)
  all_goals (simp only [hld])
  all_goals (first | omega | (simp only [Bool.not_eq_true', Bool.not_eq_false', beq_iff_eq, beq_eq_false_iff_ne, ne_eq, bne_iff_ne, bne_eq_false_iff_eq, Bool.not_eq_true, Bool.not_eq_false, decide_eq_true_eq, decide_eq_false_iff_not, Bool.and_eq_true, Bool.or_eq_true] at *; omega) | (simp only [Bool.not_eq_true', Bool.not_eq_false', beq_iff_eq, beq_eq_false_iff_ne, ne_eq, bne_iff_ne, bne_eq_false_iff_eq, Bool.not_eq_true, Bool.not_eq_false, decide_eq_true_eq, decide_eq_false_iff_not, Bool.and_eq_true, Bool.or_eq_true, wrap64] at *; omega))

theorem rheld (e f s was n : Int) (w : World) (hn : Nice e f s) :
    Calls Try.prog 41 #[(.agg #[.int .i64 e, .int .i64 f, .int .i64 s]), .int .i64 was, .int .i64 n] w fun x w' => x = .returned (.int .i64 (hld e f s was n)) ∧ Below w.heap.size w w' := by
  obtain ⟨h1, h2, h3, h4, h5, h6, h7⟩ := hn
  go_enter Try.func41, Try.ntmps41
  go_wp2_with (first | (go_at_call 38; (apply Calls.mono; (focus ((first | (with_reducible exact rband) | (apply rband <;> first | (with_reducible assumption) | (first | omega | (simp only [Bool.not_eq_true', Bool.not_eq_false', beq_iff_eq, beq_eq_false_iff_ne, ne_eq, bne_iff_ne, bne_eq_false_iff_eq, Bool.not_eq_true, Bool.not_eq_false, decide_eq_true_eq, decide_eq_false_iff_not, Bool.and_eq_true, Bool.or_eq_true] at *; omega) | (simp only [Bool.not_eq_true', Bool.not_eq_false', beq_iff_eq, beq_eq_false_iff_ne, ne_eq, bne_iff_ne, bne_eq_false_iff_eq, Bool.not_eq_true, Bool.not_eq_false, decide_eq_true_eq, decide_eq_false_iff_not, Bool.and_eq_true, Bool.or_eq_true, wrap64] at *; omega)))); done))); rintro e w' ⟨rfl, hb⟩; obtain ⟨hc, hf⟩ := bcell (show Below w.heap.size w w' from (by repeat (first | exact Below.refl _ _ | apply keep_alloc | apply keep_drew | apply keep_drewN | refine keep_step (by assumption) ?_ (by rfl))))) | go_in)
  all_goals go_ret
  all_goals (refine ⟨ret_int ?_, (by repeat (first | exact Below.refl _ _ | apply keep_alloc | apply keep_drew | apply keep_drewN | refine keep_step (by assumption) ?_ (by rfl)))⟩)
  all_goals (simp only [hld])
  all_goals (first | omega | (simp only [Bool.not_eq_true', Bool.not_eq_false', beq_iff_eq, beq_eq_false_iff_ne, ne_eq, bne_iff_ne, bne_eq_false_iff_eq, Bool.not_eq_true, Bool.not_eq_false, decide_eq_true_eq, decide_eq_false_iff_not, Bool.and_eq_true, Bool.or_eq_true] at *; omega) | (simp only [Bool.not_eq_true', Bool.not_eq_false', beq_iff_eq, beq_eq_false_iff_ne, ne_eq, bne_iff_ne, bne_eq_false_iff_eq, Bool.not_eq_true, Bool.not_eq_false, decide_eq_true_eq, decide_eq_false_iff_not, Bool.and_eq_true, Bool.or_eq_true, wrap64] at *; omega))
end Go.Proofs.Ytfpeojpligkbjaa
