/- Layer 11: Band, Held, Tare, Fit. -/
import Derived.Test.YtfpeojpligkbjaaF
namespace Go.Proofs.Ytfpeojpligkbjaa
open Go.RowKit
set_option linter.unusedVariables false

/-- a number and an error come back -/
def Out2 (v err : Int) (w : World) (e : Ending) (w' : World) : Prop := e = .returned (.tuple #[.int .i64 v, .int .i64 err]) ∧ Below w.heap.size w w'
theorem out2 {v v' err err' : Int} {w w' : World} (h1 : v = v') (h2 : err = err') (hb : Below w.heap.size w w') : Out2 v' err' w (.returned (.tuple #[.int .i64 v, .int .i64 err])) w' := by
  subst h1; subst h2; exact ⟨rfl, hb⟩

def bandV (e f s n : Int) : Int := if chl e f s n = 0 then bnd e f s n else 0
def heldE (e f s was n : Int) : Int := if chl e f s n = 0 then if 1 ≤ was ∧ was ≤ 3 then 0 else 11 else chl e f s n
def heldV (e f s was n : Int) : Int := if heldE e f s was n = 0 then hld e f s was n else 0
def tareE (n by' : Int) : Int := if 0 ≤ n ∧ n ≤ 10000 ∧ 0 ≤ by' ∧ by' ≤ 10000 then 0 else 2
def tareV (n by' : Int) : Int := if tareE n by' = 0 then (if n < by' then 0 else n - by') else 0
def fitE (e f s n p : Int) : Int := if chl e f s n = 0 then if 1 ≤ p ∧ p ≤ 10000 then 0 else 2 else chl e f s n
def fitV (e f s n p : Int) : Int := if fitE e f s n p = 0 then (if f - n < 0 then 0 else (f - n) / p) else 0

theorem chl_def (e f s n : Int) : chl e f s n = if chk e f s = 0 then if n < 0 ∨ 10000 < n then 2 else 0 else chk e f s := rfl
theorem bandV_def (e f s n : Int) : bandV e f s n = if chl e f s n = 0 then bnd e f s n else 0 := rfl
theorem heldE_def (e f s was n : Int) : heldE e f s was n = if chl e f s n = 0 then if 1 ≤ was ∧ was ≤ 3 then 0 else 11 else chl e f s n := rfl
theorem heldV_def (e f s was n : Int) : heldV e f s was n = if heldE e f s was n = 0 then hld e f s was n else 0 := rfl
theorem tareE_def (n by' : Int) : tareE n by' = if 0 ≤ n ∧ n ≤ 10000 ∧ 0 ≤ by' ∧ by' ≤ 10000 then 0 else 2 := rfl
theorem tareV_def (n by' : Int) : tareV n by' = if tareE n by' = 0 then (if n < by' then 0 else n - by') else 0 := rfl
theorem fitE_def (e f s n p : Int) : fitE e f s n p = if chl e f s n = 0 then if 1 ≤ p ∧ p ≤ 10000 then 0 else 2 else chl e f s n := rfl
theorem fitV_def (e f s n p : Int) : fitV e f s n p = if fitE e f s n p = 0 then (if f - n < 0 then 0 else (f - n) / p) else 0 := rfl

theorem pBand (e f s n : Int) (w : World) (he : In64 e) (hf : In64 f) (hs : In64 s) :
    Calls Try.prog 11 #[(.agg #[.int .i64 e, .int .i64 f, .int .i64 s]), .int .i64 n] w (Out2 (bandV e f s n) (chl e f s n) w) := by
  go_enter Try.func11, Try.ntmps11
  go_wp2_with (first | (go_at_call 35; (apply Calls.mono; (focus ((first | (with_reducible exact pcheck) | (apply pcheck <;> first | (with_reducible assumption) | (first | omega | (simp only [Bool.not_eq_true', Bool.not_eq_false', beq_iff_eq, beq_eq_false_iff_ne, ne_eq, bne_iff_ne, bne_eq_false_iff_eq, Bool.not_eq_true, Bool.not_eq_false, decide_eq_true_eq, decide_eq_false_iff_not, Bool.and_eq_true, Bool.or_eq_true] at *; omega) | (simp only [Bool.not_eq_true', Bool.not_eq_false', beq_iff_eq, beq_eq_false_iff_ne, ne_eq, bne_iff_ne, bne_eq_false_iff_eq, Bool.not_eq_true, Bool.not_eq_false, decide_eq_true_eq, decide_eq_false_iff_not, Bool.and_eq_true, Bool.or_eq_true, wrap64] at *; omega)))); done))); rintro e w' ⟨rfl, hb⟩; obtain ⟨hc, hf⟩ := bcell (show Below w.heap.size w w' from (by repeat (first | exact Below.refl _ _ | apply keep_alloc | apply keep_drew | apply keep_drewN | refine keep_step (by assumption) ?_ (by rfl)))); obtain ⟨hx0, hx1, hx2⟩ := box3 (show Below (w.alloc (.cells #[.int .i64 e, .int .i64 f, .int .i64 s] 23)).heap.size (w.alloc (.cells #[.int .i64 e, .int .i64 f, .int .i64 s] 23)) w' from (by repeat (first | exact Below.refl _ _ | apply keep_alloc | apply keep_drew | apply keep_drewN | refine keep_step (by assumption) ?_ (by rfl))))) | (go_at_call 36; (apply Calls.mono; (focus ((first | (with_reducible exact pbandOf) | (apply pbandOf <;> first | (with_reducible assumption) | (first | omega | (simp only [Bool.not_eq_true', Bool.not_eq_false', beq_iff_eq, beq_eq_false_iff_ne, ne_eq, bne_iff_ne, bne_eq_false_iff_eq, Bool.not_eq_true, Bool.not_eq_false, decide_eq_true_eq, decide_eq_false_iff_not, Bool.and_eq_true, Bool.or_eq_true] at *; omega) | (simp only [Bool.not_eq_true', Bool.not_eq_false', beq_iff_eq, beq_eq_false_iff_ne, ne_eq, bne_iff_ne, bne_eq_false_iff_eq, Bool.not_eq_true, Bool.not_eq_false, decide_eq_true_eq, decide_eq_false_iff_not, Bool.and_eq_true, Bool.or_eq_true, wrap64] at *; omega)))); done))); rintro e w' ⟨rfl, hb⟩; obtain ⟨hc, hf⟩ := bcell (show Below w.heap.size w w' from (by repeat (first | exact Below.refl _ _ | apply keep_alloc | apply keep_drew | apply keep_drewN | refine keep_step (by assumption) ?_ (by rfl)))); obtain ⟨hx0, hx1, hx2⟩ := box3 (show Below (w.alloc (.cells #[.int .i64 e, .int .i64 f, .int .i64 s] 23)).heap.size (w.alloc (.cells #[.int .i64 e, .int .i64 f, .int .i64 s] 23)) w' from (by repeat (first | exact Below.refl _ _ | apply keep_alloc | apply keep_drew | apply keep_drewN | refine keep_step (by assumption) ?_ (by rfl))))) | go_in)
  all_goals go_ret2
  all_goals (refine out2 ?_ ?_ (by repeat (first | exact Below.refl _ _ | apply keep_alloc | apply keep_drew | apply keep_drewN | refine keep_step (by assumption) ?_ (by rfl))))
  all_goals (have hdef := And.intro (bandV_def e f s n) (trivial); (first | omega | (simp only [Bool.not_eq_true', Bool.not_eq_false', beq_iff_eq, beq_eq_false_iff_ne, ne_eq, bne_iff_ne, bne_eq_false_iff_eq, Bool.not_eq_true, Bool.not_eq_false, decide_eq_true_eq, decide_eq_false_iff_not, Bool.and_eq_true, Bool.or_eq_true] at *; omega) | (simp only [Bool.not_eq_true', Bool.not_eq_false', beq_iff_eq, beq_eq_false_iff_ne, ne_eq, bne_iff_ne, bne_eq_false_iff_eq, Bool.not_eq_true, Bool.not_eq_false, decide_eq_true_eq, decide_eq_false_iff_not, Bool.and_eq_true, Bool.or_eq_true, wrap64] at *; omega)))

theorem rBand (e f s n : Int) (w : World) (he : In64 e) (hf : In64 f) (hs : In64 s) :
    Calls Try.prog 12 #[(.agg #[.int .i64 e, .int .i64 f, .int .i64 s]), .int .i64 n] w (Out2 (bandV e f s n) (chl e f s n) w) := by
  go_enter Try.func12, Try.ntmps12
  go_wp2_with (first | (go_at_call 16; (apply Calls.mono; (focus ((first | (with_reducible exact rchk) | (apply rchk <;> first | (with_reducible assumption) | (first | omega | (simp only [Bool.not_eq_true', Bool.not_eq_false', beq_iff_eq, beq_eq_false_iff_ne, ne_eq, bne_iff_ne, bne_eq_false_iff_eq, Bool.not_eq_true, Bool.not_eq_false, decide_eq_true_eq, decide_eq_false_iff_not, Bool.and_eq_true, Bool.or_eq_true] at *; omega) | (simp only [Bool.not_eq_true', Bool.not_eq_false', beq_iff_eq, beq_eq_false_iff_ne, ne_eq, bne_iff_ne, bne_eq_false_iff_eq, Bool.not_eq_true, Bool.not_eq_false, decide_eq_true_eq, decide_eq_false_iff_not, Bool.and_eq_true, Bool.or_eq_true, wrap64] at *; omega)))); done))); rintro e w' ⟨rfl, hb⟩; obtain ⟨hc, hf⟩ := bcell (show Below w.heap.size w w' from (by repeat (first | exact Below.refl _ _ | apply keep_alloc | apply keep_drew | apply keep_drewN | refine keep_step (by assumption) ?_ (by rfl)))); obtain ⟨hx0, hx1, hx2⟩ := box3 (show Below (w.alloc (.cells #[.int .i64 e, .int .i64 f, .int .i64 s] 23)).heap.size (w.alloc (.cells #[.int .i64 e, .int .i64 f, .int .i64 s] 23)) w' from (by repeat (first | exact Below.refl _ _ | apply keep_alloc | apply keep_drew | apply keep_drewN | refine keep_step (by assumption) ?_ (by rfl))))) | (go_at_call 38; (apply Calls.mono; (focus ((first | (with_reducible exact rband) | (apply rband <;> first | (with_reducible assumption) | (first | omega | (simp only [Bool.not_eq_true', Bool.not_eq_false', beq_iff_eq, beq_eq_false_iff_ne, ne_eq, bne_iff_ne, bne_eq_false_iff_eq, Bool.not_eq_true, Bool.not_eq_false, decide_eq_true_eq, decide_eq_false_iff_not, Bool.and_eq_true, Bool.or_eq_true] at *; omega) | (simp only [Bool.not_eq_true', Bool.not_eq_false', beq_iff_eq, beq_eq_false_iff_ne, ne_eq, bne_iff_ne, bne_eq_false_iff_eq, Bool.not_eq_true, Bool.not_eq_false, decide_eq_true_eq, decide_eq_false_iff_not, Bool.and_eq_true, Bool.or_eq_true, wrap64] at *; omega)))); done))); rintro e w' ⟨rfl, hb⟩; obtain ⟨hc, hf⟩ := bcell (show Below w.heap.size w w' from (by repeat (first | exact Below.refl _ _ | apply keep_alloc | apply keep_drew | apply keep_drewN | refine keep_step (by assumption) ?_ (by rfl)))); obtain ⟨hx0, hx1, hx2⟩ := box3 (show Below (w.alloc (.cells #[.int .i64 e, .int .i64 f, .int .i64 s] 23)).heap.size (w.alloc (.cells #[.int .i64 e, .int .i64 f, .int .i64 s] 23)) w' from (by repeat (first | exact Below.refl _ _ | apply keep_alloc | apply keep_drew | apply keep_drewN | refine keep_step (by assumption) ?_ (by rfl))))) | go_in)
  all_goals go_ret2
  all_goals (refine out2 ?_ ?_ (by repeat (first | exact Below.refl _ _ | apply keep_alloc | apply keep_drew | apply keep_drewN | refine keep_step (by assumption) ?_ (by rfl))))
  all_goals (have hdef := And.intro (bandV_def e f s n) (chl_def e f s n); (first | omega | (simp only [Bool.not_eq_true', Bool.not_eq_false', beq_iff_eq, beq_eq_false_iff_ne, ne_eq, bne_iff_ne, bne_eq_false_iff_eq, Bool.not_eq_true, Bool.not_eq_false, decide_eq_true_eq, decide_eq_false_iff_not, Bool.and_eq_true, Bool.or_eq_true] at *; omega) | (simp only [Bool.not_eq_true', Bool.not_eq_false', beq_iff_eq, beq_eq_false_iff_ne, ne_eq, bne_iff_ne, bne_eq_false_iff_eq, Bool.not_eq_true, Bool.not_eq_false, decide_eq_true_eq, decide_eq_false_iff_not, Bool.and_eq_true, Bool.or_eq_true, wrap64] at *; omega)))

theorem pTare (n b : Int) (w : World) : Calls Try.prog 26 #[.int .i64 n, .int .i64 b] w (Out2 (tareV n b) (tareE n b) w) := by
  go_enter Try.func26, Try.ntmps26
  go_wp2
  all_goals go_ret2
  all_goals (refine out2 ?_ ?_ (by repeat (first | exact Below.refl _ _ | apply keep_alloc | apply keep_drew | apply keep_drewN | refine keep_step (by assumption) ?_ (by rfl))))
  all_goals (have hdef := And.intro (tareE_def n b) (tareV_def n b); (first | omega | (simp only [Bool.not_eq_true', Bool.not_eq_false', beq_iff_eq, beq_eq_false_iff_ne, ne_eq, bne_iff_ne, bne_eq_false_iff_eq, Bool.not_eq_true, Bool.not_eq_false, decide_eq_true_eq, decide_eq_false_iff_not, Bool.and_eq_true, Bool.or_eq_true] at *; omega) | (simp only [Bool.not_eq_true', Bool.not_eq_false', beq_iff_eq, beq_eq_false_iff_ne, ne_eq, bne_iff_ne, bne_eq_false_iff_eq, Bool.not_eq_true, Bool.not_eq_false, decide_eq_true_eq, decide_eq_false_iff_not, Bool.and_eq_true, Bool.or_eq_true, wrap64] at *; omega)))

theorem rTare (n b : Int) (w : World) : Calls Try.prog 27 #[.int .i64 n, .int .i64 b] w (Out2 (tareV n b) (tareE n b) w) := by
  go_enter Try.func27, Try.ntmps27
  go_wp2
  all_goals go_ret2
  all_goals (refine out2 ?_ ?_ (by repeat (first | exact Below.refl _ _ | apply keep_alloc | apply keep_drew | apply keep_drewN | refine keep_step (by assumption) ?_ (by rfl))))
  all_goals (have hdef := And.intro (tareE_def n b) (tareV_def n b); (first | omega | (simp only [Bool.not_eq_true', Bool.not_eq_false', beq_iff_eq, beq_eq_false_iff_ne, ne_eq, bne_iff_ne, bne_eq_false_iff_eq, Bool.not_eq_true, Bool.not_eq_false, decide_eq_true_eq, decide_eq_false_iff_not, Bool.and_eq_true, Bool.or_eq_true] at *; omega) | (simp only [Bool.not_eq_true', Bool.not_eq_false', beq_iff_eq, beq_eq_false_iff_ne, ne_eq, bne_iff_ne, bne_eq_false_iff_eq, Bool.not_eq_true, Bool.not_eq_false, decide_eq_true_eq, decide_eq_false_iff_not, Bool.and_eq_true, Bool.or_eq_true, wrap64] at *; omega)))

theorem pHeld (e f s was n : Int) (w : World) (he : In64 e) (hf : In64 f) (hs : In64 s) :
    Calls Try.prog 13 #[(.agg #[.int .i64 e, .int .i64 f, .int .i64 s]), .int .i64 was, .int .i64 n] w (Out2 (heldV e f s was n) (heldE e f s was n) w) := by
  have hnn := @nice_of_chl e f s n
  by_cases h0 : chl e f s n = 0
  · have hnice := (hnn h0).1
    clear hnn
    have hb0 : (chl e f s n != 0) = false := by simp [h0]
    have H0 := Lib.hid h0
    clear h0
    go_enter Try.func13, Try.ntmps13
    go_wp2_with (first | (go_at_call 35; (apply Calls.mono; (focus ((first | (with_reducible exact pcheck) | (apply pcheck <;> first | (with_reducible assumption) | (first | omega | (simp only [Bool.not_eq_true', Bool.not_eq_false', beq_iff_eq, beq_eq_false_iff_ne, ne_eq, bne_iff_ne, bne_eq_false_iff_eq, Bool.not_eq_true, Bool.not_eq_false, decide_eq_true_eq, decide_eq_false_iff_not, Bool.and_eq_true, Bool.or_eq_true] at *; omega) | (simp only [Bool.not_eq_true', Bool.not_eq_false', beq_iff_eq, beq_eq_false_iff_ne, ne_eq, bne_iff_ne, bne_eq_false_iff_eq, Bool.not_eq_true, Bool.not_eq_false, decide_eq_true_eq, decide_eq_false_iff_not, Bool.and_eq_true, Bool.or_eq_true, wrap64] at *; omega)))); done))); rintro e w' ⟨rfl, hb⟩; obtain ⟨hc, hf⟩ := bcell (show Below w.heap.size w w' from (by repeat (first | exact Below.refl _ _ | apply keep_alloc | apply keep_drew | apply keep_drewN | refine keep_step (by assumption) ?_ (by rfl)))); obtain ⟨hx0, hx1, hx2⟩ := box3 (show Below (w.alloc (.cells #[.int .i64 e, .int .i64 f, .int .i64 s] 23)).heap.size (w.alloc (.cells #[.int .i64 e, .int .i64 f, .int .i64 s] 23)) w' from (by repeat (first | exact Below.refl _ _ | apply keep_alloc | apply keep_drew | apply keep_drewN | refine keep_step (by assumption) ?_ (by rfl))))) | (go_at_call 40; (apply Calls.mono; (focus ((first | (with_reducible exact pheld) | (apply pheld <;> first | (with_reducible assumption) | (first | omega | (simp only [Bool.not_eq_true', Bool.not_eq_false', beq_iff_eq, beq_eq_false_iff_ne, ne_eq, bne_iff_ne, bne_eq_false_iff_eq, Bool.not_eq_true, Bool.not_eq_false, decide_eq_true_eq, decide_eq_false_iff_not, Bool.and_eq_true, Bool.or_eq_true] at *; omega) | (simp only [Bool.not_eq_true', Bool.not_eq_false', beq_iff_eq, beq_eq_false_iff_ne, ne_eq, bne_iff_ne, bne_eq_false_iff_eq, Bool.not_eq_true, Bool.not_eq_false, decide_eq_true_eq, decide_eq_false_iff_not, Bool.and_eq_true, Bool.or_eq_true, wrap64] at *; omega)))); done))); rintro e w' ⟨rfl, hb⟩; obtain ⟨hc, hf⟩ := bcell (show Below w.heap.size w w' from (by repeat (first | exact Below.refl _ _ | apply keep_alloc | apply keep_drew | apply keep_drewN | refine keep_step (by assumption) ?_ (by rfl)))); obtain ⟨hx0, hx1, hx2⟩ := box3 (show Below (w.alloc (.cells #[.int .i64 e, .int .i64 f, .int .i64 s] 23)).heap.size (w.alloc (.cells #[.int .i64 e, .int .i64 f, .int .i64 s] 23)) w' from (by repeat (first | exact Below.refl _ _ | apply keep_alloc | apply keep_drew | apply keep_drewN | refine keep_step (by assumption) ?_ (by rfl))))) | go_in)
    all_goals go_ret2
    all_goals have h0 := H0.out
    all_goals (refine out2 ?_ ?_ (by repeat (first | exact Below.refl _ _ | apply keep_alloc | apply keep_drew | apply keep_drewN | refine keep_step (by assumption) ?_ (by rfl))))
    all_goals (have hdef := And.intro (heldV_def e f s was n) (heldE_def e f s was n); (first | omega | (simp only [Bool.not_eq_true', Bool.not_eq_false', beq_iff_eq, beq_eq_false_iff_ne, ne_eq, bne_iff_ne, bne_eq_false_iff_eq, Bool.not_eq_true, Bool.not_eq_false, decide_eq_true_eq, decide_eq_false_iff_not, Bool.and_eq_true, Bool.or_eq_true] at *; omega) | (simp only [Bool.not_eq_true', Bool.not_eq_false', beq_iff_eq, beq_eq_false_iff_ne, ne_eq, bne_iff_ne, bne_eq_false_iff_eq, Bool.not_eq_true, Bool.not_eq_false, decide_eq_true_eq, decide_eq_false_iff_not, Bool.and_eq_true, Bool.or_eq_true, wrap64] at *; omega)))
  · have hb0 : (chl e f s n != 0) = true := by simp [h0]
    have H0 := Lib.hid h0
    clear h0 hnn
    go_enter Try.func13, Try.ntmps13
    go_wp2_with (first | (go_at_call 35; (apply Calls.mono; (focus ((first | (with_reducible exact pcheck) | (apply pcheck <;> first | (with_reducible assumption) | (first | omega | (simp only [Bool.not_eq_true', Bool.not_eq_false', beq_iff_eq, beq_eq_false_iff_ne, ne_eq, bne_iff_ne, bne_eq_false_iff_eq, Bool.not_eq_true, Bool.not_eq_false, decide_eq_true_eq, decide_eq_false_iff_not, Bool.and_eq_true, Bool.or_eq_true] at *; omega) | (simp only [Bool.not_eq_true', Bool.not_eq_false', beq_iff_eq, beq_eq_false_iff_ne, ne_eq, bne_iff_ne, bne_eq_false_iff_eq, Bool.not_eq_true, Bool.not_eq_false, decide_eq_true_eq, decide_eq_false_iff_not, Bool.and_eq_true, Bool.or_eq_true, wrap64] at *; omega)))); done))); rintro e w' ⟨rfl, hb⟩; obtain ⟨hc, hf⟩ := bcell (show Below w.heap.size w w' from (by repeat (first | exact Below.refl _ _ | apply keep_alloc | apply keep_drew | apply keep_drewN | refine keep_step (by assumption) ?_ (by rfl)))); obtain ⟨hx0, hx1, hx2⟩ := box3 (show Below (w.alloc (.cells #[.int .i64 e, .int .i64 f, .int .i64 s] 23)).heap.size (w.alloc (.cells #[.int .i64 e, .int .i64 f, .int .i64 s] 23)) w' from (by repeat (first | exact Below.refl _ _ | apply keep_alloc | apply keep_drew | apply keep_drewN | refine keep_step (by assumption) ?_ (by rfl))))) | go_in)
    all_goals go_ret2
    all_goals have h0 := H0.out
    all_goals (refine out2 ?_ ?_ (by repeat (first | exact Below.refl _ _ | apply keep_alloc | apply keep_drew | apply keep_drewN | refine keep_step (by assumption) ?_ (by rfl))))
    all_goals (have hdef := And.intro (heldV_def e f s was n) (heldE_def e f s was n); (first | omega | (simp only [Bool.not_eq_true', Bool.not_eq_false', beq_iff_eq, beq_eq_false_iff_ne, ne_eq, bne_iff_ne, bne_eq_false_iff_eq, Bool.not_eq_true, Bool.not_eq_false, decide_eq_true_eq, decide_eq_false_iff_not, Bool.and_eq_true, Bool.or_eq_true] at *; omega) | (simp only [Bool.not_eq_true', Bool.not_eq_false', beq_iff_eq, beq_eq_false_iff_ne, ne_eq, bne_iff_ne, bne_eq_false_iff_eq, Bool.not_eq_true, Bool.not_eq_false, decide_eq_true_eq, decide_eq_false_iff_not, Bool.and_eq_true, Bool.or_eq_true, wrap64] at *; omega)))

theorem rHeld (e f s was n : Int) (w : World) (he : In64 e) (hf : In64 f) (hs : In64 s) :
    Calls Try.prog 14 #[(.agg #[.int .i64 e, .int .i64 f, .int .i64 s]), .int .i64 was, .int .i64 n] w (Out2 (heldV e f s was n) (heldE e f s was n) w) := by
  by_cases h0 : chk e f s = 0
  · have hnice := nice_of h0
    have hb0 : (chk e f s != 0) = false := by simp [h0]
    have H0 := Lib.hid h0
    clear h0
    go_enter Try.func14, Try.ntmps14
    go_wp2_with (first | (go_at_call 16; (apply Calls.mono; (focus ((first | (with_reducible exact rchk) | (apply rchk <;> first | (with_reducible assumption) | (first | omega | (simp only [Bool.not_eq_true', Bool.not_eq_false', beq_iff_eq, beq_eq_false_iff_ne, ne_eq, bne_iff_ne, bne_eq_false_iff_eq, Bool.not_eq_true, Bool.not_eq_false, decide_eq_true_eq, decide_eq_false_iff_not, Bool.and_eq_true, Bool.or_eq_true] at *; omega) | (simp only [Bool.not_eq_true', Bool.not_eq_false', beq_iff_eq, beq_eq_false_iff_ne, ne_eq, bne_iff_ne, bne_eq_false_iff_eq, Bool.not_eq_true, Bool.not_eq_false, decide_eq_true_eq, decide_eq_false_iff_not, Bool.and_eq_true, Bool.or_eq_true, wrap64] at *; omega)))); done))); rintro e w' ⟨rfl, hb⟩; obtain ⟨hc, hf⟩ := bcell (show Below w.heap.size w w' from (by repeat (first | exact Below.refl _ _ | apply keep_alloc | apply keep_drew | apply keep_drewN | refine keep_step (by assumption) ?_ (by rfl)))); obtain ⟨hx0, hx1, hx2⟩ := box3 (show Below (w.alloc (.cells #[.int .i64 e, .int .i64 f, .int .i64 s] 23)).heap.size (w.alloc (.cells #[.int .i64 e, .int .i64 f, .int .i64 s] 23)) w' from (by repeat (first | exact Below.refl _ _ | apply keep_alloc | apply keep_drew | apply keep_drewN | refine keep_step (by assumption) ?_ (by rfl))))) | (go_at_call 41; (apply Calls.mono; (focus ((first | (with_reducible exact rheld) | (apply rheld <;> first | (with_reducible assumption) | (first | omega | (simp only [Bool.not_eq_true', Bool.not_eq_false', beq_iff_eq, beq_eq_false_iff_ne, ne_eq, bne_iff_ne, bne_eq_false_iff_eq, Bool.not_eq_true, Bool.not_eq_false, decide_eq_true_eq, decide_eq_false_iff_not, Bool.and_eq_true, Bool.or_eq_true] at *; omega) | (simp only [Bool.not_eq_true', Bool.not_eq_false', beq_iff_eq, beq_eq_false_iff_ne, ne_eq, bne_iff_ne, bne_eq_false_iff_eq, Bool.not_eq_true, Bool.not_eq_false, decide_eq_true_eq, decide_eq_false_iff_not, Bool.and_eq_true, Bool.or_eq_true, wrap64] at *; omega)))); done))); rintro e w' ⟨rfl, hb⟩; obtain ⟨hc, hf⟩ := bcell (show Below w.heap.size w w' from (by repeat (first | exact Below.refl _ _ | apply keep_alloc | apply keep_drew | apply keep_drewN | refine keep_step (by assumption) ?_ (by rfl)))); obtain ⟨hx0, hx1, hx2⟩ := box3 (show Below (w.alloc (.cells #[.int .i64 e, .int .i64 f, .int .i64 s] 23)).heap.size (w.alloc (.cells #[.int .i64 e, .int .i64 f, .int .i64 s] 23)) w' from (by repeat (first | exact Below.refl _ _ | apply keep_alloc | apply keep_drew | apply keep_drewN | refine keep_step (by assumption) ?_ (by rfl))))) | go_in)
    all_goals go_ret2
    all_goals have h0 := H0.out
    all_goals have hcl := chl_def e f s n
    all_goals (refine out2 ?_ ?_ (by repeat (first | exact Below.refl _ _ | apply keep_alloc | apply keep_drew | apply keep_drewN | refine keep_step (by assumption) ?_ (by rfl))))
    all_goals (have hdef := And.intro (heldV_def e f s was n) (heldE_def e f s was n); (first | omega | (simp only [Bool.not_eq_true', Bool.not_eq_false', beq_iff_eq, beq_eq_false_iff_ne, ne_eq, bne_iff_ne, bne_eq_false_iff_eq, Bool.not_eq_true, Bool.not_eq_false, decide_eq_true_eq, decide_eq_false_iff_not, Bool.and_eq_true, Bool.or_eq_true] at *; omega) | (simp only [Bool.not_eq_true', Bool.not_eq_false', beq_iff_eq, beq_eq_false_iff_ne, ne_eq, bne_iff_ne, bne_eq_false_iff_eq, Bool.not_eq_true, Bool.not_eq_false, decide_eq_true_eq, decide_eq_false_iff_not, Bool.and_eq_true, Bool.or_eq_true, wrap64] at *; omega)))
  · have hb0 : (chk e f s != 0) = true := by simp [h0]
    have H0 := Lib.hid h0
    clear h0
    go_enter Try.func14, Try.ntmps14
    go_wp2_with (first | (go_at_call 16; (apply Calls.mono; (focus ((first | (with_reducible exact rchk) | (apply rchk <;> first | (with_reducible assumption) | (first | omega | (simp only [Bool.not_eq_true', Bool.not_eq_false', beq_iff_eq, beq_eq_false_iff_ne, ne_eq, bne_iff_ne, bne_eq_false_iff_eq, Bool.not_eq_true, Bool.not_eq_false, decide_eq_true_eq, decide_eq_false_iff_not, Bool.and_eq_true, Bool.or_eq_true] at *; omega) | (simp only [Bool.not_eq_true', Bool.not_eq_false', beq_iff_eq, beq_eq_false_iff_ne, ne_eq, bne_iff_ne, bne_eq_false_iff_eq, Bool.not_eq_true, Bool.not_eq_false, decide_eq_true_eq, decide_eq_false_iff_not, Bool.and_eq_true, Bool.or_eq_true, wrap64] at *; omega)))); done))); rintro e w' ⟨rfl, hb⟩; obtain ⟨hc, hf⟩ := bcell (show Below w.heap.size w w' from (by repeat (first | exact Below.refl _ _ | apply keep_alloc | apply keep_drew | apply keep_drewN | refine keep_step (by assumption) ?_ (by rfl)))); obtain ⟨hx0, hx1, hx2⟩ := box3 (show Below (w.alloc (.cells #[.int .i64 e, .int .i64 f, .int .i64 s] 23)).heap.size (w.alloc (.cells #[.int .i64 e, .int .i64 f, .int .i64 s] 23)) w' from (by repeat (first | exact Below.refl _ _ | apply keep_alloc | apply keep_drew | apply keep_drewN | refine keep_step (by assumption) ?_ (by rfl))))) | go_in)
    all_goals go_ret2
    all_goals have h0 := H0.out
    all_goals have hcl := chl_def e f s n
    all_goals (refine out2 ?_ ?_ (by repeat (first | exact Below.refl _ _ | apply keep_alloc | apply keep_drew | apply keep_drewN | refine keep_step (by assumption) ?_ (by rfl))))
    all_goals (have hdef := And.intro (heldV_def e f s was n) (heldE_def e f s was n); (first | omega | (simp only [Bool.not_eq_true', Bool.not_eq_false', beq_iff_eq, beq_eq_false_iff_ne, ne_eq, bne_iff_ne, bne_eq_false_iff_eq, Bool.not_eq_true, Bool.not_eq_false, decide_eq_true_eq, decide_eq_false_iff_not, Bool.and_eq_true, Bool.or_eq_true] at *; omega) | (simp only [Bool.not_eq_true', Bool.not_eq_false', beq_iff_eq, beq_eq_false_iff_ne, ne_eq, bne_iff_ne, bne_eq_false_iff_eq, Bool.not_eq_true, Bool.not_eq_false, decide_eq_true_eq, decide_eq_false_iff_not, Bool.and_eq_true, Bool.or_eq_true, wrap64] at *; omega)))

theorem pFit (e f s n p : Int) (w : World) (he : In64 e) (hf : In64 f) (hs : In64 s) :
    Calls Try.prog 28 #[(.agg #[.int .i64 e, .int .i64 f, .int .i64 s]), .int .i64 n, .int .i64 p] w (Out2 (fitV e f s n p) (fitE e f s n p) w) := by
  have hnn := @nice_of_chl e f s n
  by_cases h0 : chl e f s n = 0
  · obtain ⟨⟨h1, h2, h3, h4, h5, h6, h7⟩, h8, h9⟩ := hnn h0
    clear hnn
    have hb0 : (chl e f s n != 0) = false := by simp [h0]
    have H0 := Lib.hid h0
    clear h0
    go_enter Try.func28, Try.ntmps28
    go_wp2_with (first | (go_at_call 35; (apply Calls.mono; (focus ((first | (with_reducible exact pcheck) | (apply pcheck <;> first | (with_reducible assumption) | (first | omega | (simp only [Bool.not_eq_true', Bool.not_eq_false', beq_iff_eq, beq_eq_false_iff_ne, ne_eq, bne_iff_ne, bne_eq_false_iff_eq, Bool.not_eq_true, Bool.not_eq_false, decide_eq_true_eq, decide_eq_false_iff_not, Bool.and_eq_true, Bool.or_eq_true] at *; omega) | (simp only [Bool.not_eq_true', Bool.not_eq_false', beq_iff_eq, beq_eq_false_iff_ne, ne_eq, bne_iff_ne, bne_eq_false_iff_eq, Bool.not_eq_true, Bool.not_eq_false, decide_eq_true_eq, decide_eq_false_iff_not, Bool.and_eq_true, Bool.or_eq_true, wrap64] at *; omega)))); done))); rintro e w' ⟨rfl, hb⟩; obtain ⟨hc, hf⟩ := bcell (show Below w.heap.size w w' from (by repeat (first | exact Below.refl _ _ | apply keep_alloc | apply keep_drew | apply keep_drewN | refine keep_step (by assumption) ?_ (by rfl)))); obtain ⟨hx0, hx1, hx2⟩ := box3 (show Below (w.alloc (.cells #[.int .i64 e, .int .i64 f, .int .i64 s] 23)).heap.size (w.alloc (.cells #[.int .i64 e, .int .i64 f, .int .i64 s] 23)) w' from (by repeat (first | exact Below.refl _ _ | apply keep_alloc | apply keep_drew | apply keep_drewN | refine keep_step (by assumption) ?_ (by rfl))))) | go_in)
    all_goals go_ret2
    all_goals have h0 := H0.out
    all_goals (refine out2 ?_ ?_ (by repeat (first | exact Below.refl _ _ | apply keep_alloc | apply keep_drew | apply keep_drewN | refine keep_step (by assumption) ?_ (by rfl))))
    all_goals (have hdef := And.intro (fitV_def e f s n p) (fitE_def e f s n p); (first | omega | (simp only [Bool.not_eq_true', Bool.not_eq_false', beq_iff_eq, beq_eq_false_iff_ne, ne_eq, bne_iff_ne, bne_eq_false_iff_eq, Bool.not_eq_true, Bool.not_eq_false, decide_eq_true_eq, decide_eq_false_iff_not, Bool.and_eq_true, Bool.or_eq_true] at *; omega) | (simp only [Bool.not_eq_true', Bool.not_eq_false', beq_iff_eq, beq_eq_false_iff_ne, ne_eq, bne_iff_ne, bne_eq_false_iff_eq, Bool.not_eq_true, Bool.not_eq_false, decide_eq_true_eq, decide_eq_false_iff_not, Bool.and_eq_true, Bool.or_eq_true, wrap64] at *; omega)))
  · have hb0 : (chl e f s n != 0) = true := by simp [h0]
    have H0 := Lib.hid h0
    clear h0 hnn
    go_enter Try.func28, Try.ntmps28
    go_wp2_with (first | (go_at_call 35; (apply Calls.mono; (focus ((first | (with_reducible exact pcheck) | (apply pcheck <;> first | (with_reducible assumption) | (first | omega | (simp only [Bool.not_eq_true', Bool.not_eq_false', beq_iff_eq, beq_eq_false_iff_ne, ne_eq, bne_iff_ne, bne_eq_false_iff_eq, Bool.not_eq_true, Bool.not_eq_false, decide_eq_true_eq, decide_eq_false_iff_not, Bool.and_eq_true, Bool.or_eq_true] at *; omega) | (simp only [Bool.not_eq_true', Bool.not_eq_false', beq_iff_eq, beq_eq_false_iff_ne, ne_eq, bne_iff_ne, bne_eq_false_iff_eq, Bool.not_eq_true, Bool.not_eq_false, decide_eq_true_eq, decide_eq_false_iff_not, Bool.and_eq_true, Bool.or_eq_true, wrap64] at *; omega)))); done))); rintro e w' ⟨rfl, hb⟩; obtain ⟨hc, hf⟩ := bcell (show Below w.heap.size w w' from (by repeat (first | exact Below.refl _ _ | apply keep_alloc | apply keep_drew | apply keep_drewN | refine keep_step (by assumption) ?_ (by rfl)))); obtain ⟨hx0, hx1, hx2⟩ := box3 (show Below (w.alloc (.cells #[.int .i64 e, .int .i64 f, .int .i64 s] 23)).heap.size (w.alloc (.cells #[.int .i64 e, .int .i64 f, .int .i64 s] 23)) w' from (by repeat (first | exact Below.refl _ _ | apply keep_alloc | apply keep_drew | apply keep_drewN | refine keep_step (by assumption) ?_ (by rfl))))) | go_in)
    all_goals go_ret2
    all_goals have h0 := H0.out
    all_goals (refine out2 ?_ ?_ (by repeat (first | exact Below.refl _ _ | apply keep_alloc | apply keep_drew | apply keep_drewN | refine keep_step (by assumption) ?_ (by rfl))))
    all_goals (have hdef := And.intro (fitV_def e f s n p) (fitE_def e f s n p); (first | omega | (simp only [Bool.not_eq_true', Bool.not_eq_false', beq_iff_eq, beq_eq_false_iff_ne, ne_eq, bne_iff_ne, bne_eq_false_iff_eq, Bool.not_eq_true, Bool.not_eq_false, decide_eq_true_eq, decide_eq_false_iff_not, Bool.and_eq_true, Bool.or_eq_true] at *; omega) | (simp only [Bool.not_eq_true', Bool.not_eq_false', beq_iff_eq, beq_eq_false_iff_ne, ne_eq, bne_iff_ne, bne_eq_false_iff_eq, Bool.not_eq_true, Bool.not_eq_false, decide_eq_true_eq, decide_eq_false_iff_not, Bool.and_eq_true, Bool.or_eq_true, wrap64] at *; omega)))

def FitRel (f n p : Int) (v : Value) : Prop := ∃ k : Nat, k ≤ 10000 ∧ v = .int .i64 k ∧ (k = 0 ∨ n + (k : Int) * p ≤ f)

theorem rFit (e f s n p : Int) (w : World) (he : In64 e) (hf : In64 f) (hs : In64 s) :
    Calls Try.prog 29 #[(.agg #[.int .i64 e, .int .i64 f, .int .i64 s]), .int .i64 n, .int .i64 p] w (Out2 (fitV e f s n p) (fitE e f s n p) w) := by
  have hcl := chl_def e f s n
  have hv := fitV_def e f s n p
  have hE := fitE_def e f s n p
  by_cases h0 : chk e f s = 0
  · obtain ⟨h1, h2, h3, h4, h5, h6, h7⟩ := nice_of h0
    have hb0 : (chk e f s != 0) = false := by simp [h0]
    have hb1 : (chk e f s == 0) = true := by simp [h0]
    by_cases hb : n < 0 ∨ 10000 < n ∨ p < 1 ∨ 10000 < p
    · have hE1 : fitE e f s n p = 2 := by omega
      have hV1 : fitV e f s n p = 0 := by omega
      clear hv hE hcl h0
      rw [hV1, hE1]
      clear hV1 hE1
      have hc4 : decide (0 ≤ n) = false ∨ (0 ≤ n ∧ decide (n ≤ 10000) = false) ∨ (0 ≤ n ∧ n ≤ 10000 ∧ p < 1) ∨ (0 ≤ n ∧ n ≤ 10000 ∧ 1 ≤ p ∧ 10000 < p) := by simp; omega
      clear hb
      rcases hc4 with hc1 | ⟨hc1, hc2⟩ | ⟨hc1, hc2, hc3⟩ | ⟨hc1, hc2, hc3, hc4⟩
      all_goals
        go_enter Try.func29, Try.ntmps29
        go_wp2_with (first | (go_at_call 16; (apply Calls.mono; (focus ((first | (with_reducible exact rchk) | (apply rchk <;> first | (with_reducible assumption) | (first | omega | (simp only [Bool.not_eq_true', Bool.not_eq_false', beq_iff_eq, beq_eq_false_iff_ne, ne_eq, bne_iff_ne, bne_eq_false_iff_eq, Bool.not_eq_true, Bool.not_eq_false, decide_eq_true_eq, decide_eq_false_iff_not, Bool.and_eq_true, Bool.or_eq_true] at *; omega) | (simp only [Bool.not_eq_true', Bool.not_eq_false', beq_iff_eq, beq_eq_false_iff_ne, ne_eq, bne_iff_ne, bne_eq_false_iff_eq, Bool.not_eq_true, Bool.not_eq_false, decide_eq_true_eq, decide_eq_false_iff_not, Bool.and_eq_true, Bool.or_eq_true, wrap64] at *; omega)))); done))); rintro e w' ⟨rfl, hb⟩; obtain ⟨hc, hf⟩ := bcell (show Below w.heap.size w w' from (by repeat (first | exact Below.refl _ _ | apply keep_alloc | apply keep_drew | apply keep_drewN | refine keep_step (by assumption) ?_ (by rfl)))); obtain ⟨hx0, hx1, hx2⟩ := box3 (show Below (w.alloc (.cells #[.int .i64 e, .int .i64 f, .int .i64 s] 23)).heap.size (w.alloc (.cells #[.int .i64 e, .int .i64 f, .int .i64 s] 23)) w' from (by repeat (first | exact Below.refl _ _ | apply keep_alloc | apply keep_drew | apply keep_drewN | refine keep_step (by assumption) ?_ (by rfl))))) | go_in)
        go_ret2
        exact out2 rfl rfl (by repeat (first | exact Below.refl _ _ | apply keep_alloc | apply keep_drew | apply keep_drewN | refine keep_step (by assumption) ?_ (by rfl)))
    · have hn1 : 0 ≤ n ∧ n ≤ 10000 ∧ 1 ≤ p ∧ p ≤ 10000 := by omega
      obtain ⟨hn1, hn2, hp1, hp2⟩ := hn1
      have hE1 : fitE e f s n p = 0 := by omega
      have hV1 : fitV e f s n p = if f - n < 0 then 0 else (f - n) / p := by omega
      rw [hE1]
      have HV := Lib.hid hV1
      clear hv hE hcl h0 hb hV1 hE1
      go_enter Try.func29, Try.ntmps29
      go_wp2_with (first | (go_at_call 16; (apply Calls.mono; (focus ((first | (with_reducible exact rchk) | (apply rchk <;> first | (with_reducible assumption) | (first | omega | (simp only [Bool.not_eq_true', Bool.not_eq_false', beq_iff_eq, beq_eq_false_iff_ne, ne_eq, bne_iff_ne, bne_eq_false_iff_eq, Bool.not_eq_true, Bool.not_eq_false, decide_eq_true_eq, decide_eq_false_iff_not, Bool.and_eq_true, Bool.or_eq_true] at *; omega) | (simp only [Bool.not_eq_true', Bool.not_eq_false', beq_iff_eq, beq_eq_false_iff_ne, ne_eq, bne_iff_ne, bne_eq_false_iff_eq, Bool.not_eq_true, Bool.not_eq_false, decide_eq_true_eq, decide_eq_false_iff_not, Bool.and_eq_true, Bool.or_eq_true, wrap64] at *; omega)))); done))); rintro e w' ⟨rfl, hb⟩; obtain ⟨hc, hf⟩ := bcell (show Below w.heap.size w w' from (by repeat (first | exact Below.refl _ _ | apply keep_alloc | apply keep_drew | apply keep_drewN | refine keep_step (by assumption) ?_ (by rfl)))); obtain ⟨hx0, hx1, hx2⟩ := box3 (show Below (w.alloc (.cells #[.int .i64 e, .int .i64 f, .int .i64 s] 23)).heap.size (w.alloc (.cells #[.int .i64 e, .int .i64 f, .int .i64 s] 23)) w' from (by repeat (first | exact Below.refl _ _ | apply keep_alloc | apply keep_drew | apply keep_drewN | refine keep_step (by assumption) ?_ (by rfl))))) | go_in)
      go_loop [9] (FitRel f n p) (fun v => 10000 - (intOf v).toNat)
      case atStart => exact ⟨0, by omega, rfl, .inl rfl⟩
      case round =>
        obtain ⟨k, hk, rfl, hle⟩ := hrel
        have hm0 : 0 ≤ ((k : Int) + 1) * p := Int.mul_nonneg (by omega) (by omega)
        have hm1 : ((k : Int) + 1) * p ≤ 10001 * 10000 := Int.mul_le_mul (by omega) hp2 (by omega) (by omega)
        have hge : ((k : Int) + 1) * 1 ≤ ((k : Int) + 1) * p := Int.mul_le_mul_of_nonneg_left hp1 (by omega)
        have HLE := Lib.hid hle
        clear hle
        by_cases ht : n + ((k : Int) + 1) * p ≤ f
        · have hk2 : k + 1 ≤ 10000 := by omega
          go_wp2
          exact ⟨⟨k + 1, hk2, by go_num, .inr (by simpa using ht)⟩, by simp [intOf]; omega⟩
        · go_wp2
          go_ret2
          refine out2 ?_ rfl (by repeat (first | exact Below.refl _ _ | apply keep_alloc | apply keep_drew | apply keep_drewN | refine keep_step (by assumption) ?_ (by rfl)))
          rw [HV.out]
          have hmul : ((k : Int) + 1) * p = k * p + p := by rw [Int.add_mul, Int.one_mul]
          rcases HLE.out with hz | hz
          · have hk0 : (k : Int) = 0 := by omega
            show (k : Int) = _
            rw [hk0] at ht ⊢
            split
            · rfl
            · symm
              exact Int.ediv_eq_zero_of_lt (by omega) (by omega)
          · have hkp : 0 ≤ (k : Int) * p := Int.mul_nonneg (by omega) (by omega)
            show (k : Int) = _
            rw [if_neg (by omega)]
            apply Int.le_antisymm
            · exact (Int.le_ediv_iff_mul_le (by omega)).2 (by omega)
            · have := (Int.ediv_lt_iff_lt_mul (show 0 < p by omega)).2 (show f - n < ((k : Int) + 1) * p by omega)
              omega
  · have hE1 : fitE e f s n p = chk e f s := by omega
    have hV1 : fitV e f s n p = 0 := by omega
    have hb0 : (chk e f s != 0) = true := by simp [h0]
    have hb1 : (chk e f s == 0) = false := by simp [h0]
    clear hv hE hcl h0
    rw [hV1, hE1]
    clear hV1 hE1
    go_enter Try.func29, Try.ntmps29
    go_wp2_with (first | (go_at_call 16; (apply Calls.mono; (focus ((first | (with_reducible exact rchk) | (apply rchk <;> first | (with_reducible assumption) | (first | omega | (simp only [Bool.not_eq_true', Bool.not_eq_false', beq_iff_eq, beq_eq_false_iff_ne, ne_eq, bne_iff_ne, bne_eq_false_iff_eq, Bool.not_eq_true, Bool.not_eq_false, decide_eq_true_eq, decide_eq_false_iff_not, Bool.and_eq_true, Bool.or_eq_true] at *; omega) | (simp only [Bool.not_eq_true', Bool.not_eq_false', beq_iff_eq, beq_eq_false_iff_ne, ne_eq, bne_iff_ne, bne_eq_false_iff_eq, Bool.not_eq_true, Bool.not_eq_false, decide_eq_true_eq, decide_eq_false_iff_not, Bool.and_eq_true, Bool.or_eq_true, wrap64] at *; omega)))); done))); rintro e w' ⟨rfl, hb⟩; obtain ⟨hc, hf⟩ := bcell (show Below w.heap.size w w' from (by repeat (first | exact Below.refl _ _ | apply keep_alloc | apply keep_drew | apply keep_drewN | refine keep_step (by assumption) ?_ (by rfl)))); obtain ⟨hx0, hx1, hx2⟩ := box3 (show Below (w.alloc (.cells #[.int .i64 e, .int .i64 f, .int .i64 s] 23)).heap.size (w.alloc (.cells #[.int .i64 e, .int .i64 f, .int .i64 s] 23)) w' from (by repeat (first | exact Below.refl _ _ | apply keep_alloc | apply keep_drew | apply keep_drewN | refine keep_step (by assumption) ?_ (by rfl))))) | go_in)
    go_ret2
    exact out2 rfl rfl (by repeat (first | exact Below.refl _ _ | apply keep_alloc | apply keep_drew | apply keep_drewN | refine keep_step (by assumption) ?_ (by rfl)))
end Go.Proofs.Ytfpeojpligkbjaa
