/- Layer 7: Positions of both; the reference's Height, asked, apart. -/
import Derived.Test.YtkoopcjdpcpknaaSD
namespace Go.Proofs.Ytkoopcjdpcpknaa
open Go.RowKit
set_option linter.unusedVariables false

/-- a slice and an error come back -/
def OutInts (xs : List Int) (err : Int) (w : World) (e : Ending) (w' : World) : Prop :=
  ∃ A cap, e = .returned (.tuple #[.slice A xs.length cap, .int .i64 err]) ∧ Ints w' A xs ∧ xs.length ≤ maxLen ∧ Below w.heap.size w w'
theorem outMine {xs : List Int} {E : Int} {B : Nat} {v : Value} {w w' : World} (hm : Mine B w' v xs) (hb : Below w.heap.size w w') : OutInts xs E w (.returned (.tuple #[v, .int .i64 E])) w' := by
  obtain ⟨A, cap, rfl, hi, hl⟩ := hm.slice
  exact ⟨A, cap, rfl, hi, hl, hb⟩

theorem pPlaceE (gs : List Int) (A : Option Addr) (n cap : Nat) (w : World) (hn : gs.length = n) (hm : n ≤ 1000) (hA : Ints w A gs) (hck : ckE gs ≠ 0) :
    Calls Try.prog 45 #[.slice A n cap] w fun e w' => e = .returned (.tuple #[.slice none 0 0, .int .i64 (ckE gs)]) ∧ Below w.heap.size w w' := by
  have hb0 : (ckE gs != 0) = true := by simp [hck]
  clear hck
  go_enter Try.func45, Try.ntmps45
  go_wp2_with fail
  refine (pCheck gs A n cap _ hn hm (hA.step (by repeat (first | exact Below.refl _ _ | apply keep_alloc | apply keep_drew | apply keep_drewN | refine keep_step (by assumption) ?_ (by rfl) | refine keep_set ?_ _ _ (by first | exact Nat.le_refl _ | (show _ ≤ _; simp; done) | (show _ ≤ _; simp; omega)))))).mono ?_
  rintro _ w1 ⟨rfl, hb1⟩
  go_wp2
  go_ret2
  exact ⟨rfl, (by repeat (first | exact Below.refl _ _ | apply keep_alloc | apply keep_drew | apply keep_drewN | refine keep_step (by assumption) ?_ (by rfl) | refine keep_set ?_ _ _ (by first | exact Nat.le_refl _ | (show _ ≤ _; simp; done) | (show _ ≤ _; simp; omega))))⟩

def posOut (gs : List Int) : List Int := if ckE gs = 0 then posl gs (gs.length + 1) else []
theorem posOut_ok {gs : List Int} (h : ckE gs = 0) : posOut gs = posl gs (gs.length + 1) := by unfold posOut; rw [if_pos h]
theorem posOut_bad {gs : List Int} (h : ckE gs ≠ 0) : posOut gs = [] := by unfold posOut; rw [if_neg h]

def htV (gs : List Int) : Int := if ckE gs = 0 then pos gs gs.length else 0
theorem htV_ok {gs : List Int} (h : ckE gs = 0) : htV gs = pos gs gs.length := by unfold htV; rw [if_pos h]
theorem htV_bad {gs : List Int} (h : ckE gs ≠ 0) : htV gs = 0 := by unfold htV; rw [if_neg h]

theorem rHeight (gs : List Int) (A : Option Addr) (n cap : Nat) (w : World) (hn : gs.length = n) (hm : n ≤ 1000) (hA : Ints w A gs) :
    Calls Try.prog 31 #[.slice A n cap] w (Out2 (htV gs) (ckE gs) w) := by
  by_cases hck : ckE gs = 0
  · rw [htV_ok hck, hck, hn]
    have HCK := Lib.hid hck
    have HF := Lib.hid (fine_of hck)
    clear hck
    go_enter Try.func31, Try.ntmps31
    go_wp2_with fail
    refine (rCheck gs A n cap _ hn hm (hA.step (by repeat (first | exact Below.refl _ _ | apply keep_alloc | apply keep_drew | apply keep_drewN | refine keep_step (by assumption) ?_ (by rfl) | refine keep_set ?_ _ _ (by first | exact Nat.le_refl _ | (show _ ≤ _; simp; done) | (show _ ≤ _; simp; omega)))))).mono ?_
    rintro _ w1 ⟨rfl, hb1⟩
    rw [HCK.out]
    go_wp2_with fail
    refine (rpositions gs A n cap _ hn HF.out (hA.step (by repeat (first | exact Below.refl _ _ | apply keep_alloc | apply keep_drew | apply keep_drewN | refine keep_step (by assumption) ?_ (by rfl) | refine keep_set ?_ _ _ (by first | exact Nat.le_refl _ | (show _ ≤ _; simp; done) | (show _ ≤ _; simp; omega)))))).mono ?_
    rintro _ w2 ⟨B, c, rfl, hi2, hb2⟩
    obtain ⟨b, o, rfl, hc⟩ := hi2.cell (k := n) (by rw [posl_len]; omega)
    have c1 := hc n (by rw [posl_len]; omega)
    rw [posl_nth _ _ _ (by omega)] at c1
    clear hc
    go_wp2
    go_ret2
    exact out2 rfl rfl (by repeat (first | exact Below.refl _ _ | apply keep_alloc | apply keep_drew | apply keep_drewN | refine keep_step (by assumption) ?_ (by rfl) | refine keep_set ?_ _ _ (by first | exact Nat.le_refl _ | (show _ ≤ _; simp; done) | (show _ ≤ _; simp; omega))))
  · have hb0 : (ckE gs != 0) = true := by simp [hck]
    rw [htV_bad hck]
    clear hck
    go_enter Try.func31, Try.ntmps31
    go_wp2_with fail
    refine (rCheck gs A n cap _ hn hm (hA.step (by repeat (first | exact Below.refl _ _ | apply keep_alloc | apply keep_drew | apply keep_drewN | refine keep_step (by assumption) ?_ (by rfl) | refine keep_set ?_ _ _ (by first | exact Nat.le_refl _ | (show _ ≤ _; simp; done) | (show _ ≤ _; simp; omega)))))).mono ?_
    rintro _ w1 ⟨rfl, hb1⟩
    go_wp2
    go_ret2
    exact out2 rfl rfl (by repeat (first | exact Below.refl _ _ | apply keep_alloc | apply keep_drew | apply keep_drewN | refine keep_step (by assumption) ?_ (by rfl) | refine keep_set ?_ _ _ (by first | exact Nat.le_refl _ | (show _ ≤ _; simp; done) | (show _ ≤ _; simp; omega))))

def Near (x : Int) : Prop := -1000000 ≤ x ∧ x ≤ 1000000
theorem rapart (a b : Int) (w : World) (ha : Near a) (hb : Near b) :
    Calls Try.prog 49 #[.int .i64 a, .int .i64 b] w fun e w' => e = .returned (.int .i64 (ab a b)) ∧ Below w.heap.size w w' := by
  obtain ⟨ha1, ha2⟩ := ha
  obtain ⟨hb1, hb2⟩ := hb
  have HD := Lib.hid (ab_def a b)
  go_enter Try.func49, Try.ntmps49
  go_wp2
  all_goals go_ret
  all_goals (refine ⟨?_, (by repeat (first | exact Below.refl _ _ | apply keep_alloc | apply keep_drew | apply keep_drewN | refine keep_step (by assumption) ?_ (by rfl) | refine keep_set ?_ _ _ (by first | exact Nat.le_refl _ | (show _ ≤ _; simp; done) | (show _ ≤ _; simp; omega))))⟩; refine ret_int ?_; have h1 := HD.out; (first | omega | (subst_vars; omega) | (simp only [Bool.not_eq_true', Bool.not_eq_false', beq_iff_eq, beq_eq_false_iff_ne, ne_eq, bne_iff_ne, bne_eq_false_iff_eq, Bool.not_eq_true, Bool.not_eq_false, decide_eq_true_eq, decide_eq_false_iff_not, Bool.and_eq_true, Bool.or_eq_true] at *; first | omega | (subst_vars; omega)) | (simp only [Bool.not_eq_true', Bool.not_eq_false', beq_iff_eq, beq_eq_false_iff_ne, ne_eq, bne_iff_ne, bne_eq_false_iff_eq, Bool.not_eq_true, Bool.not_eq_false, decide_eq_true_eq, decide_eq_false_iff_not, Bool.and_eq_true, Bool.or_eq_true, wrap64] at *; first | omega | (subst_vars; omega))))
end Go.Proofs.Ytkoopcjdpcpknaa
