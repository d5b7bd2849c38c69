/- Layer 7: the reference's asked, Level, At, Distance. -/
import Derived.Test.YtkoopcjdpcpknaaSE
namespace Go.Proofs.Ytkoopcjdpcpknaa
open Go.RowKit
set_option linter.unusedVariables false

def Askable (gs : List Int) (p f t : Int) : Prop := 0 ≤ p ∧ p ≤ pos gs gs.length ∧ 0 ≤ f ∧ f ≤ gs.length ∧ 0 ≤ t ∧ t ≤ 20
def lE (gs : List Int) (p f t : Int) : Int := if ckE gs ≠ 0 then ckE gs else if p < 0 ∨ pos gs gs.length < p ∨ f < 0 ∨ gs.length < f ∨ t < 0 ∨ 20 < t then 2 else 0
theorem lE_bad {gs : List Int} {p f t : Int} (h : ckE gs ≠ 0) : lE gs p f t = ckE gs := by unfold lE; rw [if_pos h]
theorem lE_rng {gs : List Int} {p f t : Int} (h : ckE gs = 0) (h2 : ¬ Askable gs p f t) : lE gs p f t = 2 := by unfold Askable at h2; unfold lE; rw [if_neg (by simp [h]), if_pos (by omega)]
theorem lE_ok {gs : List Int} {p f t : Int} (h : ckE gs = 0) (h2 : Askable gs p f t) : lE gs p f t = 0 := by unfold Askable at h2; unfold lE; rw [if_neg (by simp [h]), if_neg (by omega)]
theorem lE_zero {gs : List Int} {p f t : Int} (h : lE gs p f t = 0) : ckE gs = 0 ∧ Askable gs p f t := by
  by_cases h1 : ckE gs = 0
  · by_cases h2 : Askable gs p f t
    · exact ⟨h1, h2⟩
    · rw [lE_rng h1 h2] at h; cases h
  · rw [lE_bad h1] at h; exact absurd h h1

set_option maxHeartbeats 8000000 in
theorem rasked (gs : List Int) (A : Option Addr) (n cap : Nat) (p f t : Int) (w : World) (hn : gs.length = n) (hm : n ≤ 1000) (hA : Ints w A gs) :
    Calls Try.prog 48 #[.slice A n cap, .int .i64 p, .int .i64 f, .int .i64 t] w fun e w' => e = .returned (.int .i64 (lE gs p f t)) ∧ Below w.heap.size w w' := by
  by_cases hck : ckE gs = 0
  · by_cases ha : Askable gs p f t
    · rw [lE_ok hck ha]
      have H2 := Lib.hid (htV_ok hck)
      have HCK := Lib.hid hck
      unfold Askable at ha
      rw [hn] at ha H2
      obtain ⟨a1, a2, a3, a4, a5, a6⟩ := ha
      clear hck
      go_enter Try.func48, Try.ntmps48
      go_wp2_with fail
      refine (rHeight gs A n cap _ hn hm (hA.step (by repeat (first | exact Below.refl _ _ | apply keep_alloc | apply keep_drew | apply keep_drewN | refine keep_step (by assumption) ?_ (by rfl) | refine keep_set ?_ _ _ (by first | exact Nat.le_refl _ | (show _ ≤ _; simp; done) | (show _ ≤ _; simp; omega)))))).mono ?_
      rintro _ w1 ⟨rfl, hb1⟩
      rw [HCK.out, H2.out]
      go_wp2
      go_ret
      exact ⟨rfl, (by repeat (first | exact Below.refl _ _ | apply keep_alloc | apply keep_drew | apply keep_drewN | refine keep_step (by assumption) ?_ (by rfl) | refine keep_set ?_ _ _ (by first | exact Nat.le_refl _ | (show _ ≤ _; simp; done) | (show _ ≤ _; simp; omega))))⟩
    · rw [lE_rng hck ha]
      have H2 := Lib.hid (htV_ok hck)
      have HCK := Lib.hid hck
      unfold Askable at ha
      rw [hn] at ha H2
      clear hck
      have hc : p < 0 ∨ (0 ≤ p ∧ pos gs n < p) ∨ (0 ≤ p ∧ p ≤ pos gs n ∧ f < 0) ∨ (0 ≤ p ∧ p ≤ pos gs n ∧ 0 ≤ f ∧ (n : Int) < f) ∨ (0 ≤ p ∧ p ≤ pos gs n ∧ 0 ≤ f ∧ f ≤ (n : Int) ∧ t < 0) ∨ (0 ≤ p ∧ p ≤ pos gs n ∧ 0 ≤ f ∧ f ≤ (n : Int) ∧ 0 ≤ t ∧ 20 < t) := by omega
      clear ha
      go_enter Try.func48, Try.ntmps48
      go_wp2_with fail
      refine (rHeight gs A n cap _ hn hm (hA.step (by repeat (first | exact Below.refl _ _ | apply keep_alloc | apply keep_drew | apply keep_drewN | refine keep_step (by assumption) ?_ (by rfl) | refine keep_set ?_ _ _ (by first | exact Nat.le_refl _ | (show _ ≤ _; simp; done) | (show _ ≤ _; simp; omega)))))).mono ?_
      rintro _ w1 ⟨rfl, hb1⟩
      rw [HCK.out, H2.out]
      rcases hc with h1 | ⟨h1, h2⟩ | ⟨h1, h2, h3⟩ | ⟨h1, h2, h3, h4⟩ | ⟨h1, h2, h3, h4, h5⟩ | ⟨h1, h2, h3, h4, h5, h6⟩
      all_goals
        go_wp2
        go_ret
        exact ⟨rfl, (by repeat (first | exact Below.refl _ _ | apply keep_alloc | apply keep_drew | apply keep_drewN | refine keep_step (by assumption) ?_ (by rfl) | refine keep_set ?_ _ _ (by first | exact Nat.le_refl _ | (show _ ≤ _; simp; done) | (show _ ≤ _; simp; omega))))⟩
  · rw [lE_bad hck]
    have hb0 : (ckE gs == 0) = false := by simp [hck]
    clear hck
    go_enter Try.func48, Try.ntmps48
    go_wp2_with fail
    refine (rHeight gs A n cap _ hn hm (hA.step (by repeat (first | exact Below.refl _ _ | apply keep_alloc | apply keep_drew | apply keep_drewN | refine keep_step (by assumption) ?_ (by rfl) | refine keep_set ?_ _ _ (by first | exact Nat.le_refl _ | (show _ ≤ _; simp; done) | (show _ ≤ _; simp; omega)))))).mono ?_
    rintro _ w1 ⟨rfl, hb1⟩
    go_wp2
    go_ret
    exact ⟨rfl, (by repeat (first | exact Below.refl _ _ | apply keep_alloc | apply keep_drew | apply keep_drewN | refine keep_step (by assumption) ?_ (by rfl) | refine keep_set ?_ _ _ (by first | exact Nat.le_refl _ | (show _ ≤ _; simp; done) | (show _ ≤ _; simp; omega))))⟩

def OutF (b : Bool) (err : Int) (w : World) (e : Ending) (w' : World) : Prop := e = .returned (.tuple #[.bool b, .int .i64 err]) ∧ Below w.heap.size w w'
theorem outFl {b b' : Bool} {err err' : Int} {w w' : World} (h1 : b = b') (h2 : err = err') (hb : Below w.heap.size w w') : OutF b' err' w (.returned (.tuple #[.bool b, .int .i64 err])) w' := by
  subst h1; subst h2; exact ⟨rfl, hb⟩
def lV (gs : List Int) (p f t : Int) : Bool := decide (lE gs p f t = 0 ∧ ab (pos gs f.toNat) p ≤ t)
theorem lV_bad {gs : List Int} {p f t : Int} (h : lE gs p f t ≠ 0) : lV gs p f t = false := by simp [lV, h]
theorem lV_ok {gs : List Int} {p f t : Int} (h : lE gs p f t = 0) : lV gs p f t = decide (ab (pos gs f.toNat) p ≤ t) := by simp [lV, h]
theorem near_pos {gs : List Int} (h : Fine gs) {k : Nat} (hk : k ≤ gs.length) : Near (pos gs k) := by
  have := pos_low h k hk
  have := h.2.1
  unfold Near; omega
theorem near_ask {gs : List Int} (h : Fine gs) {p : Int} (h1 : 0 ≤ p) (h2 : p ≤ pos gs gs.length) : Near p := by
  have := near_pos h (Nat.le_refl _)
  unfold Near at this ⊢; omega

def dE (gs : List Int) (a b : Int) : Int := if lE gs 0 a 0 = 0 then lE gs 0 b 0 else lE gs 0 a 0
def dV (gs : List Int) (a b : Int) : Int := if dE gs a b = 0 then ab (pos gs a.toNat) (pos gs b.toNat) else 0
theorem dV_bad {gs : List Int} {a b : Int} (h : dE gs a b ≠ 0) : dV gs a b = 0 := by unfold dV; rw [if_neg h]
theorem dV_ok {gs : List Int} {a b : Int} (h : dE gs a b = 0) : dV gs a b = ab (pos gs a.toNat) (pos gs b.toNat) := by unfold dV; rw [if_pos h]

end Go.Proofs.Ytkoopcjdpcpknaa
