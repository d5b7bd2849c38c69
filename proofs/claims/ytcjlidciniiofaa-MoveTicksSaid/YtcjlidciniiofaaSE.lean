/- Layer 7: Positions of both; the reference's Height, asked, apart. -/
import Derived.Test.YtcjlidciniiofaaSD
namespace Go.Proofs.Ytcjlidciniiofaa
open Go.RowKit
set_option linter.unusedVariables false

/-- a slice and an error come back -/
def OutInts (xs : List Int) (err : Int) (w : World) (e : Ending) (w' : World) : Prop :=
  ∃ A cap, e = .returned (.tuple #[.slice A xs.length cap, .int .i64 err]) ∧ Ints w' A xs ∧ xs.length ≤ maxLen ∧ Below w.heap.size w w'
theorem outMine {xs : List Int} {E : Int} {B : Nat} {v : Value} {w w' : World} (hm : Mine B w' v xs) (hb : Below w.heap.size w w') : OutInts xs E w (.returned (.tuple #[v, .int .i64 E])) w' := by
  obtain ⟨A, cap, rfl, hi, hl⟩ := hm.slice
  exact ⟨A, cap, rfl, hi, hl, hb⟩

def posOut (gs : List Int) : List Int := if ckE gs = 0 then posl gs (gs.length + 1) else []
theorem posOut_ok {gs : List Int} (h : ckE gs = 0) : posOut gs = posl gs (gs.length + 1) := by unfold posOut; rw [if_pos h]
theorem posOut_bad {gs : List Int} (h : ckE gs ≠ 0) : posOut gs = [] := by unfold posOut; rw [if_neg h]

def htV (gs : List Int) : Int := if ckE gs = 0 then pos gs gs.length else 0
theorem htV_ok {gs : List Int} (h : ckE gs = 0) : htV gs = pos gs gs.length := by unfold htV; rw [if_pos h]
theorem htV_bad {gs : List Int} (h : ckE gs ≠ 0) : htV gs = 0 := by unfold htV; rw [if_neg h]

theorem rHeight (gs : List Int) (A : Option Addr) (n cap : Nat) (w : World) (hn : gs.length = n) (hm : n ≤ 1000) (hA : Ints w A gs) :
    Calls Try.prog 26 #[.slice A n cap] w (Out2 (htV gs) (ckE gs) w) := by
  by_cases hck : ckE gs = 0
  · rw [htV_ok hck, hck, hn]
    have HCK := Lib.hid hck
    have HF := Lib.hid (fine_of hck)
    clear hck
    go_enter Try.func26, Try.ntmps26
    go_wp2_with fail
    refine (rCheck gs A n cap _ hn hm (hA.step (by repeat (first | exact Below.refl _ _ | apply keep_alloc | apply keep_drew | apply keep_drewN | refine keep_step (by assumption) ?_ (by rfl) | refine keep_set ?_ _ _ (by first | exact Nat.le_refl _ | (show _ ≤ _; simp; done) | (show _ ≤ _; simp; omega)))))).mono ?_
    rintro _ w1 ⟨rfl, hb1⟩
    rw [HCK.out]
    go_wp2_with fail
    refine (rpositions gs A n cap _ hn HF.out (hA.step (by repeat (first | exact Below.refl _ _ | apply keep_alloc | apply keep_drew | apply keep_drewN | refine keep_step (by assumption) ?_ (by rfl) | refine keep_set ?_ _ _ (by first | exact Nat.le_refl _ | (show _ ≤ _; simp; done) | (show _ ≤ _; simp; omega)))))).mono ?_
    rintro _ w2 ⟨B, c, rfl, hi2, hb2⟩
    obtain ⟨b, o, rfl, hc⟩ := hi2.cell (k := n) (by rw [posl_len]; omega)
    have c1 := hc n (by rw [posl_len]; omega)
    rw [posl_nth _ _ _ (by omega)] at c1
    clear hc
    go_wp2
    go_ret2
    exact out2 rfl rfl (by repeat (first | exact Below.refl _ _ | apply keep_alloc | apply keep_drew | apply keep_drewN | refine keep_step (by assumption) ?_ (by rfl) | refine keep_set ?_ _ _ (by first | exact Nat.le_refl _ | (show _ ≤ _; simp; done) | (show _ ≤ _; simp; omega))))
  · have hb0 : (ckE gs != 0) = true := by simp [hck]
    rw [htV_bad hck]
    clear hck
    go_enter Try.func26, Try.ntmps26
    go_wp2_with fail
    refine (rCheck gs A n cap _ hn hm (hA.step (by repeat (first | exact Below.refl _ _ | apply keep_alloc | apply keep_drew | apply keep_drewN | refine keep_step (by assumption) ?_ (by rfl) | refine keep_set ?_ _ _ (by first | exact Nat.le_refl _ | (show _ ≤ _; simp; done) | (show _ ≤ _; simp; omega)))))).mono ?_
    rintro _ w1 ⟨rfl, hb1⟩
    go_wp2
    go_ret2
    exact out2 rfl rfl (by repeat (first | exact Below.refl _ _ | apply keep_alloc | apply keep_drew | apply keep_drewN | refine keep_step (by assumption) ?_ (by rfl) | refine keep_set ?_ _ _ (by first | exact Nat.le_refl _ | (show _ ≤ _; simp; done) | (show _ ≤ _; simp; omega))))

def Near (x : Int) : Prop := -1000000 ≤ x ∧ x ≤ 1000000
end Go.Proofs.Ytcjlidciniiofaa
