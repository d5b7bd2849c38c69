/- Layer 7: the reference's Nearest, At. -/
import Derived.Test.YtcjlidciniiofaaSF
namespace Go.Proofs.Ytcjlidciniiofaa
open Go.RowKit
set_option linter.unusedVariables false

def nV (gs : List Int) (p : Int) : Int := if lE gs p 0 0 = 0 then nearF gs p gs.length else 0
theorem nV_bad {gs : List Int} {p : Int} (h : lE gs p 0 0 ≠ 0) : nV gs p = 0 := by unfold nV; rw [if_neg h]
theorem nV_ok {gs : List Int} {p : Int} (h : lE gs p 0 0 = 0) : nV gs p = nearF gs p gs.length := by unfold nV; rw [if_pos h]

def NrRel (gs : List Int) (p : Int) (n : Nat) (w : World) (v8 v9 : Value) (wr : World) : Prop :=
  ∃ j : Nat, j ≤ n ∧ v9 = .int .i64 ((j : Int) + 1) ∧ v8 = .int .i64 (nearF gs p j) ∧ Below w.heap.size w wr

theorem lE_tol {gs : List Int} {p t : Int} (h : lE gs p 0 t = 0) : lE gs p 0 0 = 0 := by
  obtain ⟨h1, h2⟩ := lE_zero h
  unfold Askable at h2
  refine lE_ok h1 ?_
  unfold Askable; omega
def aE (gs : List Int) (p t : Int) : Int := if lE gs p 0 t = 0 then if t < ab (pos gs (nearF gs p gs.length)) p then 6 else 0 else lE gs p 0 t
def aV (gs : List Int) (p t : Int) : Int := if aE gs p t = 0 then nearF gs p gs.length else 0
theorem a_bad {gs : List Int} {p t : Int} (h : lE gs p 0 t ≠ 0) : aE gs p t = lE gs p 0 t ∧ aV gs p t = 0 := by
  have h1 : aE gs p t = lE gs p 0 t := by unfold aE; rw [if_neg h]
  exact ⟨h1, by unfold aV; rw [h1, if_neg h]⟩
theorem a_far {gs : List Int} {p t : Int} (h : lE gs p 0 t = 0) (h2 : t < ab (pos gs (nearF gs p gs.length)) p) : aE gs p t = 6 ∧ aV gs p t = 0 := by
  have h1 : aE gs p t = 6 := by unfold aE; rw [if_pos h, if_pos h2]
  exact ⟨h1, by unfold aV; rw [h1]; rfl⟩
theorem a_ok {gs : List Int} {p t : Int} (h : lE gs p 0 t = 0) (h2 : ¬ t < ab (pos gs (nearF gs p gs.length)) p) : aE gs p t = 0 ∧ aV gs p t = nearF gs p gs.length := by
  have h1 : aE gs p t = 0 := by unfold aE; rw [if_pos h, if_neg h2]
  exact ⟨h1, by unfold aV; rw [h1]; rfl⟩

end Go.Proofs.Ytcjlidciniiofaa
