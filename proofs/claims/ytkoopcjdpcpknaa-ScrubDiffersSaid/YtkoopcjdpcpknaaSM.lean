/- Layer 7: the program's Distance, Between. -/
import Derived.Test.YtkoopcjdpcpknaaSL
namespace Go.Proofs.Ytkoopcjdpcpknaa
open Go.RowKit
set_option linter.unusedVariables false

theorem lE0_f {gs : List Int} {f : Int} (h : ckE gs = 0) : lE gs 0 f 0 = if inF gs f = true then 0 else 2 := by
  have h0 : inS gs 0 = true := inS_d.2 ⟨by omega, by have := pos_low (fine_of h) gs.length (Nat.le_refl _); omega⟩
  by_cases h1 : inF gs f = true
  · rw [if_pos h1, lE_fine h h0 h1 (by omega) (by omega)]
  · rw [if_neg h1, lE_two h (.inr (.inl (by simpa using h1)))]
theorem lE0_p {gs : List Int} {p : Int} (h : ckE gs = 0) : lE gs p 0 0 = if inS gs p = true then 0 else 2 := by
  by_cases h1 : inS gs p = true
  · rw [if_pos h1, lE_fine h h1 (inF_d.2 ⟨by omega, by omega⟩) (by omega) (by omega)]
  · rw [if_neg h1, lE_two h (.inl (by simpa using h1))]

theorem bE_bad {gs : List Int} {lo hi : Int} (h : bE gs lo hi ≠ 0) : bV gs lo hi = [] := by unfold bV; rw [if_neg h]
theorem bE_is {gs : List Int} {lo hi : Int} (h : ckE gs = 0) : bE gs lo hi = if inS gs lo = true ∧ inS gs hi = true ∧ ¬ hi < lo then 0 else 2 := by
  unfold bE
  rw [lE0_p h, lE0_p h]
  cases inS gs lo <;> cases inS gs hi <;> by_cases h5 : hi < lo <;> simp [h5] <;> omega

def BpRel (gs : List Int) (lo hi : Int) (r n : Nat) (w : World) (v10 v11 : Value) (wr : World) : Prop :=
  ∃ k : Nat, r ≤ k ∧ k ≤ n + 1 ∧ v11 = .int .i64 k ∧ Mine w.heap.size wr v10 (btl gs lo hi k) ∧ Below w.heap.size w wr

end Go.Proofs.Ytkoopcjdpcpknaa
