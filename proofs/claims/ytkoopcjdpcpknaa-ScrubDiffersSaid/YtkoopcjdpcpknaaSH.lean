/- Layer 7: the reference's Between. -/
import Derived.Test.YtkoopcjdpcpknaaSG
namespace Go.Proofs.Ytkoopcjdpcpknaa
open Go.RowKit
set_option linter.unusedVariables false

def bE (gs : List Int) (lo hi : Int) : Int := if lE gs lo 0 0 = 0 then if lE gs hi 0 0 = 0 then if hi < lo then 2 else 0 else lE gs hi 0 0 else lE gs lo 0 0
def bV (gs : List Int) (lo hi : Int) : List Int := if bE gs lo hi = 0 then btl gs lo hi (gs.length + 1) else []
theorem b_lo {gs : List Int} {lo hi : Int} (h : lE gs lo 0 0 ≠ 0) : bE gs lo hi = lE gs lo 0 0 ∧ bV gs lo hi = [] := by
  have h1 : bE gs lo hi = lE gs lo 0 0 := by unfold bE; rw [if_neg h]
  exact ⟨h1, by unfold bV; rw [h1, if_neg h]⟩
theorem b_hi {gs : List Int} {lo hi : Int} (h : lE gs lo 0 0 = 0) (h2 : lE gs hi 0 0 ≠ 0) : bE gs lo hi = lE gs hi 0 0 ∧ bV gs lo hi = [] := by
  have h1 : bE gs lo hi = lE gs hi 0 0 := by unfold bE; rw [if_pos h, if_neg h2]
  exact ⟨h1, by unfold bV; rw [h1, if_neg h2]⟩
theorem b_rev {gs : List Int} {lo hi : Int} (h : lE gs lo 0 0 = 0) (h2 : lE gs hi 0 0 = 0) (h3 : hi < lo) : bE gs lo hi = 2 ∧ bV gs lo hi = [] := by
  have h1 : bE gs lo hi = 2 := by unfold bE; rw [if_pos h, if_pos h2, if_pos h3]
  exact ⟨h1, by unfold bV; rw [h1]; rfl⟩
theorem b_ok {gs : List Int} {lo hi : Int} (h : lE gs lo 0 0 = 0) (h2 : lE gs hi 0 0 = 0) (h3 : ¬ hi < lo) : bE gs lo hi = 0 ∧ bV gs lo hi = btl gs lo hi (gs.length + 1) := by
  have h1 : bE gs lo hi = 0 := by unfold bE; rw [if_pos h, if_pos h2, if_neg h3]
  exact ⟨h1, by unfold bV; rw [h1]; rfl⟩

def BtRel (gs : List Int) (lo hi : Int) (n : Nat) (w : World) (v10 v11 : Value) (wr : World) : Prop :=
  ∃ k : Nat, k ≤ n + 1 ∧ v11 = .int .i64 k ∧ Mine w.heap.size wr v10 (btl gs lo hi k) ∧ Below w.heap.size w wr

end Go.Proofs.Ytkoopcjdpcpknaa
