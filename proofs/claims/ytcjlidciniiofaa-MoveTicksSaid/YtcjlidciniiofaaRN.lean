/- Layer 8: the next speed, one way for program and reference; a ride as a list of speeds. -/
import Derived.Test.YtcjlidciniiofaaOgN
import Derived.Test.YtcjlidciniiofaaRA2
namespace Go.Proofs.Ytcjlidciniiofaa
open Go Go.RowKit
set_option linter.unusedVariables false
set_option linter.unusedSimpArgs false
theorem cond_split {α : Type} {b : Bool} {x y r : α} (h1 : b = true → x = r) (h2 : b = false → y = r) : (bif b then x else y) = r := by
  cases b
  · exact h2 rfl
  · exact h1 rfl
/-- the next speed -/
def nxV (m v l : Int) : Int := if v + 1 ≤ m ∧ rT (v + 1) ≤ l then v + 1 else if 1 ≤ v ∧ rT v ≤ l then v else v - 1
theorem nxV_is {m v l : Int} (h0 : 0 ≤ v) (h1 : v ≤ m) (hm : 1 ≤ m) (hl : 1 ≤ l) (hs : v = 0 ∨ rT (v - 1) ≤ l) : NextV m v l (nxV m v l) := by
  have z : rT 1 = 1 := by decide
  unfold nxV
  split
  · rename_i c; exact .inl ⟨rfl, c.1, c.2⟩
  · rename_i c
    split
    · rename_i d; exact .inr (.inl ⟨rfl, d.1, d.2, by omega⟩)
    · rename_i d
      have : 2 ≤ v := by
        rcases (by omega : v = 0 ∨ v = 1 ∨ 2 ≤ v) with e | e | e
        · subst e; simp at c; omega
        · subst e; omega
        · exact e
      exact .inr (.inr ⟨rfl, this, by omega, by omega⟩)
def RdV (m v l : Int) : Prop := 0 ≤ v ∧ v ≤ m ∧ 1 ≤ m ∧ m ≤ 20 ∧ 1 ≤ l ∧ l ≤ 63000 ∧ (v = 0 ∨ rT (v - 1) ≤ l)
theorem pFa_is {v l m : Int} (h : RdV m v l) : Known Try.prog [] 76 [.int .i64 v, .int .i64 l, .int .i64 m] (.int .i64 (nxV m v l)) := by
  obtain ⟨a1, a2, a3, a4, a5, a6, a7⟩ := h
  have k := pFa v l m (by omega) (by omega)
  have hn := nxV_is (l := l) a1 a2 a3 a5 a7
  have ts := rT_succ (v := v)
  have tp := rT_pred (v := v)
  have e : pFa_c0 v l m = nxV m v l := by
    unfold pFa_c0
    simp (disch := omega) only [w8]
    unfold NextV at hn
    generalize nxV m v l = x at *
    rcases hn with ⟨g1, k1, k2⟩ | ⟨g1, k1, k2, k3⟩ | ⟨g1, k1, k2, k3⟩
    all_goals subst g1
    all_goals repeat' (refine cond_split ?_ ?_ <;> intro)
    all_goals simp only [decide_eq_true_eq, decide_eq_false_iff_not, Bool.not_eq_true', Bool.not_eq_false', beq_iff_eq, beq_eq_false_iff_ne, ne_eq] at *
    all_goals omega
  rw [e] at k
  exact k
theorem rNx_is {v l m : Int} (h : RdV m v l) : Known Try.prog [] 59 [.int .i64 v, .int .i64 l, .int .i64 m] (.int .i64 (nxV m v l)) := by
  obtain ⟨a1, a2, a3, a4, a5, a6, a7⟩ := h
  have k := rNx v l m (by omega) (by omega)
  have hn := nxV_is (l := l) a1 a2 a3 a5 a7
  have ts := rT_succ (v := v)
  have tp := rT_pred (v := v)
  have e : rNx_c0 v l m = nxV m v l := by
    unfold rNx_c0
    simp (disch := omega) only [w8, show v + 1 - 1 = v by omega]
    unfold NextV at hn
    generalize nxV m v l = x at *
    rcases hn with ⟨g1, k1, k2⟩ | ⟨g1, k1, k2, k3⟩ | ⟨g1, k1, k2, k3⟩
    all_goals subst g1
    all_goals repeat' (refine cond_split ?_ ?_ <;> intro)
    all_goals simp only [decide_eq_true_eq, decide_eq_false_iff_not, Bool.not_eq_true', Bool.not_eq_false', beq_iff_eq, beq_eq_false_iff_ne, ne_eq] at *
    all_goals omega
  rw [e] at k
  exact k
end Go.Proofs.Ytcjlidciniiofaa
