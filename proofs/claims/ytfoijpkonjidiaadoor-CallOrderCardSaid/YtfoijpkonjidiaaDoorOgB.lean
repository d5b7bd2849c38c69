/- Layer 20: CallOrder. -/
import Derived.Test.YtfoijpkonjidiaaDoorOgA
import Derived.ProofKit
import Derived.IntWalk
namespace Go.Proofs.YtfoijpkonjidiaaDoor
open Go Go.RowKit
set_option linter.unusedVariables false
set_option linter.unusedSimpArgs false
set_option linter.unnecessarySimpa false
set_option linter.unusedSimpArgs false
def Good (p' p q r : Int) (e : Prop) : Prop := p' = -p ∧ -1 ≤ p ∧ p ≤ 1 ∧ (p = 0 ↔ e) ∧ (p = 0 → r = q) ∧ (q = 0 → r = p) ∧ (p < 0 → q ≤ 0 → r < 0) ∧ (p ≤ 0 → q < 0 → r < 0)
def lx (f g : Int) : Int := if f = 0 then g else f
theorem good_c (x y z : Int) : Good (cmpI_c0 y x) (cmpI_c0 x y) (cmpI_c0 y z) (cmpI_c0 x z) (x = y) := by
  unfold cmpI_c0 Good
  simp only [Bool.cond_decide]
  refine ⟨?_, ?_, ?_, ?_, ?_, ?_, ?_, ?_⟩ <;> omega
theorem good_lx {p' p q r p1' p1 q1 r1 : Int} {e e1 : Prop} (h : Good p' p q r e) (k : Good p1' p1 q1 r1 e1) : Good (lx p' p1') (lx p p1) (lx q q1) (lx r r1) (e ∧ e1) := by
  obtain ⟨h1, h2, h3, h4, h5, h6, h7, h8⟩ := h
  obtain ⟨k1, k2, k3, k4, k5, k6, k7, k8⟩ := k
  unfold lx
  refine ⟨?_, ?_, ?_, ?_, ?_, ?_, ?_, ?_⟩
  · split <;> split <;> omega
  · split <;> omega
  · split <;> omega
  · rw [← h4, ← k4]; split <;> omega
  · intro a; split at a <;> rename_i c
    · rw [h5 c]; split
      · exact k5 a
      · rfl
    · exact absurd a c
  · intro a; split at a <;> rename_i c
    · rw [h6 c]; split
      · exact k6 a
      · rfl
    · exact absurd a c
  · intro a b
    split at a <;> rename_i c1
    · have e1 := h5 c1
      split at b <;> rename_i c2
      · rw [if_pos (by omega)]; exact k7 a b
      · rw [if_neg (by omega)]; omega
    · split at b <;> rename_i c2
      · have e2 := h6 c2
        rw [if_neg (by omega)]; omega
      · have := h7 a b
        rw [if_neg (by omega)]; exact this
  · intro a b
    split at b <;> rename_i c2
    · have e2 := h6 c2
      split at a <;> rename_i c1
      · rw [if_pos (by omega)]; exact k8 a b
      · rw [if_neg (by omega)]; omega
    · split at a <;> rename_i c1
      · have e1 := h5 c1
        rw [if_neg (by omega)]; omega
      · have := h8 a b
        rw [if_neg (by omega)]; exact this
theorem pCmp_lx (a b c d e f g h : Int) : pCmp_c0 a b c d e f g h = lx (cmpI_c0 d h) (lx (cmpI_c0 a e) (lx (cmpI_c0 b f) (lx (cmpI_c0 c g) 0))) := by
  have key : ∀ x y : Int, (bif (x != 0) then x else y) = lx x y := fun x y => by
    unfold lx
    by_cases c : x = 0
    · subst c; rfl
    · rw [if_neg c, show (x != 0) = true by simpa using c]; rfl
  unfold pCmp_c0
  simp only [key]
theorem good_all (a b c d e f g h i j k l : Int) : Good (pCmp_c0 e f g h a b c d) (pCmp_c0 a b c d e f g h) (pCmp_c0 e f g h i j k l) (pCmp_c0 a b c d i j k l) (d = h ∧ a = e ∧ b = f ∧ c = g ∧ True) := by
  simp only [pCmp_lx]
  exact good_lx (good_c d h l) (good_lx (good_c a e i) (good_lx (good_c b f j) (good_lx (good_c c g k) (by unfold Good; simp))))
theorem order_true (x y z : Int) : lawOrder_c0 x y z = true := by
  obtain ⟨h1, h2, h3, h4, h5, h6, h7, h8⟩ := good_all (pMade_c0 x) (pMade_c1 x) (pMade_c2 x) (pMade_c3 x) (pMade_c0 y) (pMade_c1 y) (pMade_c2 y) (pMade_c3 y) (pMade_c0 z) (pMade_c1 z) (pMade_c2 z) (pMade_c3 z)
  unfold lawOrder_c0 pSame_c0
  generalize pCmp_c0 (pMade_c0 y) (pMade_c1 y) (pMade_c2 y) (pMade_c3 y) (pMade_c0 x) (pMade_c1 x) (pMade_c2 x) (pMade_c3 x) = p' at *
  generalize pCmp_c0 (pMade_c0 x) (pMade_c1 x) (pMade_c2 x) (pMade_c3 x) (pMade_c0 y) (pMade_c1 y) (pMade_c2 y) (pMade_c3 y) = p at *
  generalize pCmp_c0 (pMade_c0 y) (pMade_c1 y) (pMade_c2 y) (pMade_c3 y) (pMade_c0 z) (pMade_c1 z) (pMade_c2 z) (pMade_c3 z) = q at *
  generalize pCmp_c0 (pMade_c0 x) (pMade_c1 x) (pMade_c2 x) (pMade_c3 x) (pMade_c0 z) (pMade_c1 z) (pMade_c2 z) (pMade_c3 z) = r at *
  have w : IntKind.i64.wrap (0 - p) = -p := by rw [IntKind.wrap_i64]; omega
  have eqb : (pMade_c0 x == pMade_c0 y && (pMade_c1 x == pMade_c1 y && (pMade_c2 x == pMade_c2 y && pMade_c3 x == pMade_c3 y))) = (p == 0) := by
    rw [Bool.eq_iff_iff]
    simp only [Bool.and_eq_true, beq_iff_eq]
    rw [h4]
    constructor
    · rintro ⟨a, b, c, d⟩; exact ⟨d, a, b, c, trivial⟩
    · rintro ⟨d, a, b, c, _⟩; exact ⟨a, b, c, d⟩
  have sm : p = 0 → (pMade_c0 x == pMade_c0 y && (pMade_c1 x == pMade_c1 y && pMade_c2 x == pMade_c2 y)) = true := fun e => by
    obtain ⟨d, a, b, c, _⟩ := h4.1 e
    simp [a, b, c]
  rw [w, eqb, show (p' == -p) = true by simpa using h1, cond_true, show ((p == 0) == (p == 0)) = true by simp, cond_true]
  by_cases c : p = 0
  · rw [show (p != 0) = false by simp [c], cond_false, sm c, cond_true]
    by_cases c1 : q > 0
    · rw [decide_eq_true c1, cond_true]
    · rw [decide_eq_false c1, cond_false, decide_eq_true (by have := h5 c; omega), cond_true]
  · rw [show (p != 0) = true by simpa using c, cond_true]
    by_cases c2 : p > 0
    · rw [decide_eq_true c2, cond_true]
    · rw [decide_eq_false c2, cond_false]
      by_cases c1 : q > 0
      · rw [decide_eq_true c1, cond_true]
      · have := h7 (by omega) (by omega)
        rw [decide_eq_false c1, cond_false, decide_eq_true (by omega), cond_true, decide_eq_true this]
theorem lawOrderT (x y z : Int) : Known Tryd.prog knCallKnownL 7 [.int .i64 x, .int .i64 y, .int .i64 z] (.bool true) := by
  rw [← order_true x y z]; exact lawOrder x y z
abbrev knCallOrderL : Vars := knCallKnownL
def In64 (n : Int) : Prop := -9223372036854775808 ≤ n ∧ n ≤ 9223372036854775807
theorem callOrder_true (x y z : Int) (w : World) (_ : In64 x) (_ : In64 y) (_ : In64 z) (hl : LaidL knCallKnownL w) : Calls Tryd.prog 7 #[.int .i64 x, .int .i64 y, .int .i64 z] w fun e w' => e = .returned (.bool true) ∧ Below w.heap.size w w' :=
  (lawOrderT x y z).2.2 w hl
end Go.Proofs.YtfoijpkonjidiaaDoor
