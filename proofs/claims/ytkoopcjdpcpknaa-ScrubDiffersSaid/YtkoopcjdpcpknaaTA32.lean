/- Layer 32: one car, one way for both. -/
import Derived.Test.YtkoopcjdpcpknaaOgA
namespace Go.Proofs.Ytkoopcjdpcpknaa
open Go Go.RowKit
set_option linter.unusedVariables false
set_option linter.unusedSimpArgs false
/-- the error of a car -/
noncomputable def ckS (gs : List Int) (x : Shn) : Int := if ckE gs = 0 then (if 0 ≤ x.1 ∧ x.1 ≤ 3 ∧ 0 ≤ x.2.2.2.2.1 ∧ x.2.2.2.2.1 ≤ htV gs ∧ 0 ≤ x.2.2.2.2.2 ∧ x.2.2.2.2.2 ≤ 20 then 0 else 2) else ckE gs
/-- what is shown of a car -/
noncomputable def shS (gs : List Int) (m : Int) (x : Shn) : Sgt :=
  if x.1 ≠ m then (-1, 0, false) else if x.2.1 = false then (-1, 0, true) else if x.2.2.1 = true then (-1, x.2.2.2.2.2, true) else if x.2.2.2.1 = true then (-1, 0, false) else (nV gs x.2.2.2.2.1, x.2.2.2.2.2, false)
theorem psc_eq (gs : List Int) (a : Int) (b c d : Bool) (p q : Int) : psc_c0 gs a b c d p q = ckS gs (a, b, c, d, p, q) := by
  unfold psc_c0 ckS
  by_cases h : ckE gs = 0
  · rw [if_pos h, show (ckE gs != 0) = false by simp [h], cond_false]
    dsimp only
    by_cases h1 : a ≥ 0
    · by_cases h2 : a ≤ 3
      · by_cases h3 : p ≥ 0
        · by_cases h4 : p ≤ htV gs
          · by_cases h5 : q ≥ 0
            · by_cases h6 : q ≤ 20
              · simp [h1, h2, h3, h4, h5, h6]
              · simp [h1, h2, h3, h4, h5, h6]
            · simp [h1, h2, h3, h4, h5]
          · simp [h1, h2, h3, h4]
        · simp [h1, h2, h3]
      · simp [h1, h2]
    · simp [h1]
  · rw [if_neg h, show (ckE gs != 0) = true by simpa using h, cond_true]
theorem rsc_eq (gs : List Int) (a : Int) (b c d : Bool) (p q : Int) : rsc_c0 gs a b c d p q = ckS gs (a, b, c, d, p, q) := by
  unfold rsc_c0 ckS
  by_cases h : ckE gs = 0
  · rw [if_pos h, show (ckE gs != 0) = false by simp [h], cond_false]
    dsimp only
    by_cases h0 : 0 ≤ a ∧ a ≤ 3 ∧ 0 ≤ p ∧ p ≤ htV gs ∧ 0 ≤ q ∧ q ≤ 20
    · rw [if_pos h0]
      obtain ⟨h1, h2, h3, h4, h5, h6⟩ := h0
      rw [decide_eq_false (by omega), cond_false, decide_eq_false (by omega), cond_false, decide_eq_false (by omega), cond_false, decide_eq_false (by omega), cond_false, decide_eq_false (by omega), cond_false, decide_eq_false (by omega), cond_false]
    · rw [if_neg h0]
      by_cases h1 : a < 0
      · rw [decide_eq_true h1, cond_true]
      rw [decide_eq_false h1, cond_false]
      by_cases h2 : a > 3
      · rw [decide_eq_true h2, cond_true]
      rw [decide_eq_false h2, cond_false]
      by_cases h3 : p < 0
      · rw [decide_eq_true h3, cond_true]
      rw [decide_eq_false h3, cond_false]
      by_cases h4 : p > htV gs
      · rw [decide_eq_true h4, cond_true]
      rw [decide_eq_false h4, cond_false]
      by_cases h5 : q < 0
      · rw [decide_eq_true h5, cond_true]
      rw [decide_eq_false h5, cond_false, decide_eq_true (by omega), cond_true]
  · rw [if_neg h, show (ckE gs != 0) = true by simpa using h, cond_true]
theorem psh_eq (gs : List Int) (m a : Int) (b c d : Bool) (p q : Int) : psh_c0 gs m a b c d p q = (shS gs m (a, b, c, d, p, q)).1 ∧ psh_c1 gs m a b c d p q = (shS gs m (a, b, c, d, p, q)).2.1 ∧ psh_c2 gs m a b c d p q = (shS gs m (a, b, c, d, p, q)).2.2 := by
  unfold psh_c0 psh_c1 psh_c2 shS
  dsimp only
  by_cases h : a = m
  · rw [if_neg (by simpa using h), show (a != m) = false by simpa using h]
    cases b <;> cases c <;> cases d <;> simp
  · rw [if_pos h, show (a != m) = true by simpa using h]
    simp
theorem rsh_eq (gs : List Int) (m a : Int) (b c d : Bool) (p q : Int) : rsh_c0 gs m a b c d p q = (shS gs m (a, b, c, d, p, q)).1 ∧ rsh_c1 gs m a b c d p q = (shS gs m (a, b, c, d, p, q)).2.1 ∧ rsh_c2 gs m a b c d p q = (shS gs m (a, b, c, d, p, q)).2.2 := by
  unfold rsh_c0 rsh_c1 rsh_c2 shS
  dsimp only
  by_cases h : a = m
  · rw [if_neg (by simpa using h), show (a != m) = false by simpa using h]
    cases b <;> cases c <;> cases d <;> simp
  · rw [if_pos h, show (a != m) = true by simpa using h]
    simp
theorem cks_p (gs : List Int) (a : Int) (b c d : Bool) (p q : Int) (hx : gs.length ≤ 70) : KnownR Try.prog [] 14 [.list (rowA gI gs) gs.length, .val (.agg #[.int .i64 a, .bool b, .bool c, .bool d, .int .i64 p, .int .i64 q])] (.int .i64 (ckS gs (a, b, c, d, p, q))) [] := by
  rw [← psc_eq]; exact psc gs a b c d p q hx
theorem cks_r (gs : List Int) (a : Int) (b c d : Bool) (p q : Int) (hx : gs.length ≤ 70) : KnownR Try.prog [] 15 [.list (rowA gI gs) gs.length, .val (.agg #[.int .i64 a, .bool b, .bool c, .bool d, .int .i64 p, .int .i64 q])] (.int .i64 (ckS gs (a, b, c, d, p, q))) [] := by
  rw [← rsc_eq]; exact rsc gs a b c d p q hx
theorem shs_p (gs : List Int) (m a : Int) (b c d : Bool) (p q : Int) (hx : gs.length ≤ 70) : KnownR Try.prog [] 27 [.list (rowA gI gs) gs.length, .val (.int .i64 m), .val (.agg #[.int .i64 a, .bool b, .bool c, .bool d, .int .i64 p, .int .i64 q])] (.agg #[.int .i64 (shS gs m (a, b, c, d, p, q)).1, .int .i64 (shS gs m (a, b, c, d, p, q)).2.1, .bool (shS gs m (a, b, c, d, p, q)).2.2]) [] := by
  obtain ⟨e0, e1, e2⟩ := psh_eq gs m a b c d p q
  rw [← e0, ← e1, ← e2]; exact psh gs m a b c d p q hx
theorem shs_r (gs : List Int) (m a : Int) (b c d : Bool) (p q : Int) (hx : gs.length ≤ 70) : KnownR Try.prog [] 29 [.list (rowA gI gs) gs.length, .val (.int .i64 m), .val (.agg #[.int .i64 a, .bool b, .bool c, .bool d, .int .i64 p, .int .i64 q])] (.agg #[.int .i64 (shS gs m (a, b, c, d, p, q)).1, .int .i64 (shS gs m (a, b, c, d, p, q)).2.1, .bool (shS gs m (a, b, c, d, p, q)).2.2]) [] := by
  obtain ⟨e0, e1, e2⟩ := rsh_eq gs m a b c d p q
  rw [← e0, ← e1, ← e2]; exact rsh gs m a b c d p q hx
/-- what two sights differ in -/
noncomputable def dfL (a c : Sgt) : List Int := (if a.1 = c.1 then [] else [1]) ++ ((if a.2.1 = c.2.1 then [] else [2]) ++ (if a.2.2 = c.2.2 then [] else [3]))
theorem pdf_eq (a p : Int) (b : Bool) (c q : Int) (d : Bool) : pdf_c0 a p b c q d = dfL (a, p, b) (c, q, d) := by
  unfold pdf_c0 dfL
  have q1 : (a == c) = decide (a = c) := rfl
  have q2 : (p == q) = decide (p = q) := rfl
  have q3 : (b == d) = decide (b = d) := by cases b <;> cases d <;> rfl
  simp only [bne, q1, q2, q3]
  by_cases h1 : a = c <;> by_cases h2 : p = q <;> by_cases h3 : b = d <;> simp [h1, h2, h3]
theorem rdf_eq (a p : Int) (b : Bool) (c q : Int) (d : Bool) : rdf_c0 a p b c q d = dfL (a, p, b) (c, q, d) := by
  unfold rdf_c0 dfL
  have q1 : (a == c) = decide (a = c) := rfl
  have q2 : (p == q) = decide (p = q) := rfl
  have q3 : (b == d) = decide (b = d) := by cases b <;> cases d <;> rfl
  simp only [bne, q1, q2, q3]
  by_cases h1 : a = c <;> by_cases h2 : p = q <;> by_cases h3 : b = d <;> simp [h1, h2, h3]
end Go.Proofs.Ytkoopcjdpcpknaa
