/- Layer 32: Show, Same, of both: one way. -/
import Derived.Test.YtkoopcjdpcpknaaOgD
namespace Go.Proofs.Ytkoopcjdpcpknaa
open Go Go.RowKit
set_option linter.unusedVariables false
set_option linter.unusedSimpArgs false
/-- the sight of one car -/
noncomputable def shw (gs : List Int) (m : Int) (x : Shn) : Sgt := if alE gs m [x] = 0 then shS gs m x else (0, 0, false)
/-- whether two cars are shown alike -/
noncomputable def smB (gs : List Int) (m : Int) (x y : Shn) : Bool := if alE gs m [x, y] = 0 then decide (shS gs m x = shS gs m y) else false
theorem al_some {gs : List Int} {m : Int} {xs : List Shn} (h : alE gs m xs = 0) : alL gs m xs = xs.map (shS gs m) := by unfold alL; rw [if_pos h]
theorem al_one (gs : List Int) (m : Int) (x : Shn) (h : alE gs m [x] = 0) : (alL gs m [x]).length = 1 := by rw [al_some h]; rfl
theorem al_two (gs : List Int) (m : Int) (x y : Shn) (h : alE gs m [x, y] = 0) : (alL gs m [x, y]).length = 2 := by rw [al_some h]; rfl
theorem df_nil (x y : Sgt) : ((dfL x y).length : Int) = 0 ↔ x = y := by
  obtain ⟨a, b, c⟩ := x
  obtain ⟨d, e, f⟩ := y
  unfold dfL
  dsimp only
  by_cases h1 : a = d <;> by_cases h2 : b = e <;> by_cases h3 : c = f <;> simp [h1, h2, h3] <;> omega
theorem sgt_eq (x y : Sgt) : (x.1 == y.1 && (x.2.1 == y.2.1 && x.2.2 == y.2.2)) = decide (x = y) := by
  obtain ⟨a, b, c⟩ := x
  obtain ⟨d, e, f⟩ := y
  dsimp only
  have q1 : (a == d) = decide (a = d) := rfl
  have q2 : (b == e) = decide (b = e) := rfl
  have q3 : (c == f) = decide (c = f) := by cases c <;> cases f <;> rfl
  rw [q1, q2, q3]
  by_cases h1 : a = d <;> by_cases h2 : b = e <;> by_cases h3 : c = f <;> simp [h1, h2, h3]
theorem pshow_is (gs : List Int) (m a : Int) (b c d : Bool) (p q : Int) (hx : gs.length ≤ 70) : KnownR Try.prog [] 12 [.list (rowA gI gs) gs.length, .val (.int .i64 m), .val (.agg #[.int .i64 a, .bool b, .bool c, .bool d, .int .i64 p, .int .i64 q])] (.tuple #[.agg #[.int .i64 (shw gs m (a, b, c, d, p, q)).1, .int .i64 (shw gs m (a, b, c, d, p, q)).2.1, .bool (shw gs m (a, b, c, d, p, q)).2.2], .int .i64 (alE gs m [(a, b, c, d, p, q)])]) [] := by
  have k := psw gs m a b c d p q hx (al_one gs m _)
  unfold psw_c0 psw_c1 psw_c2 psw_c3 at k
  by_cases h : alE gs m [(a, b, c, d, p, q)] = 0
  · have e : shw gs m (a, b, c, d, p, q) = el (alL gs m [(a, b, c, d, p, q)]) 0 := by unfold shw; rw [if_pos h, al_some h]; rfl
    simp only [show (alE gs m [(a, b, c, d, p, q)] != 0) = false by simp [h], cond_false] at k
    rw [e, h]
    exact k
  · have e : shw gs m (a, b, c, d, p, q) = (0, 0, false) := by unfold shw; rw [if_neg h]
    simp only [show (alE gs m [(a, b, c, d, p, q)] != 0) = true by simpa using h, cond_true] at k
    rw [e]
    exact k
theorem psame_is (gs : List Int) (m a : Int) (b c d : Bool) (p q r : Int) (s t u : Bool) (v x : Int) (hx : gs.length ≤ 70) : KnownR Try.prog [] 17 [.list (rowA gI gs) gs.length, .val (.int .i64 m), .val (.agg #[.int .i64 a, .bool b, .bool c, .bool d, .int .i64 p, .int .i64 q]), .val (.agg #[.int .i64 r, .bool s, .bool t, .bool u, .int .i64 v, .int .i64 x])] (.tuple #[.bool (smB gs m (a, b, c, d, p, q) (r, s, t, u, v, x)), .int .i64 (alE gs m [(a, b, c, d, p, q), (r, s, t, u, v, x)])]) [] := by
  have k := psm gs m a b c d p q r s t u v x hx (al_two gs m _ _)
  unfold psm_c0 psm_c1 at k
  by_cases h : alE gs m [(a, b, c, d, p, q), (r, s, t, u, v, x)] = 0
  · have e : smB gs m (a, b, c, d, p, q) (r, s, t, u, v, x) = (((dfL (el (alL gs m [(a, b, c, d, p, q), (r, s, t, u, v, x)]) 0) (el (alL gs m [(a, b, c, d, p, q), (r, s, t, u, v, x)]) 1)).length : Int) == 0) := by
      have hdn := df_nil (shS gs m (a, b, c, d, p, q)) (shS gs m (r, s, t, u, v, x))
      unfold smB
      rw [if_pos h, al_some h]
      show _ = (((dfL (shS gs m (a, b, c, d, p, q)) (shS gs m (r, s, t, u, v, x))).length : Int) == 0)
      rw [Bool.eq_iff_iff, decide_eq_true_iff, beq_iff_eq]
      exact hdn.symm
    simp only [show (alE gs m [(a, b, c, d, p, q), (r, s, t, u, v, x)] != 0) = false by simp [h], cond_false] at k
    rw [e, h]
    exact k
  · have e : smB gs m (a, b, c, d, p, q) (r, s, t, u, v, x) = false := by unfold smB; rw [if_neg h]
    simp only [show (alE gs m [(a, b, c, d, p, q), (r, s, t, u, v, x)] != 0) = true by simpa using h, cond_true] at k
    rw [e]
    exact k
end Go.Proofs.Ytkoopcjdpcpknaa
