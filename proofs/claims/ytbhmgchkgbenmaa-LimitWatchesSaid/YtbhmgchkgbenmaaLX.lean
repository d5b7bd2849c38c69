import Derived.Test.YtbhmgchkgbenmaaLW
import Derived.Test.YtbhmgchkgbenmaaOgX
set_option linter.unusedVariables false
namespace Go.Proofs.Ytbhmgchkgbenmaa
open Go Go.RowKit
theorem wcB_go {xs : List Mv} {u v : Int} {m a5 : List (Int × OIn)} {a1 a2 a4 a6 : Int} {a3 : List Int} : ∀ (k i : Nat) (y : List Int), i + k = 5 → y.length = 5 →
  ∃ y' z, wcB_f xs u v m a1 a2 a3 a4 a5 a6 (k + 1) y m (i : Int) = some (0, (y', m, z)) ∧ y'.length = 5 ∧ ∀ j : Nat, j < 5 → el y'.reverse (j : Int) = if j < i then el y.reverse (j : Int) else cM m ((j : Int) + 1) := by
 intro k
 induction k with
 | zero =>
  intro i y h hy
  refine ⟨y, (i : Int), ?_, hy, fun j hj => ?_⟩
  ·rw [wcB_fs, bif_dT (by omega), bif_dF (by omega)]
  ·rw [if_pos (by omega)]
 | succ k ih =>
  intro i y h hy
  have step : ∀ q : Int, q = cM m ((i : Int) + 1) → ∃ y' z, wcB_f xs u v m a1 a2 a3 a4 a5 a6 (k + 1) (y.reverse.set i q).reverse m ((i + 1 : Nat) : Int) = some (0, (y', m, z)) ∧ y'.length = 5 ∧ ∀ j : Nat, j < 5 → el y'.reverse (j : Int) = if j < i then el y.reverse (j : Int) else cM m ((j : Int) + 1) := fun q hq => by
   obtain ⟨y', z, h1, h2, h3⟩ := ih (i + 1) (y.reverse.set i q).reverse (by omega) (by simp [hy])
   refine ⟨y', z, h1, h2, fun j hj => ?_⟩
   rw [h3 j hj, List.reverse_reverse, el_put (by simp; omega)]
   by_cases e : i = j
   ·subst e; rw [if_pos (by omega), if_pos rfl, if_neg (by omega), hq]
   ·rw [if_neg e]
    by_cases e2 : j < i
    ·rw [if_pos (by omega), if_pos e2]
    ·rw [if_neg (by omega), if_neg e2]
  rw [wcB_fs, bif_dT (by omega), bif_dT (by omega), w8n (n := (i : Int) + 1) (by omega) (by omega), Int.toNat_natCast, show (i : Int) + 1 = ((i + 1 : Nat) : Int) by omega]
  have e0 : ((i + 1 : Nat) : Int) = (i : Int) + 1 := by omega
  cases hh : hasM m ((i + 1 : Nat) : Int) with
  | true =>
   rw [cond_true]
   exact step _ (by rw [← e0]; unfold cM; rw [hh]; rfl)
  | false =>
   rw [cond_false]
   exact step _ (by rw [← e0]; unfold cM; rw [hh]; rfl)
theorem counts_p (xs : List Mv) (u v : Int) : KnownR Try.prog [] 15 [.list (rowA gM xs) xs.length, .val (.int .i64 u), .val (.int .i64 v)] (.tuple #[.complex .f64 0 (cL xs u v).length, .int .i64 (wX xs u v)]) [(rowA gI (cL xs u v), 3)] := by
 by_cases hw : wX xs u v = 0
 ·obtain ⟨hc, h1, h2, h3, h4⟩ := wX0.1 hw
  have hl := (cAll0 hc).1
  have q0 : (cAll xs != (0 : Int)) = false := by simp [hc]
  have q2 : (decide (u < (0 : Int))) = false := by simp; omega
  have q5 : (decide (u > (63000 : Int))) = false := by simp; omega
  have q8 : (decide (v < (1 : Int))) = false := by simp; omega
  have q11 : (decide (v > (20 : Int))) = false := by simp; omega
  have c0 : ∀ j, cM ([] : List (Int × OIn)) j = 0 := fun j => rfl
  obtain ⟨m, z, e1, e2⟩ := wcA_go (u := u) (v := v) hl xs.length 0 [] 0 (by omega) (fun j => by rw [c0]; omega)
  have hA := wcA_ok xs u v hc hl ⟨h1, h2⟩ ⟨h3, h4⟩ _ _ _ e1
  obtain ⟨y, z', e3, e4, e5⟩ := wcB_go (xs := xs) (u := u) (v := v) (m := m) (a1 := z.1) (a2 := z.2.1) (a3 := z.2.2.1) (a4 := z.2.2.2.1) (a5 := z.2.2.2.2.1) (a6 := z.2.2.2.2.2) 5 0 [0, 0, 0, 0, 0] (by omega) rfl
  have hB := wcB_ok xs u v m z.1 z.2.1 z.2.2.1 z.2.2.2.1 z.2.2.2.2.1 z.2.2.2.2.2 hc hl ⟨h1, h2⟩ ⟨h3, h4⟩ q0 q2 q5 q8 q11 hA _ _ _ e3
  have := wc0 xs u v m z.1 z.2.1 z.2.2.1 z.2.2.2.1 z.2.2.2.2.1 z.2.2.2.2.2 y m z' hc hl ⟨h1, h2⟩ ⟨h3, h4⟩ e4 q0 q2 q5 q8 q11 hA hB
  unfold wc0_c0 at this
  rw [cL_of hw (l := y.reverse) (by simpa using e4) (fun j hj => by rw [e5 j hj, if_neg (by omega), e2, c0, List.drop_zero]; omega)] at this
  rw [hw]; exact this
 ·have := wcE xs u v (fun e => hw (wX0.2 e))
  have et : cL xs u v = [] := by unfold cL; rw [if_neg hw]
  have e : wcE_c1 xs u v = wX xs u v := by
   unfold wcE_c1 wX
   by_cases hc : cAll xs = 0
   ·have q0 : (cAll xs != (0 : Int)) = false := by simp [hc]
    rw [q0, cond_false, if_pos hc, if_neg (fun e => hw (wX0.2 ⟨hc, e⟩))]
   ·have q0 : (cAll xs != (0 : Int)) = true := by simp [hc]
    rw [q0, cond_true, if_neg hc]
  rw [e] at this
  rw [et]; exact this
end Go.Proofs.Ytbhmgchkgbenmaa
