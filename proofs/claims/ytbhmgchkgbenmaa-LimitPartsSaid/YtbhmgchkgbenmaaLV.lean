import Derived.Test.YtbhmgchkgbenmaaLT
import Derived.Test.YtbhmgchkgbenmaaOgW
set_option linter.unusedVariables false
namespace Go.Proofs.Ytbhmgchkgbenmaa
open Go Go.RowKit
theorem wX0 {xs : List Mv} {u v : Int} : wX xs u v = 0 ↔ (cAll xs = 0 ∧ 0 ≤ u ∧ u ≤ 63000 ∧ 1 ≤ v ∧ v ≤ 20) := by
 unfold wX
 split
 ·rename_i h
  split
  ·rename_i h2; exact ⟨fun _ => ⟨h, h2⟩, fun _ => rfl⟩
  ·rename_i h2; exact ⟨fun e => (by cases e), fun e => (h2 e.2).elim⟩
 ·rename_i h; exact ⟨fun e => (h e).elim, fun e => (h e.1).elim⟩
noncomputable def tW (xs : List Mv) (u v : Int) : Int × Int := if wX xs u v = 0 then firstC u v xs 0 else (0, 0)
theorem watch_p (xs : List Mv) (u v : Int) : KnownR Try.prog [] 13 [.list (rowA gM xs) xs.length, .val (.int .i64 u), .val (.int .i64 v)] (.tuple #[.agg #[.int .i64 (tW xs u v).1, .int .i64 (tW xs u v).2], .int .i64 (wX xs u v)]) [] := by
 by_cases hw : wX xs u v = 0
 ·obtain ⟨hc, h1, h2, h3, h4⟩ := wX0.1 hw
  have hl := (cAll0 hc).1
  have q0 : (cAll xs != (0 : Int)) = false := by simp [hc]
  have et : tW xs u v = firstC u v xs 0 := by unfold tW; rw [if_pos hw]
  rcases wtA_go (u := u) (v := v) hl xs.length 0 0 (by omega) with ⟨y, z1, z2, e1, hy, e2⟩ | ⟨e1, z0, z1, e2⟩
  ·have := wt0 xs u v z1 y z1 z2.1 z2.2 hc hl ⟨h1, h2⟩ ⟨h3, h4⟩ q0 (by simp; omega) (by simp; omega) (by simp; omega) (by simp; omega) (wtA_ok xs u v hc hl ⟨h1, h2⟩ ⟨h3, h4⟩ _ _ _ e2)
   have e1 : firstC u v xs 0 = (y, z1) := e1
   have hb : (y == (0 : Int)) = false := by simpa using hy
   unfold wt0_c0 wt0_c1 at this
   rw [hb, cond_false, cond_false] at this
   rw [et, e1, hw]
   exact this
  ·have := wt1 xs u v z0 0 z1.1 z1.2.1 z1.2.2 hc hl ⟨h1, h2⟩ ⟨h3, h4⟩ q0 (by simp; omega) (by simp; omega) (by simp; omega) (by simp; omega) (wtA_ok xs u v hc hl ⟨h1, h2⟩ ⟨h3, h4⟩ _ _ _ e2)
   have e1 : firstC u v xs 0 = (0, 0) := e1
   rw [et, e1, hw]
   exact this
 ·have := wtE xs u v (fun e => hw (wX0.2 e))
  have et : tW xs u v = (0, 0) := by unfold tW; rw [if_neg hw]
  have e : wtE_c2 xs u v = wX xs u v := by
   unfold wtE_c2 wX
   by_cases hc : cAll xs = 0
   ·have q0 : (cAll xs != (0 : Int)) = false := by simp [hc]
    rw [q0, cond_false, if_pos hc, if_neg (fun e => hw (wX0.2 ⟨hc, e⟩))]
   ·have q0 : (cAll xs != (0 : Int)) = true := by simp [hc]
    rw [q0, cond_true, if_neg hc]
  rw [e] at this
  rw [et]
  exact this
end Go.Proofs.Ytbhmgchkgbenmaa
