/- Layer 9: motions made of numbers; what a tick does, in one place. -/
import Derived.Test.YtaohbffjfedcgaaOgG
namespace Go.Proofs.Ytaohbffjfedcgaa
open Go Go.RowKit
set_option linter.unusedVariables false
set_option linter.unusedSimpArgs false
def moG (goal : Int) : Int := goal % 300
def moM (most : Int) : Int := 1 + most % 20
def moP (pos goal most ticks : Int) : Int := (itN (moG goal) (moM most) (ticks % 60).toNat (pos % 300) 0).1
def moS (pos goal most ticks : Int) : Int := (itN (moG goal) (moM most) (ticks % 60).toNat (pos % 300) 0).2
theorem tk_between {p g s m : Int} (h : vM p g s m) {a b : Int} (hp : a ≤ p ∧ p ≤ b) (hg : a ≤ g ∧ g ≤ b) : a ≤ tkP p g s m ∧ tkP p g s m ≤ b := by
  by_cases e : p = g
  · subst e; rw [(tk_eq h).1]; exact hp
  · have ha := tk_all h e
    have e1 : tkP p g s m = if g < p then p - nxV m s (rst p g) else p + nxV m s (rst p g) := by unfold tkP; omega
    have hr : rst p g = if g ≤ p then p - g else g - p := rfl
    omega
theorem it_between {g m a b : Int} (hg : a ≤ g ∧ g ≤ b) : ∀ (k : Nat) {p s : Int}, vM p g s m → a ≤ p ∧ p ≤ b → a ≤ (itN g m k p s).1 ∧ (itN g m k p s).1 ≤ b
  | 0, p, s, h, hp => hp
  | k + 1, p, s, h, hp => it_between hg k (tk_ok h) (tk_between h hp hg)
theorem mo_v0 (pos goal most : Int) : vM (pos % 300) (moG goal) 0 (moM most) := by
  unfold moG moM vM
  refine ⟨by omega, by omega, by omega, by omega, by omega, by omega, by omega, by omega, .inl rfl⟩
theorem mo_v (pos goal most ticks : Int) : vM (moP pos goal most ticks) (moG goal) (moS pos goal most ticks) (moM most) := itN_ok _ (mo_v0 pos goal most)
theorem mo_b (pos goal most ticks : Int) : 0 ≤ moP pos goal most ticks ∧ moP pos goal most ticks ≤ 299 := it_between (by unfold moG; omega) _ (mo_v0 pos goal most) (by omega)
theorem made_is (pos goal most ticks : Int) : Known Try.prog [] 32 [.int .i64 pos, .int .i64 goal, .int .i64 most, .int .i64 ticks] (.tuple #[.agg #[.int .i64 (moP pos goal most ticks), .int .i64 (moG goal), .int .i64 (moS pos goal most ticks), .int .i64 (moM most)], .bool true]) := by
  have ew : IntKind.i64.wrap (1 + most % 20) = moM most := w8 (by omega)
  have r := mdG pos goal most ticks (by omega) (by omega) (by omega) (by rw [ew]; exact ckM_ok.2 (mo_v0 pos goal most)) (by rw [ew]; exact mo_b pos goal most ticks)
  unfold mdG_c0 mdG_c1 mdG_c2 mdG_c3 mdG_c4 at r
  rw [ew, decide_eq_true (show goal % 300 < 300 by omega)] at r
  exact r
end Go.Proofs.Ytaohbffjfedcgaa
