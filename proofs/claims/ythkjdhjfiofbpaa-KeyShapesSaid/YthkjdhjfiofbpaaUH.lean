import Derived.Test.YthkjdhjfiofbpaaUG
set_option linter.unusedVariables false
namespace Go.Proofs.Ythkjdhjfiofbpaa
open Go Go.RowKit
def lcF (a : Int) (x : Int × Int) : Int := bif hasK [7, 42] x.2 then x.1 else a
def ltF (_ : Int) (x : Int × Int) : Int := x.1
def InvS (f : Int) (R : List (Int × Int)) (a : Int) : Prop := (a = -1 ∧ R = []) ∨ (0 ≤ a ∧ ∃ A r, R = (A, a + f) :: r ∧ A ≤ a ∧ ∀ s ∈ r, s.2 ≤ a)
theorem inv_step {f a x q : Int} {R : List (Int × Int)} (hf : 1 ≤ f) (h : InvS f R a) (h0 : 0 ≤ x) (h1 : a ≤ x) : InvS f (stp [7, 42] f R (x, q)) (lcF a (x, q)) := by
 unfold lcF
 cases hk : hasK [7, 42] q with
 | false => rw [stp_no hk]; exact h
 | true =>
  show InvS f _ x
  rcases h with ⟨h2, h3⟩ | ⟨h2, A, r, h3, h4, h5⟩
  ·subst h3
   rw [stp_nil hk]
   exact .inr ⟨h0, x, [], rfl, Int.le_refl _, fun s hs => by simp at hs⟩
  ·subst h3
   by_cases hg : a + f < x
   ·rw [stp_gap hk hg]
    refine .inr ⟨h0, x, _, rfl, Int.le_refl _, fun s hs => ?_⟩
    rcases List.mem_cons.1 hs with e | e
    ·subst e; show a + f ≤ x; omega
    ·have := h5 s e; show s.2 ≤ x; omega
   ·rw [stp_on hk hg]
    refine .inr ⟨h0, A, r, rfl, (by show A ≤ x; omega), fun s hs => ?_⟩
    have := h5 s hs; show s.2 ≤ x; omega
theorem hi_parts {x : Int × Int} {r : List (Int × Int)} {p : Int} (h : hiS (x :: r) p = 2) : (1 ≤ x.2 ∧ x.2 ≤ 99) ∧ (0 ≤ x.1 ∧ x.1 ≤ 1099511627776) ∧ p ≤ x.1 ∧ hiS r x.1 = 2 := by
 unfold hiS at h
 split at h
 ·cases h
 ·split at h
  ·cases h
  ·exact ⟨by omega, by omega, by omega, h⟩
theorem lc_le {a x q : Int} (h : a ≤ x) : lcF a (x, q) ≤ x := by
 unfold lcF
 cases hasK [7, 42] q <;> simp <;> omega
theorem inv_fold {f : Int} (hf : 1 ≤ f) : ∀ (r R : List (Int × Int)) (a p : Int), hiS r p = 2 → a ≤ p → InvS f R a → InvS f (r.foldl (stp [7, 42] f) R) (r.foldl lcF a) ∧ r.foldl lcF a ≤ r.foldl ltF p
 | [], R, a, p, h, h1, h2 => ⟨h2, h1⟩
 | x :: r, R, a, p, h, h1, h2 => by
  obtain ⟨k1, k2, k3, k4⟩ := hi_parts h
  obtain ⟨t, q⟩ := x
  exact inv_fold hf r _ _ t k4 (lc_le (by dsimp only at k3; omega)) (inv_step hf h2 k2.1 (by dsimp only at k3; omega))
theorem sm_lt : ∀ (l : List Int) (t p : Int), 0 ≤ p → p ≤ t → (smL l t).foldl ltF p ≤ t + 16 * l.length
 | [], t, p, h0, h1 => by show p ≤ _; simp; omega
 | n :: r, t, p, h0, h1 => by
  have c1 := Int.emod_lt_of_pos (n % 65536) (by decide : (0 : Int) < 17)
  have c0 := Int.emod_nonneg (n % 65536) (by decide : (17 : Int) ≠ 0)
  have ht : (smS t n).1 = t + n % 65536 % 17 := rfl
  have := sm_lt r (smS t n).1 (smS t n).1 (by omega) (Int.le_refl _)
  show (smL r (smS t n).1).foldl ltF (smS t n).1 ≤ _
  simp only [List.length_cons]
  omega
end Go.Proofs.Ythkjdhjfiofbpaa
