import Derived.Test.YtcjlidciniiofaaKit2
set_option linter.unusedVariables false
namespace Go.Proofs.Ytcjlidciniiofaa
def pos (gs : List Int) : Nat → Int
 | 0 => 0
 | k + 1 => pos gs k + nth gs k
def posl (gs : List Int) : Nat → List Int
 | 0 => []
 | n + 1 => posl gs n ++ [pos gs n]
theorem posl_len (gs : List Int) : ∀ n, (posl gs n).length = n
 | 0 => rfl
 | n + 1 => by simp [posl, posl_len gs n]
theorem posl_nth (gs : List Int) : ∀ n i, i < n → nth (posl gs n) i = pos gs i
 | 0, i, h => absurd h (by omega)
 | n + 1, i, h => by
  simp only [posl]
  by_cases hi : i < n
  ·rw [nth_append_left (by rw [posl_len]; exact hi)]; exact posl_nth gs n i hi
  ·have : i = n := by omega
   subst this
   simp [nth, posl_len]
def good (x : Int) : Prop := 1 ≤ x ∧ x ≤ 1000
def Fine (gs : List Int) : Prop := 1 ≤ gs.length ∧ gs.length ≤ 63 ∧ ∀ i, i < gs.length → good (nth gs i)
def ckL : List Int → Int → Int × Int
 | [], _ => (0, 0)
 | x :: xs, i => if x < 1 ∨ 1000 < x then (2, i) else ckL xs (i + 1)
def ckE (gs : List Int) : Int := if gs.length < 1 ∨ 63 < gs.length then 4 else (ckL gs 0).1
def ckI (gs : List Int) : Int := if gs.length < 1 ∨ 63 < gs.length then 0 else (ckL gs 0).2
theorem ckL_ok : ∀ (gs : List Int) (j : Int), (∀ i, i < gs.length → good (nth gs i)) → ckL gs j = (0, 0)
 | [], _, _ => rfl
 | x :: xs, j, h => by
  have h0 := h 0 (by simp)
  rw [nth_cons_zero] at h0
  unfold good at h0
  simp only [ckL]
  rw [if_neg (by omega)]
  exact ckL_ok xs (j + 1) fun i hi => by have := h (i + 1) (by simp; omega); rwa [nth_cons_succ] at this
theorem ckL_bad : ∀ (gs : List Int) (j : Int) (k : Nat), k < gs.length → (∀ i, i < k → good (nth gs i)) → ¬ good (nth gs k) → ckL gs j = (2, j + k)
 | [], _, k, hk, _, _ => absurd hk (by simp)
 | x :: xs, j, 0, _, _, hb => by
  rw [nth_cons_zero] at hb
  unfold good at hb
  simp only [ckL]
  rw [if_pos (by omega)]
  simp
 | x :: xs, j, k + 1, hk, h, hb => by
  have h0 := h 0 (by omega)
  rw [nth_cons_zero] at h0
  unfold good at h0
  simp only [ckL]
  rw [if_neg (by omega), ckL_bad xs (j + 1) k (by simp at hk; omega) (fun i hi => by have := h (i + 1) (by omega); rwa [nth_cons_succ] at this) (by rwa [nth_cons_succ] at hb)]
  simp; omega
theorem ck_fine {gs : List Int} (h : Fine gs) : ckE gs = 0 ∧ ckI gs = 0 := by
 obtain ⟨h1, h2, h3⟩ := h
 unfold ckE ckI
 rw [if_neg (by omega), if_neg (by omega), ckL_ok gs 0 h3]
 exact ⟨rfl, rfl⟩
theorem ck_long {gs : List Int} (h : gs.length < 1 ∨ 63 < gs.length) : ckE gs = 4 ∧ ckI gs = 0 := by
 unfold ckE ckI
 rw [if_pos h, if_pos h]
 exact ⟨rfl, rfl⟩
theorem ck_bad {gs : List Int} {k : Nat} (h1 : 1 ≤ gs.length) (h2 : gs.length ≤ 63) (hk : k < gs.length) (h : ∀ i, i < k → good (nth gs i)) (hb : ¬ good (nth gs k)) : ckE gs = 2 ∧ ckI gs = k := by
 unfold ckE ckI
 rw [if_neg (by omega), if_neg (by omega), ckL_bad gs 0 k hk h hb]
 simp
theorem good_least (gs : List Int) : ∀ n, (∀ i, i < n → good (nth gs i)) ∨ ∃ k, k < n ∧ (∀ i, i < k → good (nth gs i)) ∧ ¬ good (nth gs k)
 | 0 => .inl fun i h => absurd h (by omega)
 | n + 1 => by
  rcases good_least gs n with h | ⟨k, hk, h⟩
  ·by_cases hg : good (nth gs n)
   ·left
    intro i hi
    by_cases e : i = n
    ·rw [e]; exact hg
    ·exact h i (by omega)
   ·exact .inr ⟨n, by omega, h, hg⟩
  ·exact .inr ⟨k, by omega, h⟩
theorem fine_of {gs : List Int} (h : ckE gs = 0) : Fine gs := by
 by_cases hl : gs.length < 1 ∨ 63 < gs.length
 ·rw [(ck_long hl).1] at h; cases h
 ·rcases good_least gs gs.length with h3 | ⟨k, hk, h3, h4⟩
  ·exact ⟨by omega, by omega, h3⟩
  ·rw [(ck_bad (by omega) (by omega) hk h3 h4).1] at h; cases h
theorem pos_low {gs : List Int} (h : Fine gs) : ∀ k, k ≤ gs.length → (k : Int) ≤ pos gs k ∧ pos gs k ≤ 1000 * k
 | 0, _ => by simp [pos]
 | k + 1, hk => by
  have h1 := pos_low h k (by omega)
  have h2 := h.2.2 k (by omega)
  unfold good at h2
  simp only [pos]
  omega
theorem pos_step {gs : List Int} (h : Fine gs) {k : Nat} (hk : k < gs.length) : pos gs k + 1 ≤ pos gs (k + 1) ∧ pos gs (k + 1) ≤ pos gs k + 1000 := by
 have h2 := h.2.2 k hk
 unfold good at h2
 simp only [pos]
 omega
theorem pos_mono {gs : List Int} (h : Fine gs) (i : Nat) : ∀ j, i < j → j ≤ gs.length → pos gs i < pos gs j
 | 0, hij, _ => absurd hij (by omega)
 | j + 1, hij, hj => by
  have h1 := pos_step h (k := j) (by omega)
  by_cases e : i = j
  ·subst e; omega
  ·have := pos_mono h i j (by omega) (by omega); omega
def ab (a b : Int) : Int := if a ≤ b then b - a else a - b
end Go.Proofs.Ytcjlidciniiofaa
