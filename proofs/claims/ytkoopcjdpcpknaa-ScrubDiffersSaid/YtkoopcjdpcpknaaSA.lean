/- Layer 7: where the floors are, without the program. -/
import Derived.Test.YtkoopcjdpcpknaaKit2
namespace Go.Proofs.Ytkoopcjdpcpknaa
set_option linter.unusedVariables false

/-- the position of floor k -/
def pos (gs : List Int) : Nat → Int
  | 0 => 0
  | k + 1 => pos gs k + nth gs k
/-- the positions of the first n floors -/
def posl (gs : List Int) : Nat → List Int
  | 0 => []
  | n + 1 => posl gs n ++ [pos gs n]
theorem posl_len (gs : List Int) : ∀ n, (posl gs n).length = n
  | 0 => rfl
  | n + 1 => by simp [posl, posl_len gs n]
theorem posl_nth (gs : List Int) : ∀ n i, i < n → nth (posl gs n) i = pos gs i
  | 0, i, h => absurd h (by omega)
  | n + 1, i, h => by
    simp only [posl]
    by_cases hi : i < n
    · rw [nth_append_left (by rw [posl_len]; exact hi)]; exact posl_nth gs n i hi
    · have : i = n := by omega
      subst this
      simp [nth, posl_len]

def good (x : Int) : Prop := 1 ≤ x ∧ x ≤ 1000
def Fine (gs : List Int) : Prop := 1 ≤ gs.length ∧ gs.length ≤ 63 ∧ ∀ i, i < gs.length → good (nth gs i)
def ckL : List Int → Int → Int × Int
  | [], _ => (0, 0)
  | x :: xs, i => if x < 1 ∨ 1000 < x then (2, i) else ckL xs (i + 1)
def ckE (gs : List Int) : Int := if gs.length < 1 ∨ 63 < gs.length then 4 else (ckL gs 0).1
def ckI (gs : List Int) : Int := if gs.length < 1 ∨ 63 < gs.length then 0 else (ckL gs 0).2

theorem ckL_ok : ∀ (gs : List Int) (j : Int), (∀ i, i < gs.length → good (nth gs i)) → ckL gs j = (0, 0)
  | [], _, _ => rfl
  | x :: xs, j, h => by
    have h0 := h 0 (by simp)
    rw [nth_cons_zero] at h0
    unfold good at h0
    simp only [ckL]
    rw [if_neg (by omega)]
    exact ckL_ok xs (j + 1) fun i hi => by have := h (i + 1) (by simp; omega); rwa [nth_cons_succ] at this
theorem ckL_bad : ∀ (gs : List Int) (j : Int) (k : Nat), k < gs.length → (∀ i, i < k → good (nth gs i)) → ¬ good (nth gs k) → ckL gs j = (2, j + k)
  | [], _, k, hk, _, _ => absurd hk (by simp)
  | x :: xs, j, 0, _, _, hb => by
    rw [nth_cons_zero] at hb
    unfold good at hb
    simp only [ckL]
    rw [if_pos (by omega)]
    simp
  | x :: xs, j, k + 1, hk, h, hb => by
    have h0 := h 0 (by omega)
    rw [nth_cons_zero] at h0
    unfold good at h0
    simp only [ckL]
    rw [if_neg (by omega), ckL_bad xs (j + 1) k (by simp at hk; omega) (fun i hi => by have := h (i + 1) (by omega); rwa [nth_cons_succ] at this) (by rwa [nth_cons_succ] at hb)]
    simp; omega
theorem ck_fine {gs : List Int} (h : Fine gs) : ckE gs = 0 ∧ ckI gs = 0 := by
  obtain ⟨h1, h2, h3⟩ := h
  unfold ckE ckI
  rw [if_neg (by omega), if_neg (by omega), ckL_ok gs 0 h3]
  exact ⟨rfl, rfl⟩
theorem ck_long {gs : List Int} (h : gs.length < 1 ∨ 63 < gs.length) : ckE gs = 4 ∧ ckI gs = 0 := by
  unfold ckE ckI
  rw [if_pos h, if_pos h]
  exact ⟨rfl, rfl⟩
theorem ck_bad {gs : List Int} {k : Nat} (h1 : 1 ≤ gs.length) (h2 : gs.length ≤ 63) (hk : k < gs.length) (h : ∀ i, i < k → good (nth gs i)) (hb : ¬ good (nth gs k)) : ckE gs = 2 ∧ ckI gs = k := by
  unfold ckE ckI
  rw [if_neg (by omega), if_neg (by omega), ckL_bad gs 0 k hk h hb]
  simp
theorem good_least (gs : List Int) : ∀ n, (∀ i, i < n → good (nth gs i)) ∨ ∃ k, k < n ∧ (∀ i, i < k → good (nth gs i)) ∧ ¬ good (nth gs k)
  | 0 => .inl fun i h => absurd h (by omega)
  | n + 1 => by
    rcases good_least gs n with h | ⟨k, hk, h⟩
    · by_cases hg : good (nth gs n)
      · left
        intro i hi
        by_cases e : i = n
        · rw [e]; exact hg
        · exact h i (by omega)
      · exact .inr ⟨n, by omega, h, hg⟩
    · exact .inr ⟨k, by omega, h⟩
theorem fine_of {gs : List Int} (h : ckE gs = 0) : Fine gs := by
  by_cases hl : gs.length < 1 ∨ 63 < gs.length
  · rw [(ck_long hl).1] at h; cases h
  · rcases good_least gs gs.length with h3 | ⟨k, hk, h3, h4⟩
    · exact ⟨by omega, by omega, h3⟩
    · rw [(ck_bad (by omega) (by omega) hk h3 h4).1] at h; cases h

theorem pos_low {gs : List Int} (h : Fine gs) : ∀ k, k ≤ gs.length → (k : Int) ≤ pos gs k ∧ pos gs k ≤ 1000 * k
  | 0, _ => by simp [pos]
  | k + 1, hk => by
    have h1 := pos_low h k (by omega)
    have h2 := h.2.2 k (by omega)
    unfold good at h2
    simp only [pos]
    omega
theorem pos_step {gs : List Int} (h : Fine gs) {k : Nat} (hk : k < gs.length) : pos gs k + 1 ≤ pos gs (k + 1) ∧ pos gs (k + 1) ≤ pos gs k + 1000 := by
  have h2 := h.2.2 k hk
  unfold good at h2
  simp only [pos]
  omega
theorem pos_mono {gs : List Int} (h : Fine gs) (i : Nat) : ∀ j, i < j → j ≤ gs.length → pos gs i < pos gs j
  | 0, hij, _ => absurd hij (by omega)
  | j + 1, hij, hj => by
    have h1 := pos_step h (k := j) (by omega)
    by_cases e : i = j
    · subst e; omega
    · have := pos_mono h i j (by omega) (by omega); omega

def ab (a b : Int) : Int := if a ≤ b then b - a else a - b
theorem ab_def (a b : Int) : ab a b = if a ≤ b then b - a else a - b := rfl
def nearF (gs : List Int) (p : Int) : Nat → Nat
  | 0 => 0
  | k + 1 => if ab (pos gs (k + 1)) p < ab (pos gs (nearF gs p k)) p then k + 1 else nearF gs p k
theorem near_le (gs : List Int) (p : Int) : ∀ k, nearF gs p k ≤ k
  | 0 => Nat.le_refl _
  | k + 1 => by
    have := near_le gs p k
    simp only [nearF]
    split <;> omega
theorem near_min (gs : List Int) (p : Int) : ∀ k i, i ≤ k → ab (pos gs (nearF gs p k)) p ≤ ab (pos gs i) p
  | 0, i, h => by
    have : i = 0 := by omega
    subst this
    exact Int.le_refl _
  | k + 1, i, h => by
    simp only [nearF]
    split
    · rename_i hlt
      by_cases e : i = k + 1
      · rw [e]; exact Int.le_refl _
      · have := near_min gs p k i (by omega); omega
    · rename_i hlt
      by_cases e : i = k + 1
      · rw [e]; omega
      · exact near_min gs p k i (by omega)
theorem near_low (gs : List Int) (p : Int) : ∀ k i, i < nearF gs p k → ab (pos gs (nearF gs p k)) p < ab (pos gs i) p
  | 0, i, h => by simp [nearF] at h
  | k + 1, i, h => by
    simp only [nearF] at h ⊢
    split
    · rename_i hlt
      rw [if_pos hlt] at h
      have := near_min gs p k i (by omega); omega
    · rename_i hlt
      rw [if_neg hlt] at h
      exact near_low gs p k i h
theorem near_is {gs : List Int} {p : Int} {k m : Nat} (hm : m ≤ k) (h1 : ∀ i, i ≤ k → ab (pos gs m) p ≤ ab (pos gs i) p) (h2 : ∀ i, i < m → ab (pos gs m) p < ab (pos gs i) p) : nearF gs p k = m := by
  have a1 := near_min gs p k m hm
  have a2 := h1 (nearF gs p k) (near_le gs p k)
  rcases Nat.lt_trichotomy (nearF gs p k) m with h | h | h
  · have := h2 _ h; omega
  · exact h
  · have := near_low gs p k m h; omega
theorem near_prog {gs : List Int} {p : Int} {f : Nat} (hg : Fine gs) (hf : f ≤ gs.length) (hlow : ∀ i, i < f → pos gs i < p) (hp : p ≤ pos gs f) :
    nearF gs p gs.length = if 0 < f ∧ p - pos gs (f - 1) ≤ pos gs f - p then f - 1 else f := by
  have hup : ∀ i, f < i → i ≤ gs.length → pos gs f < pos gs i := fun i h1 h2 => pos_mono hg f i h1 h2
  have hdn : ∀ i, i < f - 1 → pos gs i < pos gs (f - 1) := fun i h1 => pos_mono hg i (f - 1) h1 (by omega)
  split
  · rename_i hc
    have hl := hlow (f - 1) (by omega)
    refine near_is (by omega) (fun i hi => ?_) (fun i hi => ?_)
    · unfold ab
      rcases Nat.lt_trichotomy i f with h | h | h
      · have := hlow i h
        by_cases e : i = f - 1
        · subst e; omega
        · have := hdn i (by omega)
          split <;> split <;> omega
      · subst h; split <;> split <;> omega
      · have := hup i h hi; split <;> split <;> omega
    · have := hdn i hi
      have := hlow i (by omega)
      unfold ab
      split <;> split <;> omega
  · rename_i hc
    refine near_is hf (fun i hi => ?_) (fun i hi => ?_)
    · unfold ab
      rcases Nat.lt_trichotomy i f with h | h | h
      · have := hlow i h
        have hl := hlow (f - 1) (by omega)
        by_cases e : i = f - 1
        · subst e; split <;> split <;> omega
        · have := hdn i (by omega)
          split <;> split <;> omega
      · subst h; exact Int.le_refl _
      · have := hup i h hi; split <;> split <;> omega
    · have := hlow i hi
      have hl := hlow (f - 1) (by omega)
      unfold ab
      by_cases e : i = f - 1
      · subst e; split <;> split <;> omega
      · have := hdn i (by omega)
        split <;> split <;> omega

/-- the floors below k with positions from lo to hi -/
def btl (gs : List Int) (lo hi : Int) : Nat → List Int
  | 0 => []
  | k + 1 => if lo ≤ pos gs k ∧ pos gs k ≤ hi then btl gs lo hi k ++ [(k : Int)] else btl gs lo hi k
theorem btl_in {gs : List Int} {lo hi : Int} {k : Nat} (h1 : lo ≤ pos gs k) (h2 : pos gs k ≤ hi) : btl gs lo hi (k + 1) = btl gs lo hi k ++ [(k : Int)] := by
  simp only [btl]; rw [if_pos ⟨h1, h2⟩]
theorem btl_out {gs : List Int} {lo hi : Int} {k : Nat} (h : pos gs k < lo ∨ hi < pos gs k) : btl gs lo hi (k + 1) = btl gs lo hi k := by
  simp only [btl]; rw [if_neg (by omega)]
theorem btl_skip {gs : List Int} {lo hi : Int} : ∀ f, (∀ i, i < f → pos gs i < lo) → btl gs lo hi f = []
  | 0, _ => rfl
  | f + 1, h => by rw [btl_out (.inl (h f (by omega)))]; exact btl_skip f fun i hi => h i (by omega)
theorem btl_stop {gs : List Int} {lo hi : Int} (k : Nat) : ∀ d, (∀ i, k ≤ i → i < k + d → hi < pos gs i) → btl gs lo hi (k + d) = btl gs lo hi k
  | 0, _ => rfl
  | d + 1, h => by rw [← Nat.add_assoc, btl_out (.inr (h (k + d) (by omega) (by omega)))]; exact btl_stop k d fun i h1 h2 => h i h1 (by omega)
theorem btl_len (gs : List Int) (lo hi : Int) : ∀ k, (btl gs lo hi k).length ≤ k
  | 0 => Nat.le_refl _
  | k + 1 => by
    have := btl_len gs lo hi k
    simp only [btl]
    split <;> simp <;> omega
end Go.Proofs.Ytkoopcjdpcpknaa
