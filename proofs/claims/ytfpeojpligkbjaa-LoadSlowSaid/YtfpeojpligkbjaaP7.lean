/- Layer 11: LoadSlow. -/
import Derived.Test.YtfpeojpligkbjaaP6
namespace Go.Proofs.Ytfpeojpligkbjaa
open Go.RowKit
set_option linter.unusedVariables false

theorem nth_snoc_last (l : List Int) (x : Int) : nth (l ++ [x]) l.length = x := by simp [nth]

theorem chgInv (l : List Int) : ∀ k : Nat,
    (∀ i, i < (chg l k).length → ∃ m : Nat, nth (chg l k) i = m ∧ 1 ≤ m ∧ m < k ∧ nth l m ≠ nth l (m - 1)) ∧
    (∀ i, i + 1 < (chg l k).length → ∃ m m' : Nat, nth (chg l k) i = m ∧ nth (chg l k) (i + 1) = m' ∧ m < m' ∧ nth l (m' - 1) = nth l m) ∧
    (0 < (chg l k).length → ∃ m : Nat, nth (chg l k) ((chg l k).length - 1) = m ∧ nth l (k - 1) = nth l m)
  | 0 => ⟨fun i h => by simp [chg] at h, fun i h => by simp [chg] at h, fun h => by simp [chg] at h⟩
  | k + 1 => by
    obtain ⟨h1, h2, h3⟩ := chgInv l k
    by_cases hk : 0 < k ∧ nth l k ≠ nth l (k - 1)
    · rw [chg_hit hk.1 hk.2]
      refine ⟨fun i hi => ?_, fun i hi => ?_, fun _ => ?_⟩
      · by_cases hlt : i < (chg l k).length
        · obtain ⟨m, e, a, b, c⟩ := h1 i hlt
          exact ⟨m, by rw [nth_append_left hlt]; exact e, a, by omega, c⟩
        · have : i = (chg l k).length := by simp at hi; omega
          subst this
          exact ⟨k, nth_snoc_last _ _, by omega, by omega, hk.2⟩
      · by_cases hlt : i + 1 < (chg l k).length
        · obtain ⟨m, m', e, e', a, b⟩ := h2 i hlt
          exact ⟨m, m', by rw [nth_append_left (by omega)]; exact e, by rw [nth_append_left hlt]; exact e', a, b⟩
        · have hl : i + 1 = (chg l k).length := by simp at hi; omega
          obtain ⟨m, e, a, b, c⟩ := h1 i (by omega)
          obtain ⟨m2, e2, f2⟩ := h3 (by omega)
          have hm : m2 = m := by
            rw [show (chg l k).length - 1 = i by omega, e] at e2
            omega
          subst hm
          refine ⟨m2, k, by rw [nth_append_left (by omega)]; exact e, by rw [hl]; exact nth_snoc_last _ _, b, f2⟩
      · exact ⟨k, by simp [nth], by simp⟩
    · rw [chg_miss hk]
      refine ⟨fun i hi => ?_, h2, fun h0 => ?_⟩
      · obtain ⟨m, e, a, b, c⟩ := h1 i hi
        exact ⟨m, e, a, by omega, c⟩
      · obtain ⟨m, e, f⟩ := h3 h0
        refine ⟨m, e, ?_⟩
        have h9 : 0 < k := by
          rcases Nat.eq_zero_or_pos k with h | h
          · subst h; simp [chg] at h0
          · exact h
        have h8 : nth l k = nth l (k - 1) := by
          by_cases h : nth l k = nth l (k - 1)
          · exact h
          · exact absurd ⟨h9, h⟩ hk
        rw [Nat.add_sub_cancel, h8]; exact f

theorem slow {e f s P x y : Int} (hn : Nice e f s) (hP : 1 ≤ P ∧ P ≤ 3) (h1 : hld e f s P x ≠ P) (h2 : hld e f s (hld e f s P x) y = P) : s < y - x ∨ s < x - y := by
  unfold Nice at hn
  have d1 := hld_def e f s P x
  have d2 := hld_def e f s (hld e f s P x) y
  have d3 := bnd_def e f s x
  have d4 := bnd_def e f s y
  omega

theorem runL_rng (e f s : Int) (h : List Int) (k : Nat) (hk : k < h.length) : 1 ≤ nth (runL e f s h) k ∧ nth (runL e f s h) k ≤ 3 := by
  cases k with
  | zero => rw [runL_zero _ _ _ _ hk]; exact bnd_rng ..
  | succ k => rw [runL_succ _ _ _ _ _ hk]; exact hld_rng ..

/-- what the law's loop asks of two changes one after another -/
theorem slowFacts (e f s : Int) (hn : Nice e f s) (L : List Int) (i : Nat) (hi : i < (chg (runL e f s L) L.length).length) :
    ∃ b : Nat, nth (chg (runL e f s L) L.length) i = b ∧ 1 ≤ b ∧ b < L.length ∧
      (0 < i → ∃ a : Nat, nth (chg (runL e f s L) L.length) (i - 1) = a ∧ 1 ≤ a ∧ a < b ∧
        (nth (runL e f s L) b = nth (runL e f s L) (a - 1) → s < nth L b - nth L a ∨ s < nth L a - nth L b)) := by
  obtain ⟨h1, h2, _⟩ := chgInv (runL e f s L) L.length
  obtain ⟨b, e1, b1, b2, b3⟩ := h1 i hi
  refine ⟨b, e1, b1, b2, fun h0 => ?_⟩
  obtain ⟨m, m', e2, e3, hlt, hconst⟩ := h2 (i - 1) (by omega)
  rw [show i - 1 + 1 = i by omega, e1] at e3
  have hm : m' = b := by omega
  subst hm
  obtain ⟨a, e4, a1, a2, a3⟩ := h1 (i - 1) (by omega)
  have ha : a = m := by rw [e4] at e2; omega
  subst ha
  refine ⟨a, e4, a1, hlt, fun heq => ?_⟩
  have ra := runL_succ e f s L (a - 1) (by omega)
  have rb := runL_succ e f s L (m' - 1) (by omega)
  rw [show a - 1 + 1 = a by omega] at ra
  rw [show m' - 1 + 1 = m' by omega, hconst] at rb
  rw [ra] at rb a3
  rw [rb] at heq
  exact slow hn (runL_rng _ _ _ _ _ (by omega)) a3 heq

def mods (xs : List Int) : List Int := (xs.take 40).map (· % 200)
theorem mods_len (xs : List Int) : (mods xs).length = min 40 xs.length := by simp [mods]
theorem mods_step (xs : List Int) (k : Nat) (h : k < xs.length) (h2 : k < 40) : (mods xs).take (k + 1) = (mods xs).take k ++ [nth xs k % 200] := by
  have hl : k < (mods xs).length := by rw [mods_len]; omega
  rw [take_nth hl]
  congr 2
  unfold mods
  rw [nth_map _ (by simp; omega), List.getElem_take, nth_eq h]
theorem mods_isl (xs : List Int) : (mods xs).all isl = true := by
  apply List.all_eq_true.2
  intro x hx
  unfold mods at hx
  obtain ⟨y, _, rfl⟩ := List.mem_map.1 hx
  simp [isl]
  omega
theorem mods_rng (xs : List Int) (k : Nat) : 0 ≤ nth (mods xs) k ∧ nth (mods xs) k ≤ 199 := by
  by_cases h : k < (mods xs).length
  · unfold mods at h ⊢
    rw [nth_map _ (by simpa using h)]
    omega
  · rw [nth_none (by omega)]; omega
end Go.Proofs.Ytfpeojpligkbjaa
