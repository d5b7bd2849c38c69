/- Layer 8: how far after some ticks. -/
import Derived.Test.YtjemhamkakgnhaaRM
import Derived.Test.YtjemhamkakgnhaaOgP
namespace Go.Proofs.Ytjemhamkakgnhaa
open Go Go.RowKit
set_option linter.unusedVariables false
set_option linter.unusedSimpArgs false
/-- speed and what is left after so many ticks -/
def stF (m : Int) : Nat → Int → Int → Int → Int × Int
  | 0, _, v, l => (v, l)
  | k + 1, t, v, l => if l ≤ 0 ∨ t ≤ 0 then (v, l) else stF m k (t - 1) (nxV m v l) (l - nxV m v l)
theorem stF_b {m : Int} (hm : 1 ≤ m ∧ m ≤ 20) : ∀ (k : Nat) {t v l : Int}, RdI m v l → 0 ≤ (stF m k t v l).2 ∧ (stF m k t v l).2 ≤ l
  | 0, t, v, l, h => ⟨h.2.2.1, Int.le_refl _⟩
  | k + 1, t, v, l, h => by
    simp only [stF]
    split
    · exact ⟨h.2.2.1, Int.le_refl _⟩
    · rename_i c
      have ha := rd_all hm h (by omega)
      have := stF_b hm k (t := t - 1) ha.2.2.2.2.2.1
      omega
theorem goA_go {n m t0 : Int} (hm : 1 ≤ m ∧ m ≤ 20) : ∀ (k : Nat) {t v l : Int}, l ≤ k → RdI m v l → l ≤ n → 1 ≤ t → t ≤ 9223372036854775807 →
    (∃ z, goA_f n m t0 (k + 1) v l t = some (0, z) ∧ (stF m k t v l).2 = 0) ∨ (∃ z, goA_f n m t0 (k + 1) v l t = some (2, z) ∧ (stF m k t v l).2 = 0) ∨
      (∃ a b c, goA_f n m t0 (k + 1) v l t = some (1, (a, b, c)) ∧ stF m k t v l = (nxV m a b, b - nxV m a b) ∧ 1 ≤ b - nxV m a b ∧ b ≤ n ∧ 0 ≤ nxV m a b ∧ nxV m a b ≤ 20)
  | 0, t, v, l, hk, h, hn, ht, ht2 => by
    have e : l = 0 := by have := h.2.2.1; omega
    subst e
    obtain ⟨a1, a2, a3, a4, a5⟩ := h
    refine .inr (.inl ⟨(v, 0, t), ?_, rfl⟩)
    rw [goA_fs, decide_eq_true ⟨a1, a2, a3, a4, a5, ht, ht2, hn, .inl rfl⟩, cond_true, decide_eq_false (by omega), cond_false]
  | k + 1, t, v, l, hk, h, hn, ht, ht2 => by
    by_cases c : l ≤ 0
    · have e : l = 0 := by have := h.2.2.1; omega
      subst e
      obtain ⟨a1, a2, a3, a4, a5⟩ := h
      refine .inr (.inl ⟨(v, 0, t), ?_, by simp [stF]⟩)
      rw [goA_fs, decide_eq_true ⟨a1, a2, a3, a4, a5, ht, ht2, hn, .inl rfl⟩, cond_true, decide_eq_false (by omega), cond_false]
    · have ha := rd_all hm h (by omega)
      have hb := h
      obtain ⟨a1, a2, a3, a4, a5⟩ := hb
      have hs : stF m (k + 1) t v l = stF m k (t - 1) (nxV m v l) (l - nxV m v l) := by simp only [stF]; rw [if_neg (by omega)]
      rw [hs, goA_fs, decide_eq_true ⟨a1, a2, a3, a4, a5, ht, ht2, hn, .inr ⟨by omega, by omega, by omega⟩⟩, cond_true, decide_eq_true (by omega), cond_true, w8 (v := l - nxV m v l) (by omega)]
      by_cases q : l - nxV m v l = 0
      · left
        refine ⟨_, by rw [show (l - nxV m v l == 0) = true by simpa using q, cond_true], ?_⟩
        have := stF_b hm k (t := t - 1) ha.2.2.2.2.2.1
        omega
      · rw [show (l - nxV m v l == 0) = false by simpa using q, cond_false, w8n (n := t - 1) (by omega) (by omega)]
        by_cases r : t - 1 = 0
        · right; right
          refine ⟨v, l, t, by rw [show (t - 1 == 0) = true by simpa using r, cond_true], ?_, by omega, hn, by omega, by omega⟩
          rw [r]
          cases k with
          | zero => rfl
          | succ k => simp only [stF]; rw [if_pos (by omega)]
        · rw [show (t - 1 == 0) = false by simpa using r, cond_false]
          exact goA_go hm k (by omega) ha.2.2.2.2.2.1 (by omega) (by omega) (by omega)
theorem rgA_go {n m t : Int} (hm : 1 ≤ m ∧ m ≤ 20) (ht : t ≤ 9223372036854775807) : ∀ (k : Nat) {i v l : Int}, l ≤ k → RdI m v l → l ≤ n → 0 ≤ i → i ≤ t → ∃ i', rgA_f n m t (k + 1) v l i = some (0, ((stF m k (t - i) v l).1, (stF m k (t - i) v l).2, i'))
  | 0, i, v, l, hk, h, hn, h0, h1 => by
    have e : l = 0 := by have := h.2.2.1; omega
    subst e
    obtain ⟨a1, a2, a3, a4, a5⟩ := h
    refine ⟨i, ?_⟩
    rw [rgA_fs, decide_eq_true ⟨a1, a2, a3, a4, a5, h0, h1, hn, .inl rfl⟩, cond_true]
    by_cases q : i < t
    · rw [decide_eq_true q, cond_true, decide_eq_false (by omega), cond_false]; rfl
    · rw [decide_eq_false q, cond_false]; rfl
  | k + 1, i, v, l, hk, h, hn, h0, h1 => by
    by_cases c : l ≤ 0 ∨ t - i ≤ 0
    · have hs : stF m (k + 1) (t - i) v l = (v, l) := by simp only [stF]; rw [if_pos c]
      rw [hs]
      refine ⟨i, ?_⟩
      by_cases q : i < t
      · have e : l = 0 := by have := h.2.2.1; omega
        subst e
        obtain ⟨a1, a2, a3, a4, a5⟩ := h
        rw [rgA_fs, decide_eq_true ⟨a1, a2, a3, a4, a5, h0, h1, hn, .inl rfl⟩, cond_true, decide_eq_true q, cond_true, decide_eq_false (by omega), cond_false]
      · have hi : (l = 0 ∨ (0 ≤ nxV m v l ∧ nxV m v l ≤ 20 ∧ nxV m v l ≤ l)) := by
          rcases (by have := h.2.2.1; omega : l = 0 ∨ 1 ≤ l) with e | e
          · exact .inl e
          · have ha := rd_all hm h e; exact .inr ⟨by omega, by omega, by omega⟩
        obtain ⟨a1, a2, a3, a4, a5⟩ := h
        rw [rgA_fs, decide_eq_true ⟨a1, a2, a3, a4, a5, h0, h1, hn, hi⟩, cond_true, decide_eq_false q, cond_false]
    · have ha := rd_all hm h (by omega)
      have hb := h
      obtain ⟨a1, a2, a3, a4, a5⟩ := hb
      have hs : stF m (k + 1) (t - i) v l = stF m k (t - (i + 1)) (nxV m v l) (l - nxV m v l) := by simp only [stF]; rw [if_neg c, show t - i - 1 = t - (i + 1) by omega]
      rw [hs, rgA_fs, decide_eq_true ⟨a1, a2, a3, a4, a5, h0, h1, hn, .inr ⟨by omega, by omega, by omega⟩⟩, cond_true, decide_eq_true (by omega), cond_true, decide_eq_true (by omega), cond_true, w8 (v := l - nxV m v l) (by omega), w8n (n := i + 1) (by omega) (by omega)]
      exact rgA_go hm ht k (by omega) ha.2.2.2.2.2.1 (by omega) (by omega) (by omega)
end Go.Proofs.Ytjemhamkakgnhaa
