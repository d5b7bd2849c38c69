/- Layer 8: how long the ride of the reference takes. -/
import Derived.Test.YtcjlidciniiofaaOgO
namespace Go.Proofs.Ytcjlidciniiofaa
open Go Go.RowKit
set_option linter.unusedVariables false
set_option linter.unusedSimpArgs false
def RdI (m v l : Int) : Prop := 0 ≤ v ∧ v ≤ m ∧ 0 ≤ l ∧ l ≤ 63000 ∧ (v = 0 ∨ rT (v - 1) ≤ l)
theorem rd_all {m v l : Int} (hm : 1 ≤ m ∧ m ≤ 20) (h : RdI m v l) (hl : 1 ≤ l) : 1 ≤ nxV m v l ∧ nxV m v l ≤ m ∧ nxV m v l ≤ l ∧ v - 1 ≤ nxV m v l ∧ nxV m v l ≤ v + 1 ∧ RdI m (nxV m v l) (l - nxV m v l) ∧ (nxV m v l < v → l - nxV m v l ≤ rT (nxV m v l)) ∧ NextV m v l (nxV m v l) := by
  obtain ⟨a1, a2, a3, a4, a5⟩ := h
  have n := nxV_is (l := l) a1 a2 hm.1 hl a5
  have n2 := n
  have ts := rT_succ (v := v)
  have tp := rT_pred (v := v)
  have key : 1 ≤ nxV m v l ∧ nxV m v l ≤ m ∧ nxV m v l ≤ l ∧ v - 1 ≤ nxV m v l ∧ nxV m v l ≤ v + 1 ∧ rT (nxV m v l - 1) ≤ l - nxV m v l ∧ (nxV m v l < v → l - nxV m v l ≤ rT (nxV m v l)) := by
    rcases n with ⟨g1, k1, k2⟩ | ⟨g1, k1, k2, k3⟩ | ⟨g1, k1, k2, k3⟩
    · rw [g1] at k1 k2 ⊢
      have := rT_ge (v := v + 1) (by omega)
      rw [show v + 1 - 1 = v by omega]
      omega
    · rw [g1]
      have := rT_ge (v := v) (by omega)
      omega
    · rw [g1]
      have := rT_ge (v := v - 1) (by omega)
      have := rT_pred (v := v - 1)
      omega
  generalize nxV m v l = w at *
  exact ⟨key.1, key.2.1, key.2.2.1, key.2.2.2.1, key.2.2.2.2.1, ⟨by omega, key.2.1, by omega, by omega, .inr key.2.2.2.2.2.1⟩, key.2.2.2.2.2.2, n2⟩
/-- the speeds -/
def ridL (m : Int) : Nat → Int → Int → List Int
  | 0, _, _ => []
  | k + 1, v, l => if l ≤ 0 then [] else nxV m v l :: ridL m k (nxV m v l) (l - nxV m v l)
theorem ridL_len {m : Int} (hm : 1 ≤ m ∧ m ≤ 20) : ∀ (k : Nat) {v l d : Int}, l ≤ k → RdI m v l → Rides m v l d → ((ridL m k v l).length : Int) = d - v
  | 0, v, l, d, hk, h, hr => by
    have : l = 0 := by have := h.2.2.1; omega
    subst this
    have := hr.done hm.1
    simp [ridL]; omega
  | k + 1, v, l, d, hk, h, hr => by
    by_cases c : l ≤ 0
    · have : l = 0 := by have := h.2.2.1; omega
      subst this
      have := hr.done hm.1
      simp [ridL]; omega
    · have ha := rd_all hm h (by omega)
      have hn := hr.next hm.1 (by omega) ha.2.2.2.2.2.2.2
      have := ridL_len hm k (by omega) ha.2.2.2.2.2.1 hn.1
      simp only [ridL, if_neg c, List.length_cons]
      omega
theorem ridL_stab {m : Int} (hm : 1 ≤ m ∧ m ≤ 20) : ∀ (k j : Nat) {v l : Int}, RdI m v l → l ≤ k → l ≤ j → ridL m k v l = ridL m j v l
  | 0, 0, v, l, h, _, _ => rfl
  | 0, j + 1, v, l, h, h1, _ => by simp only [ridL, if_pos (by omega : l ≤ 0)]
  | k + 1, 0, v, l, h, _, h1 => by simp only [ridL, if_pos (by omega : l ≤ 0)]
  | k + 1, j + 1, v, l, h, h1, h2 => by
    by_cases c : l ≤ 0
    · simp only [ridL, if_pos c]
    · have ha := rd_all hm h (by omega)
      simp only [ridL, if_neg c]
      rw [ridL_stab hm k j ha.2.2.2.2.2.1 (by omega) (by omega)]
/-- the speeds of the ride over n -/
def spL (m n : Int) : List Int := ridL m n.toNat 0 n
theorem start_i {m n : Int} (h1 : 0 ≤ n ∧ n ≤ 63000) (h2 : 1 ≤ m ∧ m ≤ 20) : RdI m 0 n := ⟨by omega, by omega, h1.1, h1.2, .inl rfl⟩
theorem spL_len {m n : Int} (h1 : 0 ≤ n ∧ n ≤ 63000) (h2 : 1 ≤ m ∧ m ≤ 20) : ((spL m n).length : Int) = rD m n := by
  have := ridL_len h2 n.toNat (by omega) (start_i h1 h2) (Rides.start (rD_is h2.1 h1.1) h2.1 h1.1)
  unfold spL; omega
def mxV (p v : Int) : Int := if v > p then v else p
def pkV (n m : Int) : Int := (spL m n).foldl mxV 0
theorem rdA_go {n m : Int} (hm : 1 ≤ m ∧ m ≤ 20) : ∀ (k : Nat) {t p v l : Int}, l ≤ k → RdI m v l → 0 ≤ t → t + l ≤ 63000 → 0 ≤ p → p ≤ 20 → ∃ v' l', rdA_f n m (k + 1) t p v l = some (0, (t + (ridL m k v l).length, (ridL m k v l).foldl mxV p, v', l'))
  | 0, t, p, v, l, hk, h, h0, h1, h2, h3 => by
    have e : l = 0 := by have := h.2.2.1; omega
    subst e
    obtain ⟨a1, a2, a3, a4, a5⟩ := h
    refine ⟨v, 0, ?_⟩
    rw [rdA_fs, decide_eq_true ⟨a1, a2, a3, a4, a5, h0, by omega, h2, h3, .inl rfl⟩, cond_true, decide_eq_false (by omega), cond_false]
    simp [ridL]
  | k + 1, t, p, v, l, hk, h, h0, h1, h2, h3 => by
    by_cases c : l ≤ 0
    · have e : l = 0 := by have := h.2.2.1; omega
      subst e
      obtain ⟨a1, a2, a3, a4, a5⟩ := h
      refine ⟨v, 0, ?_⟩
      rw [rdA_fs, decide_eq_true ⟨a1, a2, a3, a4, a5, h0, by omega, h2, h3, .inl rfl⟩, cond_true, decide_eq_false (by omega), cond_false]
      simp [ridL]
    · have ha := rd_all hm h (by omega)
      have hb := h
      obtain ⟨a1, a2, a3, a4, a5⟩ := hb
      have hp : 0 ≤ mxV p (nxV m v l) ∧ mxV p (nxV m v l) ≤ 20 := by unfold mxV; split <;> omega
      obtain ⟨v', l', hf⟩ := rdA_go (n := n) hm k (t := t + 1) (p := mxV p (nxV m v l)) (by omega) ha.2.2.2.2.2.1 (by omega) (by omega) hp.1 hp.2
      refine ⟨v', l', ?_⟩
      rw [rdA_fs, decide_eq_true ⟨a1, a2, a3, a4, a5, h0, by omega, h2, h3, .inr ⟨by omega, by omega, by omega⟩⟩, cond_true, decide_eq_true (by omega), cond_true, w8 (v := t + 1) (by omega), w8 (v := l - nxV m v l) (by omega)]
      simp only [ridL, if_neg c, List.length_cons, List.foldl_cons]
      refine hf.trans ?_
      rw [show t + 1 + ((ridL m k (nxV m v l) (l - nxV m v l)).length : Int) = t + (((ridL m k (nxV m v l) (l - nxV m v l)).length + 1 : Nat) : Int) by omega]
theorem ride_is {n m : Int} (h1 : 0 ≤ n ∧ n ≤ 63000) (h2 : 1 ≤ m ∧ m ≤ 20) : Known Try.prog [] 45 [.int .i64 n, .int .i64 m] (.tuple #[.int .i64 (rD m n), .int .i64 (pkV n m)]) := by
  obtain ⟨v', l', hf⟩ := rdA_go (n := n) h2 n.toNat (t := 0) (p := 0) (by omega) (start_i h1 h2) (by omega) (by omega) (by omega) (by omega)
  have hl := rdA_ok n m h1 h2 _ _ _ hf
  have r := rdK n m _ _ _ _ h1 h2 hl
  rw [show rdK_c0 n m (0 + ((ridL m n.toNat 0 n).length : Int)) ((ridL m n.toNat 0 n).foldl mxV 0) v' l' = rD m n by unfold rdK_c0; have := spL_len h1 h2; unfold spL at this; omega] at r
  exact r
end Go.Proofs.Ytcjlidciniiofaa
