import Derived.Test.YtcjlidciniiofaaEvZ7
import Derived.IntWalk
set_option linter.unusedVariables false
namespace Go.Proofs.Ytcjlidciniiofaa
open Go Go.RowKit
theorem w8 {v : Int} (h : -100000000 ≤ v ∧ v ≤ 100000000) : IntKind.i64.wrap v = v := Go.IntWalk.i64_in v ⟨by omega, by omega⟩
def rW (L k : Int) : Int := min ((k + 1) / 2) L * (k + 1 - min ((k + 1) / 2) L)
def IsD (L n d : Int) : Prop := 0 ≤ d ∧ n ≤ rW L d ∧ (d = 0 ∨ rW L (d - 1) < n)
def rT (v : Int) : Int := v * (v + 1) / 2
theorem rT_two {v : Int} : 2 * rT v = v * v + v := by
 unfold rT
 have h : v * (v + 1) % 2 = 0 := by
  rcases (by omega : v % 2 = 0 ∨ v % 2 = 1) with h | h
  ·rw [Int.mul_emod, h]; omega
  ·have : (v + 1) % 2 = 0 := by omega
   rw [Int.mul_emod, this]; omega
 have e : v * (v + 1) = v * v + v := by rw [Int.mul_add, Int.mul_one]
 omega
theorem sq_succ (v : Int) : (v + 1) * (v + 1) = v * v + 2 * v + 1 := by
 rw [Int.add_mul, Int.mul_add]; omega
theorem sq_pred (v : Int) : (v - 1) * (v - 1) = v * v - 2 * v + 1 := by
 rw [Int.sub_mul, Int.mul_sub]; omega
theorem rT_succ {v : Int} : rT (v + 1) = rT v + v + 1 := by
 have h1 := rT_two (v := v + 1)
 have h2 := rT_two (v := v)
 have := sq_succ v
 omega
theorem rT_pred {v : Int} : rT (v - 1) = rT v - v := by
 have h := rT_succ (v := v - 1)
 rw [show v - 1 + 1 = v by omega] at h
 omega
theorem sq_bound {v b : Int} (h0 : 0 ≤ v) (h : v ≤ b) : 0 ≤ v * v ∧ v * v ≤ b * b :=
 ⟨Int.mul_nonneg h0 h0, Int.mul_le_mul h h h0 (by omega)⟩
theorem sq_ge {v : Int} (h0 : 0 ≤ v) : v ≤ v * v := by
 rcases (by omega : v = 0 ∨ 1 ≤ v) with h | h
 ·subst h; decide
 ·have := Int.mul_le_mul h (Int.le_refl v) h0 h0
  omega
theorem rT_ge {v : Int} (h0 : 0 ≤ v) : v ≤ rT v := by
 have := rT_two (v := v); have := sq_ge h0; omega
theorem rT_bound {v : Int} (h0 : 0 ≤ v) (h : v ≤ 21) : 0 ≤ rT v ∧ rT v ≤ 231 := by
 have := rT_two (v := v); have := sq_bound h0 h; omega
theorem rW_even {L j : Int} (h0 : 0 ≤ j) (h : j ≤ L) : rW L (2 * j) = j * j + j := by
 unfold rW
 rw [show (2 * j + 1) / 2 = j by omega, Int.min_eq_left h, show 2 * j + 1 - j = j + 1 by omega, Int.mul_add, Int.mul_one]
theorem rW_odd {L j : Int} (h0 : 1 ≤ j) (h : j ≤ L) : rW L (2 * j - 1) = j * j := by
 unfold rW
 rw [show (2 * j - 1 + 1) / 2 = j by omega, Int.min_eq_left h, show 2 * j - 1 + 1 - j = j by omega]
theorem rW_lin {L k : Int} (hL : 1 ≤ L) (h : 2 * L - 1 ≤ k) : rW L k = L * (k + 1 - L) := by
 unfold rW
 rw [Int.min_eq_right (by omega : L ≤ (k + 1) / 2)]
theorem rW_lin1 {L k : Int} (hL : 1 ≤ L) (h : 2 * L - 1 ≤ k) : rW L (k + 1) = rW L k + L := by
 rw [rW_lin hL h, rW_lin hL (by omega), show k + 1 + 1 - L = (k + 1 - L) + 1 by omega, Int.mul_add, Int.mul_one]
theorem rW_step {L k : Int} (hL : 1 ≤ L) (hk : 0 ≤ k) : rW L k < rW L (k + 1) := by
 rcases (by omega : 2 * L - 1 ≤ k ∨ k < 2 * L - 1) with h | h
 ·rw [rW_lin1 hL h]; omega
 ·rcases (by omega : k % 2 = 0 ∨ k % 2 = 1) with e | e
  ·obtain ⟨j, rfl⟩ : ∃ j, k = 2 * j := ⟨k / 2, by omega⟩
   rw [rW_even (by omega) (by omega), show 2 * j + 1 = 2 * (j + 1) - 1 by omega, rW_odd (by omega) (by omega), sq_succ]
   omega
  ·obtain ⟨j, rfl⟩ : ∃ j, k = 2 * j - 1 := ⟨(k + 1) / 2, by omega⟩
   rw [rW_odd (by omega) (by omega), show 2 * j - 1 + 1 = 2 * j by omega, rW_even (by omega) (by omega)]
   omega
theorem rW_lt {L : Int} (hL : 1 ≤ L) : ∀ (i : Nat) {a : Int}, 0 ≤ a → rW L a < rW L (a + (i + 1 : Nat))
 | 0, a, h => by simpa using rW_step hL h
 | i + 1, a, h => by
  have h1 := rW_lt hL i h
  have h2 := rW_step (k := a + (i + 1 : Nat)) hL (by omega)
  rw [show a + ((i + 1 : Nat) : Int) + 1 = a + ((i + 1 + 1 : Nat) : Int) by omega] at h2
  omega
theorem rW_mono {L a b : Int} (hL : 1 ≤ L) (h0 : 0 ≤ a) (h : a < b) : rW L a < rW L b := by
 have := rW_lt hL (b - a - 1).toNat h0
 rw [show a + (((b - a - 1).toNat + 1 : Nat) : Int) = b by omega] at this
 exact this
theorem rW_le {L a b : Int} (hL : 1 ≤ L) (h0 : 0 ≤ a) (h : a ≤ b) : rW L a ≤ rW L b := by
 rcases (by omega : a = b ∨ a < b) with e | e
 ·subst e; omega
 ·have := rW_mono hL h0 e; omega
theorem rW_ge {L k : Int} (hL : 1 ≤ L) (hk : 0 ≤ k) : k ≤ rW L k := by
 have h0 : rW L 0 = 0 := by unfold rW; rw [show ((0 : Int) + 1) / 2 = 0 by decide, Int.min_eq_left (by omega)]; omega
 rcases (by omega : k = 0 ∨ 0 < k) with e | e
 ·subst e; omega
 ·obtain ⟨i, rfl⟩ : ∃ i : Nat, k = i := ⟨k.toNat, by omega⟩
  clear e hk
  induction i with
  | zero => simpa using (by omega : (0 : Int) ≤ rW L 0)
  | succ i ih =>
   have := rW_step (k := (i : Int)) hL (by omega)
   rw [show ((i : Int) + 1) = ((i + 1 : Nat) : Int) by omega] at this
   omega
theorem IsD.uniq {L n d e : Int} (hL : 1 ≤ L) (h : IsD L n d) (k : IsD L n e) : d = e := by
 obtain ⟨h1, h2, h3⟩ := h
 obtain ⟨k1, k2, k3⟩ := k
 rcases (by omega : d = e ∨ d < e ∨ e < d) with h | h | h
 ·exact h
 ·have := rW_le (a := d) (b := e - 1) hL h1 (by omega)
  omega
 ·have := rW_le (a := e) (b := d - 1) hL k1 (by omega)
  omega
theorem IsD.le {L n d : Int} (hL : 1 ≤ L) (hn : 0 ≤ n) (h : IsD L n d) : d ≤ n := by
 obtain ⟨h1, h2, h3⟩ := h
 rcases h3 with h3 | h3
 ·omega
 ·rcases (by omega : d = 0 ∨ 1 ≤ d) with e | e
  ·omega
  ·have := rW_ge (k := d - 1) hL (by omega)
   omega
theorem IsD.most {L x d : Int} (hL : 1 ≤ L) (hx : L * L + L ≤ x) (h : IsD L x d) : IsD L (x - L) (d - 1) ∧ 2 * L ≤ d := by
 obtain ⟨h1, h2, h3⟩ := h
 have o := rW_odd (j := L) hL (Int.le_refl _)
 have ev := rW_even (L := L) (j := L) (by omega) (Int.le_refl _)
 have hd : 2 * L ≤ d := by
  rcases (by omega : 2 * L ≤ d ∨ d ≤ 2 * L - 1) with k | k
  ·exact k
  ·have := rW_le hL h1 k
   omega
 have l1 := rW_lin1 (k := d - 1) hL (by omega)
 rw [show d - 1 + 1 = d by omega] at l1
 refine ⟨⟨by omega, by omega, .inr ?_⟩, hd⟩
 rcases h3 with h3 | h3
 ·omega
 rcases (by omega : d = 2 * L ∨ 2 * L + 1 ≤ d) with k | k
 ·subst k
  rcases (by omega : L = 1 ∨ 2 ≤ L) with e | e
  ·subst e; simp at *; have : rW 1 0 = 0 := by decide
   omega
  ·have := rW_even (L := L) (j := L - 1) (by omega) (by omega)
   rw [show 2 * L - 1 - 1 = 2 * (L - 1) by omega, this, sq_pred]
   omega
 ·have l2 := rW_lin1 (k := d - 1 - 1) hL (by omega)
  rw [show d - 1 - 1 + 1 = d - 1 by omega] at l2
  omega
theorem IsD.same {L v x d : Int} (hv : 1 ≤ v) (hL : v ≤ L) (h1 : v * v + v ≤ x) (h2 : x ≤ v * v + 2 * v) (hv2 : v < L ∨ x = v * v + v) (h : IsD L x d) : IsD L (x - v) (d - 1) ∧ v + 1 ≤ d := by
 have e0 := rW_odd (L := L) (j := v) hv hL
 have e1 := rW_even (L := L) (j := v) (by omega) hL
 have e2 := rW_even (L := L) (j := v - 1) (by omega) (by omega)
 have s := sq_pred v
 rw [s] at e2
 rw [show 2 * (v - 1) = 2 * v - 1 - 1 by omega] at e2
 rcases (by omega : x = v * v + v ∨ v * v + v < x) with k | k
 ·have : IsD L x (2 * v) := ⟨by omega, by omega, .inr (by omega)⟩
  have := IsD.uniq (by omega) h this
  subst this
  exact ⟨⟨by omega, by omega, .inr (by omega)⟩, by omega⟩
 ·have e3 := rW_odd (L := L) (j := v + 1) (by omega) (by omega)
  rw [show 2 * (v + 1) - 1 = 2 * v + 1 by omega, sq_succ] at e3
  have : IsD L x (2 * v + 1) := ⟨by omega, by omega, .inr (by rw [show 2 * v + 1 - 1 = 2 * v by omega]; omega)⟩
  have := IsD.uniq (by omega) h this
  subst this
  rw [show 2 * v + 1 - 1 = 2 * v by omega]
  exact ⟨⟨by omega, by omega, .inr (by omega)⟩, by omega⟩
theorem IsD.slow {L v x d : Int} (hv : 2 ≤ v) (hL : v ≤ L) (h1 : v * v ≤ x) (h2 : x < v * v + v) (h : IsD L x d) : IsD L (x - 2 * v + 1) (d - 2) ∧ v + 1 ≤ d := by
 have e0 := rW_odd (L := L) (j := v) (by omega) hL
 have e1 := rW_even (L := L) (j := v) (by omega) hL
 have e2 := rW_even (L := L) (j := v - 1) (by omega) (by omega)
 have e3 := rW_odd (L := L) (j := v - 1) (by omega) (by omega)
 have e4 := rW_even (L := L) (j := v - 1 - 1) (by omega) (by omega)
 rw [sq_pred] at e2 e3
 rw [sq_pred, sq_pred] at e4
 rw [show 2 * (v - 1) = 2 * v - 2 by omega] at e2
 rw [show 2 * (v - 1) - 1 = 2 * v - 3 by omega] at e3
 rw [show 2 * (v - 1 - 1) = 2 * v - 4 by omega] at e4
 rcases (by omega : x = v * v ∨ v * v < x) with k | k
 ·have : IsD L x (2 * v - 1) := ⟨by omega, by omega, .inr (by rw [show 2 * v - 1 - 1 = 2 * v - 2 by omega]; omega)⟩
  have := IsD.uniq (by omega) h this
  subst this
  rw [show 2 * v - 1 - 2 = 2 * v - 3 by omega]
  exact ⟨⟨by omega, by omega, .inr (by rw [show 2 * v - 3 - 1 = 2 * v - 4 by omega]; omega)⟩, by omega⟩
 ·have : IsD L x (2 * v) := ⟨by omega, by omega, .inr (by omega)⟩
  have := IsD.uniq (by omega) h this
  subst this
  exact ⟨⟨by omega, by omega, .inr (by rw [show 2 * v - 2 - 1 = 2 * v - 3 by omega]; omega)⟩, by omega⟩
def NextV (L v left w : Int) : Prop := (w = v + 1 ∧ w ≤ L ∧ rT w ≤ left) ∨ (w = v ∧ 1 ≤ v ∧ rT v ≤ left ∧ (v = L ∨ left < rT (v + 1))) ∨ (w = v - 1 ∧ 2 ≤ v ∧ rT (v - 1) ≤ left ∧ left < rT v)
structure Rides (L v left d : Int) : Prop where
 v0 : 0 ≤ v
 vL : v ≤ L
 stop : rT (v - 1) ≤ left
 is : IsD L (left + rT v) d
theorem Rides.next {L v left w d : Int} (hL : 1 ≤ L) (h : Rides L v left d) (hl : 0 < left) (k : NextV L v left w) : Rides L w (left - w) (d - v - 1 + w) ∧ v + 1 ≤ d ∧ 1 ≤ w ∧ 0 ≤ left - w := by
 obtain ⟨h0, h1, h2, h3⟩ := h
 have t2 := rT_two (v := v)
 have tp := rT_pred (v := v)
 have ts := rT_succ (v := v)
 rcases k with ⟨rfl, k1, k2⟩ | ⟨e, k1, k2, k3⟩ | ⟨rfl, k1, k2, k3⟩
 ·have hg := rT_ge (v := v + 1) (by omega)
  have hd : v + 1 ≤ d := by
   rcases (by omega : v + 1 ≤ d ∨ d ≤ v) with g | g
   ·exact g
   ·exfalso
    obtain ⟨g1, g2, _⟩ := h3
    have := rW_le hL g1 g
    have e : rW L v ≤ v * v + v := by
     rcases (by omega : v % 2 = 0 ∨ v % 2 = 1) with e | e
     ·obtain ⟨j, rfl⟩ : ∃ j, v = 2 * j := ⟨v / 2, by omega⟩
      rw [rW_even (by omega) (by omega)]
      have := (sq_bound (v := j) (b := 2 * j) (by omega) (by omega)).2
      omega
     ·obtain ⟨j, rfl⟩ : ∃ j, v = 2 * j - 1 := ⟨(v + 1) / 2, by omega⟩
      rw [rW_odd (by omega) (by omega)]
      have := (sq_bound (v := j) (b := 2 * j - 1) (by omega) (by omega)).2
      omega
    omega
  refine ⟨⟨by omega, k1, by rw [show v + 1 - 1 = v by omega]; omega, ?_⟩, hd, by omega, by omega⟩
  rw [show left - (v + 1) + rT (v + 1) = left + rT v by omega, show d - v - 1 + (v + 1) = d by omega]
  exact h3
 ·rw [e]
  have hg := rT_ge (v := v) (by omega)
  have key : IsD L (left + rT v - v) (d - 1) ∧ v + 1 ≤ d := by
   rcases k3 with k3 | k3
   ·subst k3
    have := IsD.most (x := left + rT v) hL (by omega) h3
    exact ⟨this.1, by omega⟩
   ·rcases (by omega : v < L ∨ v = L) with g | g
    ·exact IsD.same k1 h1 (by omega) (by omega) (.inl g) h3
    ·subst g
     have := IsD.most (x := left + rT v) hL (by omega) h3
     exact ⟨this.1, by omega⟩
  refine ⟨⟨by omega, h1, by omega, ?_⟩, key.2, by omega, by omega⟩
  rw [show left - v + rT v = left + rT v - v by omega, show d - v - 1 + v = d - 1 by omega]
  exact key.1
 ·have hg := rT_ge (v := v - 1) (by omega)
  have tpp := rT_pred (v := v - 1)
  have key := IsD.slow (x := left + rT v) k1 h1 (by omega) (by omega) h3
  refine ⟨⟨by omega, by omega, by omega, ?_⟩, key.2, by omega, by omega⟩
  rw [show left - (v - 1) + rT (v - 1) = left + rT v - 2 * v + 1 by omega, show d - v - 1 + (v - 1) = d - 2 by omega]
  exact key.1
theorem Rides.done {L v d : Int} (hL : 1 ≤ L) (h : Rides L v 0 d) : d = v := by
 obtain ⟨h0, h1, h2, h3⟩ := h
 have hv : v ≤ 1 := by
  rcases (by omega : v ≤ 1 ∨ 2 ≤ v) with k | k
  ·exact k
  ·have := rT_ge (v := v - 1) (by omega); omega
 refine IsD.uniq hL h3 ?_
 rcases (by omega : v = 0 ∨ v = 1) with e | e
 ·subst e
  have e0 := rW_ge (L := L) (k := 0) hL (by omega)
  have z : rT 0 = 0 := by decide
  exact ⟨by omega, by omega, .inl rfl⟩
 ·subst e
  have e0 := rW_ge (k := 1) hL (by omega)
  have e1 := rW_even (L := L) (j := 0) (by omega) (by omega)
  have e2 : rT 1 = 1 := by decide
  exact ⟨by omega, by omega, .inr (by simp at e1 ⊢; omega)⟩
theorem Rides.start {L n d : Int} (h : IsD L n d) (hL : 1 ≤ L) (hn : 0 ≤ n) : Rides L 0 n d :=
 ⟨by omega, by omega, (by rw [show rT (0 - 1) = 0 by decide]; omega), (by rw [show rT 0 = 0 by decide]; simpa using h)⟩
theorem nextV_ex {L v left : Int} (hL : 1 ≤ L) (h0 : 0 ≤ v) (h1 : v ≤ L) (h2 : rT (v - 1) ≤ left) (hl : 0 < left) : ∃ w, NextV L v left w := by
 have ts := rT_succ (v := v)
 have tp := rT_pred (v := v)
 by_cases c1 : v + 1 ≤ L ∧ rT (v + 1) ≤ left
 ·exact ⟨v + 1, .inl ⟨rfl, c1.1, c1.2⟩⟩
 ·by_cases c2 : 1 ≤ v ∧ rT v ≤ left
  ·exact ⟨v, .inr (.inl ⟨rfl, c2.1, c2.2, by omega⟩)⟩
  ·have z : rT 1 = 1 := by decide
   have z0 : rT 0 = 0 := by decide
   rcases (by omega : v = 0 ∨ v = 1 ∨ 2 ≤ v) with e | e | e
   ·subst e; exact absurd ⟨by omega, by omega⟩ c1
   ·subst e; exact absurd ⟨by omega, by omega⟩ c2
   ·exact ⟨v - 1, .inr (.inr ⟨rfl, e, h2, by omega⟩)⟩
theorem isD_ex {L : Int} (hL : 1 ≤ L) (n : Int) (hn : 0 ≤ n) : ∃ d, IsD L n d := by
 have key : ∀ (k : Nat), n ≤ rW L k → ∃ d, IsD L n d := by
  intro k
  induction k with
  | zero => exact fun h => ⟨0, by omega, by simpa using h, .inl rfl⟩
  | succ k ih =>
   intro h
   by_cases c : n ≤ rW L k
   ·exact ih c
   ·exact ⟨(k + 1 : Nat), by omega, h, .inr (by rw [show (((k + 1 : Nat) : Int) - 1) = k by omega]; omega)⟩
 refine key n.toNat ?_
 rw [show ((n.toNat : Nat) : Int) = n by omega]
 exact rW_ge hL hn
noncomputable def rD (L n : Int) : Int := Classical.epsilon (IsD L n)
theorem rD_is {L n : Int} (hL : 1 ≤ L) (hn : 0 ≤ n) : IsD L n (rD L n) := Classical.epsilon_spec (isD_ex hL n hn)
theorem rD_eq {L n d : Int} (hL : 1 ≤ L) (hn : 0 ≤ n) (h : IsD L n d) : rD L n = d := IsD.uniq hL (rD_is hL hn) h
theorem rD_mono {L a b : Int} (hL : 1 ≤ L) (h0 : 0 ≤ a) (h : a ≤ b) : rD L a ≤ rD L b := by
 obtain ⟨a1, a2, a3⟩ := rD_is hL h0
 obtain ⟨b1, b2, b3⟩ := rD_is (L := L) (n := b) hL (by omega)
 rcases (by omega : rD L a ≤ rD L b ∨ rD L b < rD L a) with k | k
 ·exact k
 ·have := rW_le (a := rD L b) (b := rD L a - 1) hL b1 (by omega)
  omega
theorem rD_bound {L n : Int} (hL : 1 ≤ L) (h0 : 0 ≤ n) : 0 ≤ rD L n ∧ rD L n ≤ n := ⟨(rD_is hL h0).1, (rD_is hL h0).le hL h0⟩
end Go.Proofs.Ytcjlidciniiofaa
