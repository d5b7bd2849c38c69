import Derived.Test.YtaogbagopdlkmaaOgE
import Derived.Test.YtaogbagopdlkmaaPC
set_option linter.unusedVariables false
namespace Go.Proofs.Ytaogbagopdlkmaa
open Go Go.RowKit
theorem nmul {n : Nat} {t : Int} (h : n ≤ 17) (h0 : 0 ≤ t) (h1 : t ≤ 400000) : 0 ≤ (n : Int) * t ∧ (n : Int) * t ≤ 6800000 := by
 have := mul_low (n := (n : Int)) (t := t) (a := 17) (b := 400000) (by omega) (by omega) h0 h1
 omega
theorem nsucc (n : Nat) (t : Int) : ((n + 1 : Nat) : Int) * t = n * t + t := by rw [Int.natCast_add, Int.add_mul]; simp
theorem ofD_go {m d t s c x : Int} {N : Nat} (hm : 1 ≤ m ∧ m ≤ 200000) (hd : 1 ≤ d ∧ d ≤ 200000) (hN : trN m t s = N) (hN2 : N ≤ 16) : ∀ (k i : Nat), i + k = N →
  ofD_f m d t s c x (k + 1) (pts m d N (2 * i + 1)).reverse (i : Int) (m + i * (m + d)) = some (0, ((pts m d N (2 * N + 1)).reverse, (N : Int), m + N * (m + d))) := by
 intro k
 induction k with
 | zero =>
  intro i h
  rw [ofD_f.eq_2, hN, bif_dF (show ¬ (i : Int) < (N : Int) by omega)]
  rw [show i = N by omega]
  simp only [List.length_reverse, pts_len]
  rw [decide_eq_true (show (0 : Int) ≤ (N : Int) ∧ (N : Int) ≤ (N : Int) ∧ ((2 * N + 1 : Nat) : Int) = 1 + 2 * (N : Int) by omega), decide_eq_true (show (2 * N + 1 + 1) * 32 < 1000000000 by omega), decide_eq_true (show (2 * N + 1 + 1 + 1) * 32 < 1000000000 by omega)]
  rfl
 | succ k ih =>
  intro i h
  rw [ofD_f.eq_2, hN, bif_dT (show (i : Int) < (N : Int) by omega)]
  have hb := nmul (n := i) (t := m + d) (by omega) (by omega) (by omega)
  rw [w8n (n := m + i * (m + d) + m) (by omega) (by omega), w8n (n := m + i * (m + d) + m + d) (by omega) (by omega), w8n (n := (i : Int) + 1) (by omega) (by omega)]
  have e1 : (3, (i : Int), m + i * (m + d) + m, d) :: (2, (i : Int), m + i * (m + d), m) :: (pts m d N (2 * i + 1)).reverse = (pts m d N (2 * (i + 1) + 1)).reverse := by
   rw [show 2 * (i + 1) + 1 = 2 * i + 1 + 1 + 1 by omega, pts_succ m d N (2 * i + 1 + 1), pts_succ m d N (2 * i + 1), List.reverse_append, List.reverse_append, prt_move m d N i (by omega), show 2 * i + 1 + 1 = 2 * i + 2 from rfl, prt_door m d N i (by omega)]
   rfl
  have e2 : m + i * (m + d) + m + d = m + ((i + 1 : Nat) : Int) * (m + d) := by rw [nsucc]; omega
  rw [e1, e2, show (i : Int) + 1 = ((i + 1 : Nat) : Int) by omega]
  simp only [List.length_reverse, pts_len]
  rw [decide_eq_true (show (0 : Int) ≤ (i : Int) ∧ (i : Int) ≤ (N : Int) ∧ ((2 * i + 1 : Nat) : Int) = 1 + 2 * (i : Int) by omega), decide_eq_true (show (2 * i + 1 + 1) * 32 < 1000000000 by omega), decide_eq_true (show (2 * i + 1 + 1 + 1) * 32 < 1000000000 by omega)]
  exact ih (i + 1) (by omega)
theorem ofD_all {m d t s c x : Int} {N : Nat} (hm : 1 ≤ m ∧ m ≤ 200000) (hd : 1 ≤ d ∧ d ≤ 200000) (hN : trN m t s = N) (hN2 : N ≤ 16) :
  ofD_f m d t s c x (N + 1) [((1 : Int), (0 : Int), (0 : Int), m)] (0 : Int) (IntKind.i64.wrap ((0 : Int) + m)) = some (0, ((pts m d N (2 * N + 1)).reverse, (N : Int), m + N * (m + d))) := by
 have h := ofD_go (m := m) (d := d) (t := t) (s := s) (c := c) (x := x) hm hd hN hN2 N 0 (by omega)
 rw [w8n (n := (0 : Int) + m) (by omega) (by omega)]
 have e : (pts m d N (2 * 0 + 1)).reverse = [((1 : Int), (0 : Int), (0 : Int), m)] := by
  show [prt m d N 0].reverse = _
  rw [prt_zero]; rfl
 rw [e] at h
 simpa using h
theorem ptL_eq (m d : Int) (N : Nat) : ((5, (0 : Int), m + N * (m + d) + m, d) :: (4, (0 : Int), m + N * (m + d), m) :: (pts m d N (2 * N + 1)).reverse).reverse = ptL m d N := by
 unfold ptL
 rw [show 2 * N + 3 = 2 * N + 1 + 1 + 1 by omega, pts_succ m d N (2 * N + 1 + 1), pts_succ m d N (2 * N + 1), prt_pmove, show 2 * N + 1 + 1 = 2 * N + 2 from rfl, prt_pdoor]
 simp
theorem ptL_el (m d : Int) (N k : Nat) (h : k < 2 * N + 3) : el (ptL m d N) (k : Int) = prt m d N k := pts_el m d N _ k h
theorem slot_len {m d t s : Int} {N : Nat} (hN : trN m t s = N) (h0 : trN m t s ≠ 0) (ht : t = m + d) : m + N * (m + d) + m + d = s := by
 have h := (trN_eq h0).1
 rw [hN, ht] at h
 have e : ((N : Int) + 1) * (m + d) = N * (m + d) + (m + d) := by rw [Int.add_mul]; simp
 omega
theorem mid_eq (i j : Nat) (h : i + j ≤ 1000) : IntKind.i64.wrap ((IntKind.u64.wrap (IntKind.i64.wrap ((i : Int) + (j : Int)))).fdiv 2) = (((i + j) / 2 : Nat) : Int) := by
 rw [w8n (n := (i : Int) + j) (by omega) (by omega)]
 have e : IntKind.u64.wrap ((i : Int) + j) = ((i + j : Nat) : Int) := by
  rw [show IntKind.u64.wrap ((i : Int) + j) = ((i : Int) + j) % 18446744073709551616 by first | rfl | simp [IntKind.wrap, IntKind.signed, IntKind.bits]]
  omega
 rw [e, Int.fdiv_eq_ediv_of_nonneg _ (by omega), w8n (by omega) (by omega)]
 omega
theorem ofS_go {m d t s c x : Int} {N : Nat} (z1 : Int) (hm : 1 ≤ m ∧ m ≤ 200000) (hd : 1 ≤ d ∧ d ≤ 200000) (hN2 : N ≤ 16) {u : Int} (hu : 0 ≤ u) (hu2 : u < fst m d (2 * N + 3)) (hxu : x.tmod (m + N * (m + d) + m + d) = u) : ∀ (k i j : Nat), j - i ≤ k → i ≤ j → j ≤ 2 * N + 3 → (∀ q, q < i → fst m d q ≤ u) → (∀ q, j ≤ q → q < 2 * N + 3 → u < fst m d q) →
  ofS_f m d t s c x (pts m d N (2 * N + 1)).reverse z1 (m + N * (m + d)) (k + 1) (i : Int) (j : Int) = some (0, ((kOf m d u + 1 : Nat) : Int), ((kOf m d u + 1 : Nat) : Int)) := by
 have hb := nmul (n := N) (t := m + d) (by omega) (by omega) (by omega)
 have w1 := w8n (n := m + N * (m + d) + m) (by omega) (by omega)
 have w2 := w8n (n := m + N * (m + d) + m + d) (by omega) (by omega)
 have ⟨g1, g2⟩ := kOf_is hm.1 hd.1 hu
 have hk : kOf m d u < 2 * N + 3 := by
  rcases Nat.lt_or_ge (kOf m d u) (2 * N + 3) with h | h
  ·exact h
  ·have := fst_mono hm.1 hd.1 h; omega
 intro k
 induction k with
 | zero =>
  intro i j h1 h2 h3 h4 h5
  have e : i = j := by omega
  subst e
  have e1 : i ≤ kOf m d u + 1 := by
   rcases Nat.lt_or_ge (kOf m d u + 1) i with h | h
   ·have := h4 _ h; omega
   ·exact h
  have e2 : kOf m d u + 1 ≤ i := by
   rcases Nat.lt_or_ge (kOf m d u) i with h | h
   ·exact h
   ·have := h5 _ h hk; omega
  have e : i = kOf m d u + 1 := by omega
  subst e
  rw [ofS_f.eq_2]
  simp only [List.length_reverse, pts_len]
  rw [decide_eq_false (show ¬ ((kOf m d u + 1 : Nat) : Int) < ((kOf m d u + 1 : Nat) : Int) by omega), decide_eq_true (show (0 : Int) ≤ ((kOf m d u + 1 : Nat) : Int) ∧ ((kOf m d u + 1 : Nat) : Int) ≤ ((kOf m d u + 1 : Nat) : Int) ∧ ((kOf m d u + 1 : Nat) : Int) ≤ ((2 * N + 1 + 1 + 1 : Nat) : Int) by omega)]
  rfl
 | succ k ih =>
  intro i j h1 h2 h3 h4 h5
  rcases Nat.lt_or_ge i j with hlt | hge
  ·rw [ofS_f.eq_2, w1, w2, ptL_eq, mid_eq i j (by omega), ptL_el m d N ((i + j) / 2) (by omega), hxu]
   simp only [List.length_reverse, pts_len]
   rw [decide_eq_true (show (i : Int) < (j : Int) by omega), decide_eq_true (show (0 : Int) ≤ (i : Int) ∧ (i : Int) ≤ (j : Int) ∧ (j : Int) ≤ ((2 * N + 1 + 1 + 1 : Nat) : Int) by omega), decide_eq_true (show (0 : Int) ≤ (((i + j) / 2 : Nat) : Int) by omega), decide_eq_true (show (((i + j) / 2 : Nat) : Int) < ((2 * N + 1 + 1 + 1 : Nat) : Int) by omega)]
   simp only [Bool.not_true, Bool.false_or, Bool.and_self, cond_true]
   have hf : (prt m d N ((i + j) / 2)).snd.snd.fst = fst m d ((i + j) / 2) := prt_fst m d N _
   rw [hf, w8n (n := (((i + j) / 2 : Nat) : Int) + 1) (by omega) (by omega)]
   by_cases hc : fst m d ((i + j) / 2) > u
   ·rw [decide_eq_true hc, Bool.not_true, cond_false]
    refine ih i ((i + j) / 2) (by omega) (by omega) (by omega) h4 (fun q hq hq2 => ?_)
    have := fst_mono hm.1 hd.1 hq
    omega
   ·rw [decide_eq_false hc, Bool.not_false, cond_true, show (((i + j) / 2 : Nat) : Int) + 1 = (((i + j) / 2 + 1 : Nat) : Int) by omega]
    refine ih ((i + j) / 2 + 1) j (by omega) (by omega) (by omega) (fun q hq => ?_) h5
    have := fst_mono hm.1 hd.1 (a := q) (b := (i + j) / 2) (by omega)
    omega
  ·have e : i = j := by omega
   subst e
   have e1 : i ≤ kOf m d u + 1 := by
    rcases Nat.lt_or_ge (kOf m d u + 1) i with h | h
    ·have := h4 _ h; omega
    ·exact h
   have e2 : kOf m d u + 1 ≤ i := by
    rcases Nat.lt_or_ge (kOf m d u) i with h | h
    ·exact h
    ·have := h5 _ h hk; omega
   have e : i = kOf m d u + 1 := by omega
   subst e
   rw [ofS_f.eq_2]
   simp only [List.length_reverse, pts_len]
   rw [decide_eq_false (show ¬ ((kOf m d u + 1 : Nat) : Int) < ((kOf m d u + 1 : Nat) : Int) by omega), decide_eq_true (show (0 : Int) ≤ ((kOf m d u + 1 : Nat) : Int) ∧ ((kOf m d u + 1 : Nat) : Int) ≤ ((kOf m d u + 1 : Nat) : Int) ∧ ((kOf m d u + 1 : Nat) : Int) ≤ ((2 * N + 1 + 1 + 1 : Nat) : Int) by omega)]
   rfl
end Go.Proofs.Ytaogbagopdlkmaa
