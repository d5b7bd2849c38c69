import Derived.Test.YtaogbagopdlkmaaPK
set_option linter.unusedVariables false
namespace Go.Proofs.Ytaogbagopdlkmaa
open Go Go.RowKit
def sumN (f : Nat → Int) : Nat → Int
 | 0 => 0
 | n + 1 => sumN f n + f n
def whK (m d : Int) (N : Nat) (k : Int) (j : Nat) : Int := if (prt m d N j).1 = k then (prt m d N j).2.2.2 else 0
def bgK (m d : Int) (N : Nat) (k u : Int) (j : Nat) : Int := max (min (u - fst m d j) (whK m d N k j)) 0
def wsK (m d : Int) (N : Nat) (k : Int) : Int := sumN (whK m d N k) (2 * N + 3)
def bsK (m d : Int) (N : Nat) (k u : Int) : Int := sumN (bgK m d N k u) (2 * N + 3)
def cntK (m d s : Int) (N : Nat) (k x : Int) : Int := wsK m d N k * (x / s) + bsK m d N k (x % s)
theorem sum_eq {f g : Nat → Int} : ∀ (n : Nat), (∀ j, j < n → f j = g j) → sumN f n = sumN g n
 | 0, _ => rfl
 | n + 1, h => by simp only [sumN]; rw [sum_eq n (fun j hj => h j (by omega)), h n (by omega)]
theorem sum_zero {f : Nat → Int} : ∀ (n : Nat), (∀ j, j < n → f j = 0) → sumN f n = 0
 | 0, _ => rfl
 | n + 1, h => by simp only [sumN]; rw [sum_zero n (fun j hj => h j (by omega)), h n (by omega)]; rfl
theorem len_pos {m d : Int} (hm : 1 ≤ m) (hd : 1 ≤ d) (N j : Nat) (h : j < 2 * N + 3) : 1 ≤ (prt m d N j).2.2.2 := by
 have := prt_next (m := m) (d := d) h
 have := fst_step hm hd j
 omega
theorem bg_step {m d : Int} (hm : 1 ≤ m) (hd : 1 ≤ d) {N : Nat} {k u : Int} (hu : 0 ≤ u) : ∀ (M : Nat), M ≤ 2 * N + 3 → sumN (bgK m d N k (u + 1)) M = sumN (bgK m d N k u) M + if kOf m d u < M ∧ (prt m d N (kOf m d u)).1 = k then 1 else 0 := by
 have ⟨g1, g2⟩ := kOf_is hm hd hu
 intro M
 induction M with
 | zero => intro _; rw [if_neg (by omega)]; rfl
 | succ M ih =>
  intro hM
  simp only [sumN]
  rw [ih (by omega)]
  have hn := prt_next (m := m) (d := d) (N := N) (k := M) (by omega)
  have hp := len_pos hm hd N M (by omega)
  by_cases hk : (prt m d N M).1 = k
  ·have ew : whK m d N k M = (prt m d N M).2.2.2 := by unfold whK; rw [if_pos hk]
   unfold bgK
   rw [ew]
   rcases Nat.lt_trichotomy M (kOf m d u) with c | c | c
   ·have := fst_mono hm hd (a := M + 1) (b := kOf m d u) (by omega)
    rw [if_neg (by omega), if_neg (by omega)]; omega
   ·subst c
    rw [if_neg (by omega), if_pos ⟨by omega, hk⟩]; omega
   ·have := fst_mono hm hd (a := kOf m d u + 1) (b := M) (by omega)
    have e : (kOf m d u < M + 1 ∧ (prt m d N (kOf m d u)).1 = k) ↔ (kOf m d u < M ∧ (prt m d N (kOf m d u)).1 = k) := by
     constructor <;> (rintro ⟨a, b⟩; exact ⟨by omega, b⟩)
    simp only [e]
    omega
  ·have ew : whK m d N k M = 0 := by unfold whK; rw [if_neg hk]
   unfold bgK
   rw [ew]
   have e : (kOf m d u < M + 1 ∧ (prt m d N (kOf m d u)).1 = k) ↔ (kOf m d u < M ∧ (prt m d N (kOf m d u)).1 = k) := by
    constructor
    ·rintro ⟨a, b⟩
     refine ⟨?_, b⟩
     rcases (by omega : kOf m d u < M ∨ kOf m d u = M) with c | c
     ·exact c
     ·rw [c] at b; exact absurd b hk
    ·rintro ⟨a, b⟩; exact ⟨by omega, b⟩
   simp only [e]
   omega
theorem bs_zero {m d : Int} (hm : 1 ≤ m) (hd : 1 ≤ d) {N : Nat} {k : Int} : bsK m d N k 0 = 0 := by
 refine sum_zero _ fun j hj => ?_
 have := fst_mono hm hd (a := 0) (b := j) (by omega)
 have f0 : fst m d 0 = 0 := by unfold fst; rw [if_pos rfl]
 have hp := len_pos hm hd N j hj
 unfold bgK
 omega
theorem bs_all {m d s : Int} (hm : 1 ≤ m) (hd : 1 ≤ d) {N : Nat} {k : Int} (hs : fst m d (2 * N + 3) = s) : bsK m d N k s = wsK m d N k := by
 refine sum_eq _ fun j hj => ?_
 have hn := prt_next (m := m) (d := d) (N := N) (k := j) hj
 have hp := len_pos hm hd N j hj
 have := fst_mono hm hd (a := j + 1) (b := 2 * N + 3) (by omega)
 unfold bgK whK
 split <;> omega
def kindT (m d s : Int) (N : Nat) (x : Int) : Int := (prt m d N (kOf m d (x % s))).1
theorem cnt_step {m d s : Int} (hm : 1 ≤ m) (hd : 1 ≤ d) {N : Nat} {k x : Int} (hx : 0 ≤ x) (hs : 1 ≤ s) (hf : fst m d (2 * N + 3) = s) : cntK m d s N k (x + 1) = cntK m d s N k x + if kindT m d s N x = k then 1 else 0 := by
 have u0 := Int.emod_nonneg x (b := s) (by omega)
 have u1 := Int.emod_lt_of_pos x (b := s) (by omega)
 have q2 := Int.emod_add_mul_ediv x s
 have hk : kOf m d (x % s) < 2 * N + 3 := by
  have ⟨g1, g2⟩ := kOf_is hm hd u0
  rcases Nat.lt_or_ge (kOf m d (x % s)) (2 * N + 3) with g | g
  ·exact g
  ·have := fst_mono hm hd g; omega
 have hb : bsK m d N k (x % s + 1) = bsK m d N k (x % s) + if kindT m d s N x = k then 1 else 0 := by
  have := bg_step (k := k) hm hd u0 (2 * N + 3) (Nat.le_refl _)
  unfold bsK kindT
  rw [this]
  simp only [hk, true_and]
 unfold cntK
 rcases (by omega : x % s + 1 < s ∨ x % s + 1 = s) with c | c
 ·have e : x + 1 = (x % s + 1) + s * (x / s) := by omega
  have em : (x + 1) % s = x % s + 1 := by rw [e, Int.add_mul_emod_self_left, Int.emod_eq_of_lt (by omega) c]
  have ed : (x + 1) / s = x / s := by
   conv => lhs; rw [e]
   rw [Int.add_mul_ediv_left _ _ (by omega), Int.ediv_eq_zero_of_lt (by omega) c, Int.zero_add]
  rw [em, ed, hb]; omega
 ·have e : x + 1 = 0 + s * (x / s + 1) := by rw [Int.mul_add]; omega
  have em : (x + 1) % s = 0 := by rw [e, Int.add_mul_emod_self_left]; simp
  have ed : (x + 1) / s = x / s + 1 := by
   conv => lhs; rw [e]
   rw [Int.add_mul_ediv_left _ _ (by omega)]; simp
  rw [c, bs_all hm hd hf] at hb
  rw [em, ed, bs_zero hm hd, Int.mul_add]
  omega
theorem kind_in {m d s : Int} (hm : 1 ≤ m) (hd : 1 ≤ d) {N : Nat} {x : Int} (hx : 0 ≤ x) (hs : 1 ≤ s) (hf : fst m d (2 * N + 3) = s) : 1 ≤ kindT m d s N x ∧ kindT m d s N x ≤ 5 := by
 have u0 := Int.emod_nonneg x (b := s) (by omega)
 have u1 := Int.emod_lt_of_pos x (b := s) (by omega)
 have hk : kOf m d (x % s) < 2 * N + 3 := by
  have ⟨g1, g2⟩ := kOf_is hm hd u0
  rcases Nat.lt_or_ge (kOf m d (x % s)) (2 * N + 3) with g | g
  ·exact g
  ·have := fst_mono hm hd g; omega
 exact (prt_of m d N _ hk).1
theorem cntK_zero {m d s : Int} (hm : 1 ≤ m) (hd : 1 ≤ d) {N : Nat} {k : Int} : cntK m d s N k 0 = 0 := by
 unfold cntK
 rw [Int.zero_ediv, Int.zero_emod, bs_zero hm hd]; simp
theorem cnt_mono {m d s : Int} (hm : 1 ≤ m) (hd : 1 ≤ d) {N : Nat} {k x : Int} (hx : 0 ≤ x) (hs : 1 ≤ s) (hf : fst m d (2 * N + 3) = s) : ∀ n : Nat, cntK m d s N k x ≤ cntK m d s N k (x + n) := by
 intro n
 induction n with
 | zero => simp
 | succ n ih =>
  have := cnt_step (k := k) hm hd (x := x + n) (by omega) hs hf
  rw [show x + ((n + 1 : Nat) : Int) = x + n + 1 by omega, this]
  split <;> omega
theorem cnt_total {m d s : Int} (hm : 1 ≤ m) (hd : 1 ≤ d) {N : Nat} (hs : 1 ≤ s) (hf : fst m d (2 * N + 3) = s) : ∀ n : Nat, cntK m d s N 1 n + cntK m d s N 2 n + cntK m d s N 3 n + cntK m d s N 4 n + cntK m d s N 5 n = n := by
 intro n
 induction n with
 | zero => simp [cntK_zero hm hd]
 | succ n ih =>
  have h := fun k => cnt_step (k := k) hm hd (x := (n : Int)) (by omega) hs hf
  have hk := kind_in hm hd (x := (n : Int)) (by omega) hs hf
  rw [show ((n + 1 : Nat) : Int) = (n : Int) + 1 by omega, h 1, h 2, h 3, h 4, h 5]
  generalize kindT m d s N (n : Int) = q at *
  rcases (by omega : q = 1 ∨ q = 2 ∨ q = 3 ∨ q = 4 ∨ q = 5) with rfl | rfl | rfl | rfl | rfl <;> simp <;> omega
theorem cnt_slot {m d s : Int} {N : Nat} {k x : Int} (hs : 1 ≤ s) : cntK m d s N k (x + s) = cntK m d s N k x + wsK m d N k := by
 unfold cntK
 rw [Int.add_emod_right, Int.add_ediv_of_dvd_right (Int.dvd_refl s), Int.ediv_self (by omega), Int.mul_add]
 omega
theorem ws_go (m d : Int) (N : Nat) (k : Int) : ∀ i, i ≤ N → sumN (whK m d N k) (2 * i + 1) = (if k = 1 then m else 0) + (if k = 2 then i * m else 0) + (if k = 3 then i * d else 0) := by
 intro i
 induction i with
 | zero =>
  intro _
  show (0 : Int) + whK m d N k 0 = _
  unfold whK
  rw [prt_zero]
  by_cases h : k = 1
  ·subst h; simp
  ·simp [h, Ne.symm h]
 | succ i ih =>
  intro h
  rw [show 2 * (i + 1) + 1 = 2 * i + 1 + 1 + 1 by omega]
  show sumN (whK m d N k) (2 * i + 1) + whK m d N k (2 * i + 1) + whK m d N k (2 * i + 2) = _
  rw [ih (by omega)]
  unfold whK
  rw [prt_move m d N i (by omega), prt_door m d N i (by omega)]
  have e1 : ((i + 1 : Nat) : Int) * m = i * m + m := nsucc i m
  have e2 : ((i + 1 : Nat) : Int) * d = i * d + d := nsucc i d
  rw [e1, e2]
  dsimp only
  by_cases h1 : k = 1
  ·subst h1; simp
  by_cases h2 : k = 2
  ·subst h2; simp
  by_cases h3 : k = 3
  ·subst h3; simp
  simp [h1, h2, h3, Ne.symm h2, Ne.symm h3]
theorem ws_is (m d : Int) (N : Nat) (k : Int) (hk : 1 ≤ k ∧ k ≤ 5) : wsK m d N k = if k = 2 then N * m else if k = 3 then N * d else if k = 5 then d else m := by
 unfold wsK
 rw [show 2 * N + 3 = 2 * N + 1 + 1 + 1 by omega]
 show sumN (whK m d N k) (2 * N + 1) + whK m d N k (2 * N + 1) + whK m d N k (2 * N + 2) = _
 rw [ws_go m d N k N (Nat.le_refl _)]
 unfold whK
 rw [prt_pmove, prt_pdoor]
 dsimp only
 rcases (by omega : k = 1 ∨ k = 2 ∨ k = 3 ∨ k = 4 ∨ k = 5) with rfl | rfl | rfl | rfl | rfl <;> simp
end Go.Proofs.Ytaogbagopdlkmaa
