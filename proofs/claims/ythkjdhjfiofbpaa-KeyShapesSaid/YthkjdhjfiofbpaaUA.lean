import Derived.Test.YthkjdhjfiofbpaaOgA
import Derived.Test.YthkjdhjfiofbpaaOgB
set_option linter.unusedVariables false
namespace Go.Proofs.Ythkjdhjfiofbpaa
open Go Go.RowKit
def ckS : List Int → Int → Nat
 | [], _ => 2
 | k :: r, p => if k < 1 ∨ 99 < k then 0 else if k ≤ p then 1 else ckS r k
def prevI (l : List Int) (i : Nat) : Int := if i = 0 then 0 else el l ((i : Int) - 1)
theorem pcA_go {l : List Int} {f t : Int} (hl : l.length ≤ 8) : ∀ (k i : Nat), i + k = l.length → ∃ z, pcA_f l f t (k + 1) (i : Int) = some (ckS (l.drop i) (prevI l i), z) := by
 intro k
 induction k with
 | zero =>
  intro i h
  rw [pcA_fs, bif_dT (by omega), bif_dF (by omega), List.drop_of_length_le (by omega)]
  exact ⟨_, rfl⟩
 | succ k ih =>
  intro i h
  rw [pcA_fs, bif_dT (by omega), bif_dT (by omega), el_drop (l := l) (i := i) (by omega), w8n (n := (i : Int) + 1) (by omega) (by omega), w8n (n := (i : Int) - 1) (by omega) (by omega)]
  obtain ⟨z, hz⟩ := ih (i + 1) (by omega)
  have hp : prevI l (i + 1) = el l (i : Int) := by
   unfold prevI
   rw [if_neg (by omega), show ((i + 1 : Nat) : Int) - 1 = (i : Int) by omega]
  rw [hp] at hz
  rw [show ((i + 1 : Nat) : Int) = (i : Int) + 1 by omega] at hz
  unfold ckS
  generalize el l (i : Int) = e at *
  by_cases h1 : e ≥ 1
  ·rw [bif_dT h1]
   by_cases h2 : e ≤ 99
   ·rw [decide_eq_true h2, Bool.not_true, cond_false, if_neg (by omega)]
    by_cases h3 : (i : Int) > 0
    ·rw [bif_dT h3]
     have : prevI l i = el l ((i : Int) - 1) := by unfold prevI; rw [if_neg (by omega)]
     rw [this]
     by_cases h4 : e ≤ el l ((i : Int) - 1)
     ·rw [bif_dT h4, if_pos h4]; exact ⟨_, rfl⟩
     ·rw [bif_dF h4, if_neg h4]; exact ⟨z, hz⟩
    ·rw [bif_dF h3]
     have : prevI l i = 0 := by unfold prevI; rw [if_pos (by omega)]
     rw [this, if_neg (by omega)]; exact ⟨z, hz⟩
   ·rw [decide_eq_false h2, Bool.not_false, cond_true, if_pos (by omega)]; exact ⟨_, rfl⟩
  ·rw [bif_dF h1, if_pos (by omega)]; exact ⟨_, rfl⟩
theorem rcA_go {l : List Int} {f t : Int} (hl : l.length ≤ 8) : ∀ (k i : Nat), i + k = l.length → ∃ z, rcA_f l f t (k + 1) (i : Int) = some (ckS (l.drop i) (prevI l i), z) := by
 intro k
 induction k with
 | zero =>
  intro i h
  rw [rcA_fs, bif_dT (by omega), bif_dF (by omega), List.drop_of_length_le (by omega)]
  exact ⟨_, rfl⟩
 | succ k ih =>
  intro i h
  rw [rcA_fs, bif_dT (by omega), bif_dT (by omega), el_drop (l := l) (i := i) (by omega), w8n (n := (i : Int) + 1) (by omega) (by omega), w8n (n := (i : Int) - 1) (by omega) (by omega)]
  obtain ⟨z, hz⟩ := ih (i + 1) (by omega)
  have hp : prevI l (i + 1) = el l (i : Int) := by
   unfold prevI
   rw [if_neg (by omega), show ((i + 1 : Nat) : Int) - 1 = (i : Int) by omega]
  rw [hp] at hz
  rw [show ((i + 1 : Nat) : Int) = (i : Int) + 1 by omega] at hz
  unfold ckS
  generalize el l (i : Int) = e at *
  by_cases h1 : e < 1
  ·rw [bif_dT h1, if_pos (by omega)]; exact ⟨_, rfl⟩
  ·rw [bif_dF h1]
   by_cases h2 : e > 99
   ·rw [bif_dT h2, if_pos (by omega)]; exact ⟨_, rfl⟩
   ·rw [bif_dF h2, if_neg (by omega)]
    by_cases h3 : (i : Int) > 0
    ·rw [bif_dT h3]
     have : prevI l i = el l ((i : Int) - 1) := by unfold prevI; rw [if_neg (by omega)]
     rw [this]
     by_cases h4 : e ≤ el l ((i : Int) - 1)
     ·rw [bif_dT h4, if_pos h4]; exact ⟨_, rfl⟩
     ·rw [bif_dF h4, if_neg h4]; exact ⟨z, hz⟩
    ·rw [bif_dF h3]
     have : prevI l i = 0 := by unfold prevI; rw [if_pos (by omega)]
     rw [this, if_neg (by omega)]; exact ⟨z, hz⟩
theorem ckS_b : ∀ (l : List Int) (p : Int), ckS l p = 0 ∨ ckS l p = 1 ∨ ckS l p = 2
 | [], p => .inr (.inr rfl)
 | k :: r, p => by
  unfold ckS
  split
  ·exact .inl rfl
  ·split
   ·exact .inr (.inl rfl)
   ·exact ckS_b r k
noncomputable def ckX (l : List Int) (f t : Int) : Int := if (l.length : Int) ≤ 8 then (if ckS l 0 = 0 then 2 else if ckS l 0 = 1 then 8 else pc2_c0 l f t 0) else 5
theorem pcheck_is (l : List Int) (f t : Int) : KnownR Try.prog [] 26 [.agg [.list (rowA gI l) l.length, .val (.int .i64 f), .val (.int .i64 t)]] (.int .i64 (ckX l f t)) [] := by
 unfold ckX
 by_cases hl : (l.length : Int) ≤ 8
 ·rw [if_pos hl]
  obtain ⟨z, hz⟩ := pcA_go (l := l) (f := f) (t := t) (by omega) l.length 0 (by omega)
  rw [List.drop_zero, show prevI l 0 = 0 from rfl] at hz
  have ho := pcA_ok l f t hl _ _ _ hz
  rcases ckS_b l 0 with e | e | e
  ·rw [e] at ho ⊢
   exact pc0 l f t z hl (decide_eq_false (by omega)) ho
  ·rw [e] at ho ⊢
   exact pc1 l f t z hl (decide_eq_false (by omega)) ho
  ·rw [e] at ho ⊢
   exact pc2 l f t z hl (decide_eq_false (by omega)) ho
 ·rw [if_neg hl]
  exact pcE l f t hl
theorem rcheck_is (l : List Int) (f t : Int) : KnownR Try.prog [] 39 [.agg [.list (rowA gI l) l.length, .val (.int .i64 f), .val (.int .i64 t)]] (.int .i64 (ckX l f t)) [] := by
 unfold ckX
 by_cases hl : (l.length : Int) ≤ 8
 ·rw [if_pos hl]
  obtain ⟨z, hz⟩ := rcA_go (l := l) (f := f) (t := t) (by omega) l.length 0 (by omega)
  rw [List.drop_zero, show prevI l 0 = 0 from rfl] at hz
  have ho := rcA_ok l f t hl _ _ _ hz
  rcases ckS_b l 0 with e | e | e
  ·rw [e] at ho ⊢
   exact rc0 l f t z hl (decide_eq_false (by omega)) ho
  ·rw [e] at ho ⊢
   exact rc1 l f t z hl (decide_eq_false (by omega)) ho
  ·rw [e] at ho ⊢
   exact rc2 l f t z hl (decide_eq_false (by omega)) ho
 ·rw [if_neg hl]
  exact rcE l f t hl
def hasK (l : List Int) (k : Int) : Bool := l.any (· == k)
theorem rnA_go {l : List Int} {f t k : Int} (hl : l.length ≤ 8) : ∀ (n i : Nat), i + n = l.length → ∃ z, rnA_f l f t k (n + 1) (i : Int) = some (bif hasK (l.drop i) k then 0 else 1, z) := by
 intro n
 induction n with
 | zero =>
  intro i h
  rw [rnA_fs, bif_dT (by omega), bif_dF (by omega), List.drop_of_length_le (by omega)]
  exact ⟨_, rfl⟩
 | succ n ih =>
  intro i h
  rw [rnA_fs, bif_dT (by omega), bif_dT (by omega), el_drop (l := l) (i := i) (by omega), w8n (n := (i : Int) + 1) (by omega) (by omega)]
  obtain ⟨z, hz⟩ := ih (i + 1) (by omega)
  rw [show ((i + 1 : Nat) : Int) = (i : Int) + 1 by omega] at hz
  cases he : (el l (i : Int) == k) with
  | true =>
   rw [cond_true]
   exact ⟨_, by unfold hasK; rw [List.any_cons, he]; rfl⟩
  | false =>
   rw [cond_false]
   refine ⟨z, hz.trans ?_⟩
   unfold hasK
   rw [List.any_cons, he, Bool.false_or]
theorem rcounts_is (l : List Int) (f t k : Int) (hl : (l.length : Int) ≤ 8) : KnownR Try.prog [] 31 [.agg [.list (rowA gI l) l.length, .val (.int .i64 f), .val (.int .i64 t)], .val (.int .i64 k)] (.bool (hasK l k)) [] := by
 obtain ⟨z, hz⟩ := rnA_go (l := l) (f := f) (t := t) (k := k) (by omega) l.length 0 (by omega)
 rw [List.drop_zero] at hz
 have ho := rnA_ok l f t k hl _ _ _ hz
 cases e : hasK l k with
 | true => rw [e] at ho; exact rn0 l f t k z hl ho
 | false => rw [e] at ho; exact rn1 l f t k z hl ho
theorem ckS_up : ∀ (l : List Int) (p : Int), ckS l p = 2 → ∀ (i j : Nat), i < j → j < l.length → el l (i : Int) < el l (j : Int) ∧ p < el l (i : Int)
 | [], p, h, i, j, hij, hj => by simp at hj
 | k :: r, p, h, i, j, hij, hj => by
  unfold ckS at h
  split at h
  ·cases h
  ·split at h
   ·cases h
   ·rename_i h1 h2
    obtain ⟨j, rfl⟩ : ∃ m, j = m + 1 := ⟨j - 1, by omega⟩
    have ej : el (k :: r) ((j + 1 : Nat) : Int) = el r (j : Int) := by unfold el; simp
    have hj' : j < r.length := by simpa using hj
    have hk : k < el r (j : Int) := by
     rcases Nat.eq_zero_or_pos j with e | e
     ·subst e
      cases r with
      | nil => simp at hj'
      | cons a b =>
       unfold ckS at h
       split at h
       ·cases h
       ·split at h
        ·cases h
        ·have : el (a :: b) ((0 : Nat) : Int) = a := rfl
         rw [this]; omega
     ·have := ckS_up r k h 0 j e hj'
      omega
    cases i with
    | zero =>
     have : el (k :: r) ((0 : Nat) : Int) = k := rfl
     rw [this, ej]; omega
    | succ i =>
     have ei : el (k :: r) ((i + 1 : Nat) : Int) = el r (i : Int) := by unfold el; simp
     have := ckS_up r k h i j (by omega) hj'
     rw [ei, ej]; omega
theorem u64_half {v : Int} (h0 : 0 ≤ v) (h : v ≤ 1000000) : IntKind.i64.wrap ((IntKind.u64.wrap (IntKind.i64.wrap v)).fdiv 2) = v / 2 := by
 rw [w8n (n := v) (by omega) (by omega), wrapU64, show v % 18446744073709551616 = v by omega, Int.fdiv_eq_ediv_of_nonneg _ (by omega), w8n (by omega) (by omega)]
theorem pnA_go {l : List Int} {f t k : Int} (hl : l.length ≤ 8) (hs : ckS l 0 = 2) : ∀ (n : Nat) (i j : Nat), j - i ≤ n → i ≤ j → j ≤ l.length → (∀ m : Nat, m < i → el l (m : Int) < k) → (∀ m : Nat, j ≤ m → m < l.length → k ≤ el l (m : Int)) →
  ∃ q : Nat, pnA_f l f t k (n + 1) (i : Int) (j : Int) = some (0, ((q : Int), (q : Int))) ∧ q ≤ l.length ∧ (∀ m : Nat, m < q → el l (m : Int) < k) ∧ (∀ m : Nat, q ≤ m → m < l.length → k ≤ el l (m : Int)) := by
 intro n
 induction n with
 | zero =>
  intro i j h1 h2 h3 h4 h5
  have : j = i := by omega
  subst this
  refine ⟨j, ?_, h3, h4, h5⟩
  rw [pnA_fs, bif_dT (by omega), bif_dF (by omega)]
 | succ n ih =>
  intro i j h1 h2 h3 h4 h5
  rw [pnA_fs, bif_dT (by omega)]
  by_cases hij : (i : Int) < (j : Int)
  ·rw [bif_dT hij, u64_half (by omega) (by omega)]
   obtain ⟨m, hm⟩ : ∃ m : Nat, ((i : Int) + (j : Int)) / 2 = (m : Int) := ⟨(((i : Int) + (j : Int)) / 2).toNat, by omega⟩
   rw [hm]
   by_cases hc : el l (m : Int) < k
   ·rw [bif_dT hc, w8n (n := (m : Int) + 1) (by omega) (by omega), show (m : Int) + 1 = ((m + 1 : Nat) : Int) by omega]
    refine ih (m + 1) j (by omega) (by omega) h3 (fun q hq => ?_) h5
    rcases (by omega : q = m ∨ q < m) with e | e
    ·subst e; exact hc
    ·have := (ckS_up l 0 hs q m e (by omega)).1; omega
   ·rw [bif_dF hc]
    refine ih i m (by omega) (by omega) (by omega) h4 (fun q hq hq2 => ?_)
    rcases (by omega : q = m ∨ m < q) with e | e
    ·subst e; omega
    ·have := (ckS_up l 0 hs m q e hq2).1; omega
  ·rw [bif_dF hij]
   have : j = i := by omega
   subst this
   exact ⟨j, rfl, h3, h4, h5⟩
theorem hasK_iff {l : List Int} {k : Int} : hasK l k = true ↔ ∃ m : Nat, m < l.length ∧ el l (m : Int) = k := by
 unfold hasK
 rw [List.any_eq_true]
 constructor
 ·rintro ⟨x, hx, he⟩
  obtain ⟨m, hm, h⟩ := List.mem_iff_getElem.1 hx
  refine ⟨m, hm, ?_⟩
  unfold el
  rw [List.getD_eq_getElem?_getD, Int.toNat_natCast, List.getElem?_eq_getElem hm]
  simpa [h] using he
 ·rintro ⟨m, hm, h⟩
  refine ⟨l[m], List.getElem_mem hm, ?_⟩
  unfold el at h
  rw [List.getD_eq_getElem?_getD, Int.toNat_natCast, List.getElem?_eq_getElem hm] at h
  simpa using h
theorem pcounts_is (l : List Int) (f t k : Int) (hl : (l.length : Int) ≤ 8) (hs : ckS l 0 = 2) : KnownR Try.prog [] 36 [.agg [.list (rowA gI l) l.length, .val (.int .i64 f), .val (.int .i64 t)], .val (.int .i64 k)] (.bool (hasK l k)) [] := by
 obtain ⟨q, hz, h1, h2, h3⟩ := pnA_go (l := l) (f := f) (t := t) (k := k) (by omega) hs l.length 0 l.length (by omega) (by omega) (Nat.le_refl _) (fun m hm => by omega) (fun m hm hm2 => by omega)
 have ho := pnA_ok l f t k hl _ _ _ hz
 dsimp only at ho
 have r := pn0 l f t k _ _ hl (by omega) ho
 have e : pn0_c0 l f t k (q : Int) (q : Int) = hasK l k := by
  unfold pn0_c0
  by_cases hq : (q : Int) < (l.length : Int)
  ·rw [bif_dT hq]
   cases he : (el l (q : Int) == k) with
   | true =>
    rw [cond_true]
    exact (hasK_iff.2 ⟨q, by omega, by simpa using he⟩).symm
   | false =>
    rw [cond_false]
    cases hh : hasK l k with
    | false => rfl
    | true =>
     obtain ⟨m, hm, hm2⟩ := hasK_iff.1 hh
     have hne : el l (q : Int) ≠ k := by simpa using he
     rcases (by omega : m < q ∨ m = q ∨ q < m) with e | e | e
     ·have := h2 m e; omega
     ·subst e; exact absurd hm2 hne
     ·have := (ckS_up l 0 hs q m e hm).1; have := h3 q (Nat.le_refl _) (by omega); omega
  ·rw [bif_dF hq]
   cases hh : hasK l k with
   | false => rfl
   | true =>
    obtain ⟨m, hm, hm2⟩ := hasK_iff.1 hh
    have := h2 m (by omega); omega
 rw [e] at r
 exact r
end Go.Proofs.Ythkjdhjfiofbpaa
