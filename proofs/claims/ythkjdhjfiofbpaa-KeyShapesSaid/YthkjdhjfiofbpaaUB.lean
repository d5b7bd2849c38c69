import Derived.Test.YthkjdhjfiofbpaaOgC
set_option linter.unusedVariables false
namespace Go.Proofs.Ythkjdhjfiofbpaa
open Go Go.RowKit
def hiS : List (Int × Int) → Int → Nat
 | [], _ => 2
 | x :: r, p => if x.2 < 1 ∨ 99 < x.2 ∨ x.1 < 0 ∨ 1099511627776 < x.1 then 0 else if x.1 < p then 1 else hiS r x.1
def prevH (l : List (Int × Int)) (i : Nat) : Int := if i = 0 then 0 else (el l ((i : Int) - 1)).1
theorem phA_go {h : List (Int × Int)} (hl : h.length ≤ 2000) : ∀ (k i : Nat), i + k = h.length → ∃ z, phA_f h (k + 1) (i : Int) = some (hiS (h.drop i) (prevH h i), z) := by
 intro k
 induction k with
 | zero =>
  intro i hi
  rw [phA_fs, bif_dT (by omega), bif_dF (by omega), List.drop_of_length_le (by omega)]
  exact ⟨_, rfl⟩
 | succ k ih =>
  intro i hi
  rw [phA_fs, bif_dT (by omega), bif_dT (by omega), el_drop (l := h) (i := i) (by omega), w8n (n := (i : Int) + 1) (by omega) (by omega), w8n (n := (i : Int) - 1) (by omega) (by omega)]
  obtain ⟨z, hz⟩ := ih (i + 1) (by omega)
  have hp : prevH h (i + 1) = (el h (i : Int)).1 := by
   unfold prevH
   rw [if_neg (by omega), show ((i + 1 : Nat) : Int) - 1 = (i : Int) by omega]
  rw [hp] at hz
  rw [show ((i + 1 : Nat) : Int) = (i : Int) + 1 by omega] at hz
  unfold hiS
  generalize el h (i : Int) = e at *
  obtain ⟨a, b⟩ := e
  dsimp only at *
  by_cases h1 : b ≥ 1
  ·rw [bif_dT h1]
   by_cases h2 : b ≤ 99
   ·rw [decide_eq_true h2, Bool.not_true, cond_false]
    by_cases h3 : a ≥ 0
    ·rw [bif_dT h3]
     by_cases h4 : a ≤ 1099511627776
     ·rw [decide_eq_true h4, Bool.not_true, cond_false, if_neg (by omega)]
      by_cases h5 : (i : Int) > 0
      ·rw [bif_dT h5]
       have : prevH h i = (el h ((i : Int) - 1)).1 := by unfold prevH; rw [if_neg (by omega)]
       rw [this]
       by_cases h6 : a < (el h ((i : Int) - 1)).1
       ·rw [bif_dT h6, if_pos h6]; exact ⟨_, rfl⟩
       ·rw [bif_dF h6, if_neg h6]; exact ⟨z, hz⟩
      ·rw [bif_dF h5]
       have : prevH h i = 0 := by unfold prevH; rw [if_pos (by omega)]
       rw [this, if_neg (by omega)]; exact ⟨z, hz⟩
     ·rw [decide_eq_false h4, Bool.not_false, cond_true, if_pos (by omega)]; exact ⟨_, rfl⟩
    ·rw [bif_dF h3, if_pos (by omega)]; exact ⟨_, rfl⟩
   ·rw [decide_eq_false h2, Bool.not_false, cond_true, if_pos (by omega)]; exact ⟨_, rfl⟩
  ·rw [bif_dF h1, if_pos (by omega)]; exact ⟨_, rfl⟩
theorem hiS_b : ∀ (l : List (Int × Int)) (p : Int), hiS l p = 0 ∨ hiS l p = 1 ∨ hiS l p = 2
 | [], p => .inr (.inr rfl)
 | k :: r, p => by
  unfold hiS
  split
  ·exact .inl rfl
  ·split
   ·exact .inr (.inl rfl)
   ·exact hiS_b r k.1
noncomputable def hiX (h : List (Int × Int)) : Int := if (h.length : Int) ≤ 2000 then (if hiS h 0 = 0 then 2 else if hiS h 0 = 1 then 8 else 0) else 4
theorem phist_is (h : List (Int × Int)) : KnownR Try.prog [] 27 [.list (rowA gP h) h.length] (.int .i64 (hiX h)) [] := by
 unfold hiX
 by_cases hl : (h.length : Int) ≤ 2000
 ·rw [if_pos hl]
  obtain ⟨z, hz⟩ := phA_go (h := h) (by omega) h.length 0 (by omega)
  rw [List.drop_zero, show prevH h 0 = 0 from rfl] at hz
  have ho := phA_ok h hl _ _ _ hz
  rcases hiS_b h 0 with e | e | e
  ·rw [e] at ho ⊢; exact ph0 h z hl (decide_eq_false (by omega)) ho
  ·rw [e] at ho ⊢; exact ph1 h z hl (decide_eq_false (by omega)) ho
  ·rw [e] at ho ⊢; exact ph2 h z hl (decide_eq_false (by omega)) ho
 ·rw [if_neg hl]; exact phE h hl
theorem raA_go {l : List Int} {f t : Int} {h : List (Int × Int)} (hl : h.length ≤ 2000) : ∀ (k i : Nat), i + k = h.length → ∃ z, raA_f l f t h (k + 1) (i : Int) = some (hiS (h.drop i) (prevH h i), z) := by
 intro k
 induction k with
 | zero =>
  intro i hi
  rw [raA_fs, bif_dT (by omega), bif_dF (by omega), List.drop_of_length_le (by omega)]
  exact ⟨_, rfl⟩
 | succ k ih =>
  intro i hi
  rw [raA_fs, bif_dT (by omega), bif_dT (by omega), el_drop (l := h) (i := i) (by omega), w8n (n := (i : Int) + 1) (by omega) (by omega), w8n (n := (i : Int) - 1) (by omega) (by omega)]
  obtain ⟨z, hz⟩ := ih (i + 1) (by omega)
  have hp : prevH h (i + 1) = (el h (i : Int)).1 := by
   unfold prevH
   rw [if_neg (by omega), show ((i + 1 : Nat) : Int) - 1 = (i : Int) by omega]
  rw [hp] at hz
  rw [show ((i + 1 : Nat) : Int) = (i : Int) + 1 by omega] at hz
  unfold hiS
  generalize el h (i : Int) = e at *
  obtain ⟨a, b⟩ := e
  dsimp only at *
  by_cases h1 : b < 1
  ·rw [bif_dT h1, if_pos (by omega)]; exact ⟨_, rfl⟩
  ·rw [bif_dF h1]
   by_cases h2 : b > 99
   ·rw [bif_dT h2, if_pos (by omega)]; exact ⟨_, rfl⟩
   ·rw [bif_dF h2]
    by_cases h3 : a ≥ 0
    ·rw [bif_dT h3]
     by_cases h4 : a ≤ 1099511627776
     ·rw [decide_eq_true h4, Bool.not_true, cond_false, if_neg (by omega)]
      by_cases h5 : (i : Int) > 0
      ·rw [bif_dT h5]
       have : prevH h i = (el h ((i : Int) - 1)).1 := by unfold prevH; rw [if_neg (by omega)]
       rw [this]
       by_cases h6 : a < (el h ((i : Int) - 1)).1
       ·rw [bif_dT h6, if_pos h6]; exact ⟨_, rfl⟩
       ·rw [bif_dF h6, if_neg h6]; exact ⟨z, hz⟩
      ·rw [bif_dF h5]
       have : prevH h i = 0 := by unfold prevH; rw [if_pos (by omega)]
       rw [this, if_neg (by omega)]; exact ⟨z, hz⟩
     ·rw [decide_eq_false h4, Bool.not_false, cond_true, if_pos (by omega)]; exact ⟨_, rfl⟩
    ·rw [bif_dF h3, if_pos (by omega)]; exact ⟨_, rfl⟩
noncomputable def akX (l : List Int) (f t : Int) (h : List (Int × Int)) : Int := if ckX l f t = 0 then hiX h else ckX l f t
theorem rasks_is (l : List Int) (f t : Int) (h : List (Int × Int)) : KnownR Try.prog [] 30 [.agg [.list (rowA gI l) l.length, .val (.int .i64 f), .val (.int .i64 t)], .list (rowA gP h) h.length] (.int .i64 (akX l f t h)) [] := by
 unfold akX hiX
 by_cases hc : ckX l f t = 0
 ·rw [if_pos hc]
  by_cases hl : (h.length : Int) ≤ 2000
  ·rw [if_pos hl]
   obtain ⟨z, hz⟩ := raA_go (l := l) (f := f) (t := t) (h := h) (by omega) h.length 0 (by omega)
   rw [List.drop_zero, show prevH h 0 = 0 from rfl] at hz
   have ho := raA_ok l f t h hc hl _ _ _ hz
   rcases hiS_b h 0 with e | e | e
   ·rw [e] at ho ⊢; exact ra0 l f t h z hc hl (by simp [hc]) (decide_eq_false (by omega)) ho
   ·rw [e] at ho ⊢; exact ra1 l f t h z hc hl (by simp [hc]) (decide_eq_false (by omega)) ho
   ·rw [e] at ho ⊢; exact ra2 l f t h z hc hl (by simp [hc]) (decide_eq_false (by omega)) ho
  ·rw [if_neg hl]
   have k := raE l f t h (fun x => hl x.2)
   have e : raE_c0 l f t h = 4 := by unfold raE_c0; simp [hc]
   rw [e] at k; exact k
 ·rw [if_neg hc]
  have k := raE l f t h (fun x => hc x.1)
  have e : raE_c0 l f t h = ckX l f t := by
   unfold raE_c0
   rw [show (ckX l f t != 0) = true by simpa using hc]; rfl
  rw [e] at k; exact k
theorem ck_ok {l : List Int} {f t : Int} (h : ckX l f t = 0) : (l.length : Int) ≤ 8 ∧ ckS l 0 = 2 := by
 unfold ckX at h
 split at h
 ·rename_i hl
  refine ⟨hl, ?_⟩
  rcases ckS_b l 0 with e | e | e
  ·rw [if_pos e] at h; cases h
  ·rw [if_neg (by omega), if_pos e] at h; cases h
  ·exact e
 ·cases h
end Go.Proofs.Ythkjdhjfiofbpaa
