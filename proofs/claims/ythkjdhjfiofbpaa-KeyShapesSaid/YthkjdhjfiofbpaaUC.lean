import Derived.Test.YthkjdhjfiofbpaaOgE
import Derived.Test.YthkjdhjfiofbpaaOgG
set_option linter.unusedVariables false
namespace Go.Proofs.Ythkjdhjfiofbpaa
open Go Go.RowKit
def stp (l : List Int) (f : Int) (R : List (Int × Int)) (x : Int × Int) : List (Int × Int) :=
 if hasK l x.2 = true then (match R with
  | [] => [(x.1, x.1 + f)]
  | k :: r => if k.2 < x.1 then (x.1, x.1 + f) :: k :: r else (k.1, x.1 + f) :: r)
 else R
def strS (l : List Int) (f : Int) (st : List (Int × Int)) : List (Int × Int) := st.foldl (stp l f) []
theorem stp_no {l : List Int} {f : Int} {R : List (Int × Int)} {x q : Int} (h : hasK l q = false) : stp l f R (x, q) = R := by
 unfold stp; rw [if_neg (by rw [h]; decide)]
theorem stp_nil {l : List Int} {f : Int} {x q : Int} (h : hasK l q = true) : stp l f [] (x, q) = [(x, x + f)] := by
 unfold stp; rw [if_pos h]
theorem stp_gap {l : List Int} {f : Int} {k : Int × Int} {r : List (Int × Int)} {x q : Int} (h : hasK l q = true) (h2 : k.2 < x) : stp l f (k :: r) (x, q) = (x, x + f) :: k :: r := by
 unfold stp; rw [if_pos h]; dsimp only; rw [if_pos h2]
theorem stp_on {l : List Int} {f : Int} {k : Int × Int} {r : List (Int × Int)} {x q : Int} (h : hasK l q = true) (h2 : ¬ k.2 < x) : stp l f (k :: r) (x, q) = (k.1, x + f) :: r := by
 unfold stp; rw [if_pos h]; dsimp only; rw [if_neg h2]
theorem hiS_el : ∀ (h : List (Int × Int)) (p : Int), hiS h p = 2 → ∀ i : Nat, i < h.length → 0 ≤ (el h (i : Int)).1 ∧ (el h (i : Int)).1 ≤ 1099511627776
 | [], p, _, i, hi => by simp at hi
 | k :: r, p, h, i, hi => by
  unfold hiS at h
  split at h
  ·cases h
  ·rename_i h1
   split at h
   ·cases h
   ·cases i with
    | zero =>
     have : el (k :: r) ((0 : Nat) : Int) = k := rfl
     rw [this]; omega
    | succ i =>
     have ei : el (k :: r) ((i + 1 : Nat) : Int) = el r (i : Int) := by unfold el; simp
     rw [ei]
     exact hiS_el r k.1 h i (by simpa using hi)
theorem stA_go {l : List Int} {f t : Int} {st : List Stp} (hl2 : st.length ≤ 2000) (hf : 1 ≤ f ∧ f ≤ 100000) (hh : hiS st 0 = 2) : ∀ (k i : Nat) (y0 : List (Int × Int)) (y1 : Bool) (y3 y4 : Int), i + k = st.length → y0.length ≤ i → (y1 = false → y0 = []) →
  ∃ z, stA_f l f t st (k + 1) y0 y1 (i : Int) y3 y4 = some (0, z) ∧ (bif z.2.1 then (z.2.2.2.1, z.2.2.2.2) :: z.1 else z.1) = (st.drop i).foldl (stp l f) (bif y1 then (y3, y4) :: y0 else y0) ∧ z.1.length ≤ 2000 := by
 intro k
 induction k with
 | zero =>
  intro i y0 y1 y3 y4 h h2 hn
  rw [stA_fs, bif_dT ⟨by omega, by omega, by omega⟩, bif_dF (by omega), List.drop_of_length_le (by omega)]
  exact ⟨_, rfl, rfl, by dsimp only; omega⟩
 | succ k ih =>
  intro i y0 y1 y3 y4 h h2 hn
  rw [stA_fs, bif_dT ⟨by omega, by omega, by omega⟩, bif_dT (by omega), el_drop (l := st) (i := i) (by omega), w8n (n := (i : Int) + 1) (by omega) (by omega), List.foldl_cons]
  have hr := hiS_el st 0 hh i (by omega)
  generalize el st (i : Int) = e at *
  obtain ⟨x, q⟩ := e
  dsimp only at *
  rw [w8n (n := x + f) (by omega) (by omega), show (i : Int) + 1 = ((i + 1 : Nat) : Int) by omega]
  cases hk : hasK l q with
  | false =>
   rw [Bool.not_false, cond_true, stp_no hk]
   exact ih (i + 1) y0 y1 y3 y4 (by omega) (by omega) hn
  | true =>
   rw [Bool.not_true, cond_false]
   cases y1 with
   | false =>
    obtain rfl := hn rfl
    rw [cond_false, cond_false, stp_nil hk]
    exact ih (i + 1) [] true x (x + f) (by omega) (by simp) (fun e => by cases e)
   | true =>
    rw [cond_true, cond_true]
    by_cases h4 : x > y4
    ·rw [bif_dT h4, stp_gap hk (by exact h4)]
     exact ih (i + 1) ((y3, y4) :: y0) true x (x + f) (by omega) (by simp; omega) (fun e => by cases e)
    ·rw [bif_dF h4, stp_on hk (by exact h4)]
     exact ih (i + 1) y0 true y3 (x + f) (by omega) (by omega) (fun e => by cases e)
def cov (a b : Int) (R : List (Int × Int)) : Bool := R.any (fun s => decide (s.1 ≤ a) && decide (b ≤ s.2))
theorem fold_app (l : List Int) (f : Int) : ∀ (st : List (Int × Int)) (k : Int × Int) (A : List (Int × Int)), st.foldl (stp l f) (k :: A) = st.foldl (stp l f) [k] ++ A
 | [], k, A => rfl
 | (x, q) :: r, k, A => by
  rw [List.foldl_cons, List.foldl_cons]
  cases hk : hasK l q with
  | false => rw [stp_no hk, stp_no hk]; exact fold_app l f r k A
  | true =>
   by_cases h : k.2 < x
   ·rw [stp_gap hk h, stp_gap hk h, fold_app l f r _ (k :: A), fold_app l f r _ [k], List.append_assoc]; rfl
   ·rw [stp_on hk h, stp_on hk h]; exact fold_app l f r _ A
theorem cvA_go {l : List Int} {f t : Int} {st : List Stp} {a b : Int} (hl2 : st.length ≤ 2000) (hf : 1 ≤ f ∧ f ≤ 100000) (hh : hiS st 0 = 2) : ∀ (k i : Nat) (y0 : Bool) (y2 y3 : Int), i + k = st.length →
  ∃ z, (cvA_f l f t st a b (k + 1) y0 (i : Int) y2 y3 = some (0, z) ∧ cov a b ((st.drop i).foldl (stp l f) (bif y0 then [(y2, y3)] else [])) = true) ∨
   (cvA_f l f t st a b (k + 1) y0 (i : Int) y2 y3 = some (1, z) ∧ cov a b ((st.drop i).foldl (stp l f) (bif y0 then [(y2, y3)] else [])) = (z.1 && (decide (z.2.2.1 ≤ a) && decide (b ≤ z.2.2.2)))) := by
 intro k
 induction k with
 | zero =>
  intro i y0 y2 y3 h
  rw [cvA_fs, bif_dT ⟨by omega, by omega⟩, bif_dF (by omega), List.drop_of_length_le (by omega)]
  refine ⟨_, .inr ⟨rfl, ?_⟩⟩
  cases y0 with
  | false => rfl
  | true =>
   show ((decide (y2 ≤ a) && decide (b ≤ y3)) || false) = (true && _)
   rw [Bool.or_false, Bool.true_and]
 | succ k ih =>
  intro i y0 y2 y3 h
  rw [cvA_fs, bif_dT ⟨by omega, by omega⟩, bif_dT (by omega), el_drop (l := st) (i := i) (by omega), w8n (n := (i : Int) + 1) (by omega) (by omega), List.foldl_cons]
  have hr := hiS_el st 0 hh i (by omega)
  generalize el st (i : Int) = e at *
  obtain ⟨x, q⟩ := e
  dsimp only at *
  rw [w8n (n := x + f) (by omega) (by omega), show (i : Int) + 1 = ((i + 1 : Nat) : Int) by omega]
  cases hk : hasK l q with
  | false =>
   rw [Bool.not_false, cond_true, stp_no hk]
   exact ih (i + 1) y0 y2 y3 (by omega)
  | true =>
   rw [Bool.not_true, cond_false]
   cases y0 with
   | false =>
    rw [cond_false, cond_false, stp_nil hk]
    exact ih (i + 1) true x (x + f) (by omega)
   | true =>
    rw [cond_true, cond_true]
    by_cases h4 : x > y3
    ·rw [bif_dT h4, stp_gap hk (by exact h4), fold_app]
     have ec : ∀ A : List (Int × Int), cov a b (A ++ [(y2, y3)]) = (cov a b A || (decide (y2 ≤ a) && decide (b ≤ y3))) := by
      intro A; unfold cov; rw [List.any_append]; simp
     rw [ec]
     by_cases h5 : y2 ≤ a
     ·rw [bif_dT h5]
      by_cases h6 : b ≤ y3
      ·rw [bif_dT h6]
       exact ⟨_, .inl ⟨rfl, by simp [h5, h6]⟩⟩
      ·rw [bif_dF h6, decide_eq_false h6, Bool.and_false, Bool.or_false]
       exact ih (i + 1) true x (x + f) (by omega)
     ·rw [bif_dF h5, decide_eq_false h5, Bool.false_and, Bool.or_false]
      exact ih (i + 1) true x (x + f) (by omega)
    ·rw [bif_dF h4, stp_on hk (by exact h4)]
     exact ih (i + 1) true y2 (x + f) (by omega)
theorem ck_f {l : List Int} {f t : Int} (h : ckX l f t = 0) : 1 ≤ f ∧ f ≤ 100000 := by
 unfold ckX at h
 split at h
 ·split at h
  ·cases h
  ·split at h
   ·cases h
   ·unfold pc2_c0 at h
    by_cases h1 : f < 1
    ·rw [bif_dT h1] at h; cases h
    ·rw [bif_dF h1] at h
     by_cases h2 : f > 100000
     ·rw [bif_dT h2] at h; cases h
     ·omega
 ·cases h
theorem hi_ok {st : List (Int × Int)} (h : hiX st = 0) : (st.length : Int) ≤ 2000 ∧ hiS st 0 = 2 := by
 unfold hiX at h
 split at h
 ·rename_i hl
  refine ⟨hl, ?_⟩
  rcases hiS_b st 0 with e | e | e
  ·rw [if_pos e] at h; cases h
  ·rw [if_neg (by omega), if_pos e] at h; cases h
  ·exact e
 ·cases h
noncomputable def srR (l : List Int) (f t : Int) (st : List (Int × Int)) : List (Int × Int) := if akX l f t st = 0 then (strS l f st).reverse else []
theorem pstr_is (l : List Int) (f t : Int) (st : List Stp) : KnownR Try.prog [] 9 [.agg [.list (rowA gI l) l.length, .val (.int .i64 f), .val (.int .i64 t)], .list (rowA gP st) st.length] (.tuple #[.complex .f64 0 (srR l f t st).length, .int .i64 (akX l f t st)]) [(rowA gP (srR l f t st), 50)] := by
 by_cases hc : ckX l f t = 0
 ·by_cases hh : hiX st = 0
  ·have ha : akX l f t st = 0 := by unfold akX; rw [if_pos hc, hh]
   obtain ⟨hl, hs⟩ := ck_ok hc
   obtain ⟨hl2, hS⟩ := hi_ok hh
   obtain ⟨z, hz, h1, h2⟩ := stA_go (l := l) (f := f) (t := t) (st := st) (by omega) (ck_f hc) hS st.length 0 [] false 0 0 (by omega) (by simp) (fun _ => rfl)
   have ho := stA_ok l f t st hc hh hl hs hl2 (ck_f hc) _ _ _ hz
   have r := st0 l f t st _ _ _ _ _ hc hh hl hs hl2 (ck_f hc) h2 (by simp [hc]) (by simp [hh]) ho
   have e : st0_c0 l f t st z.1 z.2.1 z.2.2.1 z.2.2.2.1 z.2.2.2.2 = srR l f t st := by
    unfold srR st0_c0 strS
    rw [if_pos ha]
    rw [List.drop_zero, cond_false] at h1
    rw [← h1]
    cases z.2.1 <;> rfl
   rw [e] at r
   rw [ha]; exact r
  ·have k := stE2 l f t st hc hh
   have ha : akX l f t st = hiX st := by unfold akX; rw [if_pos hc]
   unfold srR
   rw [ha, if_neg hh]; exact k
 ·have k := stE1 l f t st hc
  have ha : akX l f t st = ckX l f t := by unfold akX; rw [if_neg hc]
  unfold srR
  rw [ha, if_neg hc]; exact k
noncomputable def cvX (l : List Int) (f t : Int) (st : List (Int × Int)) (a b : Int) : Int := if akX l f t st = 0 then (if 0 ≤ a ∧ a ≤ b ∧ b ≤ 1099511627776 then 0 else 2) else akX l f t st
noncomputable def cvB (l : List Int) (f t : Int) (st : List (Int × Int)) (a b : Int) : Bool := if cvX l f t st a b = 0 then (if a = b then true else cov a b (strS l f st)) else false
theorem pcov_is (l : List Int) (f t : Int) (st : List Stp) (a b : Int) : KnownR Try.prog [] 11 [.agg [.list (rowA gI l) l.length, .val (.int .i64 f), .val (.int .i64 t)], .list (rowA gP st) st.length, .val (.int .i64 a), .val (.int .i64 b)] (.tuple #[.bool (cvB l f t st a b), .int .i64 (cvX l f t st a b)]) [] := by
 by_cases hE : ckX l f t = 0 ∧ hiX st = 0 ∧ 0 ≤ a ∧ a < b ∧ b ≤ 1099511627776
 ·obtain ⟨hc, hh, h0, hab, hb⟩ := hE
  obtain ⟨hl, hs⟩ := ck_ok hc
  obtain ⟨hl2, hS⟩ := hi_ok hh
  have ha : akX l f t st = 0 := by unfold akX; rw [if_pos hc, hh]
  have e1 : cvX l f t st a b = 0 := by unfold cvX; rw [if_pos ha, if_pos ⟨h0, by omega, hb⟩]
  have e2 : cvB l f t st a b = cov a b (strS l f st) := by unfold cvB; rw [if_pos e1, if_neg (by omega)]
  rw [e1, e2]
  obtain ⟨z, hz⟩ := cvA_go (l := l) (f := f) (t := t) (st := st) (a := a) (b := b) (by omega) (ck_f hc) hS st.length 0 false 0 0 (by omega)
  rw [List.drop_zero, cond_false] at hz
  rcases hz with ⟨hz, h1⟩ | ⟨hz, h1⟩
  ·have ho := cvA_ok l f t st a b hc hh hl hs hl2 (ck_f hc) h0 hab hb _ _ _ hz
   have r := cv0 l f t st a b _ _ _ _ hc hh hl hs hl2 (ck_f hc) h0 hab hb (by simp [hc]) (by simp [hh]) (decide_eq_false (by omega)) (decide_eq_false (by omega)) (decide_eq_false (by omega)) (beq_eq_false_iff_ne.2 (by omega)) ho
   rw [show cov a b (strS l f st) = true from h1]
   exact r
  ·have ho := cvA_ok l f t st a b hc hh hl hs hl2 (ck_f hc) h0 hab hb _ _ _ hz
   have r := cv1 l f t st a b _ _ _ _ hc hh hl hs hl2 (ck_f hc) h0 hab hb (by simp [hc]) (by simp [hh]) (decide_eq_false (by omega)) (decide_eq_false (by omega)) (decide_eq_false (by omega)) (beq_eq_false_iff_ne.2 (by omega)) ho
   have e : cv1_c0 l f t st a b z.1 z.2.1 z.2.2.1 z.2.2.2 = cov a b (strS l f st) := by
    rw [show cov a b (strS l f st) = _ from h1]
    unfold cv1_c0
    cases z.1 <;> cases decide (z.2.2.1 ≤ a) <;> cases decide (b ≤ z.2.2.2) <;> rfl
   rw [e] at r
   exact r
 ·have k := cvE l f t st a b hE
  have e1 : cvE_c1 l f t st a b = cvX l f t st a b := by
   unfold cvE_c1 cvX akX
   by_cases hc : ckX l f t = 0
   ·rw [show (ckX l f t != 0) = false by simp [hc], cond_false, if_pos hc]
    by_cases hh : hiX st = 0
    ·rw [show (hiX st != 0) = false by simp [hh], cond_false, if_pos hh]
     by_cases h1 : a < 0
     ·rw [bif_dT h1, if_neg (by omega)]
     ·rw [bif_dF h1]
      by_cases h2 : a > b
      ·rw [bif_dT h2, if_neg (by omega)]
      ·rw [bif_dF h2]
       by_cases h3 : b > 1099511627776
       ·rw [bif_dT h3, if_neg (by omega)]
       ·rw [bif_dF h3, if_pos (by omega)]
    ·rw [show (hiX st != 0) = true by simpa using hh, cond_true, if_neg hh]
   ·rw [show (ckX l f t != 0) = true by simpa using hc, cond_true, if_neg hc]
    rw [if_neg hc]
  have e2 : cvE_c0 l f t st a b = cvB l f t st a b := by
   unfold cvB
   rw [← e1]
   unfold cvE_c0 cvE_c1
   by_cases hc : ckX l f t = 0
   ·rw [show (ckX l f t != 0) = false by simp [hc], cond_false, cond_false]
    by_cases hh : hiX st = 0
    ·rw [show (hiX st != 0) = false by simp [hh], cond_false, cond_false]
     by_cases h1 : a < 0
     ·rw [bif_dT h1, bif_dT h1]; rfl
     ·rw [bif_dF h1, bif_dF h1]
      by_cases h2 : a > b
      ·rw [bif_dT h2, bif_dT h2]; rfl
      ·rw [bif_dF h2, bif_dF h2]
       by_cases h3 : b > 1099511627776
       ·rw [bif_dT h3, bif_dT h3]; rfl
       ·rw [bif_dF h3, bif_dF h3, if_pos rfl, if_pos (by
         have : ¬ a < b := fun h => hE ⟨hc, hh, by omega, h, by omega⟩
         omega)]
    ·rw [show (hiX st != 0) = true by simpa using hh, cond_true, cond_true, if_neg hh]
   ·rw [show (ckX l f t != 0) = true by simpa using hc, cond_true, cond_true, if_neg hc]
  rw [e1, e2] at k
  exact k
end Go.Proofs.Ythkjdhjfiofbpaa
