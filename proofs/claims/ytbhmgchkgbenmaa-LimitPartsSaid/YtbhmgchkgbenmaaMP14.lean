import Derived.Test.YtbhmgchkgbenmaaMB
set_option linter.unusedVariables false
namespace Go.Proofs.Ytbhmgchkgbenmaa
open Go Go.RowKit
theorem first_ge (u v : Int) : ∀ (l : List Mv) (i : Int), (firstC u v l i).1 > 0 → i ≤ (firstC u v l i).2
 | [], i, h => by simp [firstC] at h
 | m :: r, i, h => by
  unfold firstC at h ⊢
  cases hc : csS u v m with
  | nil =>
   rw [hc] at h
   have := first_ge u v r (i + 1) h
   show i ≤ (firstC u v r (i + 1)).2
   omega
  | cons c q => exact Int.le_refl i
theorem first_0 (u v : Int) : ∀ (l : List Mv) (i : Int), 0 ≤ (firstC u v l i).1
 | [], i => by simp [firstC]
 | m :: r, i => by
  unfold firstC
  cases hc : csS u v m with
  | nil => exact first_0 u v r (i + 1)
  | cons c q =>
   have := cs_pos (u := u) (v := v) (m := m) c (by rw [hc]; simp)
   show 0 ≤ c
   omega
theorem first_take (u v : Int) : ∀ (l : List Mv) (i : Int) (c : Nat), firstC u v (l.take c) i = if (firstC u v l i).1 > 0 ∧ (firstC u v l i).2 < i + c then firstC u v l i else (0, 0)
 | [], i, c => by
  rw [List.take_nil, if_neg (by simp [firstC])]; rfl
 | m :: r, i, 0 => by
  rw [List.take_zero, if_neg (fun e => by have := first_ge u v (m :: r) i e.1; omega)]; rfl
 | m :: r, i, c + 1 => by
  rw [List.take_succ_cons]
  have ih := first_take u v r (i + 1) c
  unfold firstC
  cases hc : csS u v m with
  | nil =>
   show firstC u v (r.take c) (i + 1) = if (firstC u v r (i + 1)).1 > 0 ∧ (firstC u v r (i + 1)).2 < i + ((c + 1 : Nat) : Int) then firstC u v r (i + 1) else (0, 0)
   rw [ih, show i + ((c + 1 : Nat) : Int) = i + 1 + (c : Int) by omega]
  | cons a q =>
   have := cs_pos (u := u) (v := v) (m := m) a (by rw [hc]; simp)
   show (a, i) = if a > 0 ∧ i < i + ((c + 1 : Nat) : Int) then (a, i) else (0, 0)
   rw [if_pos ⟨by omega, by omega⟩]
def idxL (p : Mv → Mv → Bool) (xs : List Mv) : Nat → Int → List Int
 | 0, _ => []
 | k + 1, i => (bif p (el xs (i - 1)) (el xs i) then [i] else []) ++ idxL p xs k (i + 1)
noncomputable def isJ (a b : Mv) : Bool := pJmp_c0 a.fst a.snd.fst a.snd.snd.fst a.snd.snd.snd.fst a.snd.snd.snd.snd b.fst b.snd.fst b.snd.snd.fst b.snd.snd.snd.fst b.snd.snd.snd.snd
theorem jpA_run (xs : List Mv) (hx : xs.length ≤ 10000) : ∀ (k e i : Nat) (l : List Int), 1 ≤ i → i + k = xs.length → l.length < i →
  ∃ z, jpA_f xs (k + 1 + e) l (i : Int) = some (0, ((idxL isJ xs k i).reverse ++ l, z)) := by
 intro k
 induction k with
 | zero =>
  intro e i l h1 h2 h3
  refine ⟨(i : Int), ?_⟩
  rw [show 0 + 1 + e = e + 1 by omega, jpA_fs, bif_dT (by omega), bif_dF (by omega)]; rfl
 | succ k ih =>
  intro e i l h1 h2 h3
  rw [show k + 1 + 1 + e = (k + 1 + e) + 1 by omega, jpA_fs, bif_dT (by omega), bif_dT (by omega), w8n (n := (i : Int) - 1) (by omega) (by omega), w8n (n := (i : Int) + 1) (by omega) (by omega), show (i : Int) + 1 = ((i + 1 : Nat) : Int) by omega]
  change ∃ z, (bif isJ (el xs ((i : Int) - 1)) (el xs (i : Int)) then jpA_f xs (k + 1 + e) ((i : Int) :: l) ((i + 1 : Nat) : Int) else jpA_f xs (k + 1 + e) l ((i + 1 : Nat) : Int)) = _
  unfold idxL
  cases isJ (el xs ((i : Int) - 1)) (el xs (i : Int)) with
  | true =>
   obtain ⟨z, hz⟩ := ih e (i + 1) ((i : Int) :: l) (by omega) (by omega) (by simp only [List.length_cons]; omega)
   refine ⟨z, ?_⟩
   rw [cond_true, cond_true, hz, show (i : Int) + 1 = ((i + 1 : Nat) : Int) by omega]
   simp
  | false =>
   obtain ⟨z, hz⟩ := ih e (i + 1) l (by omega) (by omega) (by omega)
   refine ⟨z, ?_⟩
   rw [cond_false, cond_false, hz, show (i : Int) + 1 = ((i + 1 : Nat) : Int) by omega]
   rfl
theorem jL_is {xs : List Mv} (hc : cAll xs = 0) : jL xs = idxL isJ xs (xs.length - 1) 1 := by
 unfold jL
 rw [if_pos hc]
 by_cases h0 : xs.length = 0
 ·rw [h0]
  have e : jpA_f xs (0 + 1) [] 1 = some (0, ([], 1)) := by
   rw [jpA_fs, bif_dT (by simp), bif_dF (by omega)]
  rw [e]; rfl
 ·obtain ⟨z, hz⟩ := jpA_run xs (cAll0 hc).1 (xs.length - 1) 1 1 [] (by omega) (by omega) (by simp)
  rw [show xs.length - 1 + 1 + 1 = xs.length + 1 by omega] at hz
  have hz : jpA_f xs (xs.length + 1) [] 1 = some (0, ((idxL isJ xs (xs.length - 1) 1).reverse ++ [], z)) := hz
  rw [hz]; simp
theorem nbif {α : Type} (a b : Bool) (X Y : α) : (bif a then (bif b then X else Y) else Y) = (bif (bif a then b else false) then X else Y) := by cases a <;> rfl
def isS (a b : Mv) : Bool := bif decide (a.snd.fst > 0) then b.snd.fst == 0 else false
theorem spA_run (xs : List Mv) (hx : xs.length ≤ 10000) : ∀ (k e i : Nat) (l : List Int), 1 ≤ i → i + k = xs.length → l.length < i →
  ∃ z, spA_f xs (k + 1 + e) l (i : Int) = some (0, ((idxL isS xs k i).reverse ++ l, z)) := by
 intro k
 induction k with
 | zero =>
  intro e i l h1 h2 h3
  refine ⟨(i : Int), ?_⟩
  rw [show 0 + 1 + e = e + 1 by omega, spA_fs, bif_dT (by omega), bif_dF (by omega)]; rfl
 | succ k ih =>
  intro e i l h1 h2 h3
  rw [show k + 1 + 1 + e = (k + 1 + e) + 1 by omega, spA_fs, bif_dT (by omega), bif_dT (by omega), w8n (n := (i : Int) - 1) (by omega) (by omega), w8n (n := (i : Int) + 1) (by omega) (by omega), show (i : Int) + 1 = ((i + 1 : Nat) : Int) by omega]
  rw [nbif]
  change ∃ z, (bif isS (el xs ((i : Int) - 1)) (el xs (i : Int)) then spA_f xs (k + 1 + e) ((i : Int) :: l) ((i + 1 : Nat) : Int) else spA_f xs (k + 1 + e) l ((i + 1 : Nat) : Int)) = _
  unfold idxL
  cases isS (el xs ((i : Int) - 1)) (el xs (i : Int)) with
  | true =>
   obtain ⟨z, hz⟩ := ih e (i + 1) ((i : Int) :: l) (by omega) (by omega) (by simp only [List.length_cons]; omega)
   refine ⟨z, ?_⟩
   rw [cond_true, cond_true, hz, show (i : Int) + 1 = ((i + 1 : Nat) : Int) by omega]
   simp
  | false =>
   obtain ⟨z, hz⟩ := ih e (i + 1) l (by omega) (by omega) (by omega)
   refine ⟨z, ?_⟩
   rw [cond_false, cond_false, hz, show (i : Int) + 1 = ((i + 1 : Nat) : Int) by omega]
   rfl
theorem sL_is {xs : List Mv} (hc : cAll xs = 0) : sL xs = idxL isS xs (xs.length - 1) 1 := by
 unfold sL
 rw [if_pos hc]
 by_cases h0 : xs.length = 0
 ·rw [h0]
  have e : spA_f xs (0 + 1) [] 1 = some (0, ([], 1)) := by
   rw [spA_fs, bif_dT (by simp), bif_dF (by omega)]
  rw [e]; rfl
 ·obtain ⟨z, hz⟩ := spA_run xs (cAll0 hc).1 (xs.length - 1) 1 1 [] (by omega) (by omega) (by simp)
  rw [show xs.length - 1 + 1 + 1 = xs.length + 1 by omega] at hz
  have hz : spA_f xs (xs.length + 1) [] 1 = some (0, ((idxL isS xs (xs.length - 1) 1).reverse ++ [], z)) := hz
  rw [hz]; simp
theorem idx2 (p : Mv → Mv → Bool) (a b : Mv) : idxL p [a, b] ([a, b].length - 1) 1 = bif p a b then [1] else [] := by
 show (bif p (el [a, b] (1 - 1)) (el [a, b] 1) then [(1 : Int)] else []) ++ [] = _
 rw [List.append_nil]; rfl
theorem take2 {l : List Mv} {i : Nat} (h1 : 1 ≤ i) (h2 : i < l.length) (h3 : l.length ≤ 30) : List.take ((IntKind.i64.wrap ((i : Int) + (1 : Int))).toNat - (IntKind.i64.wrap ((i : Int) - (1 : Int))).toNat) (List.drop (IntKind.i64.wrap ((i : Int) - (1 : Int))).toNat l) = [el l ((i : Int) - 1), el l (i : Int)] := by
 rw [w8n (n := (i : Int) + 1) (by omega) (by omega), w8n (n := (i : Int) - 1) (by omega) (by omega), show ((i : Int) + 1).toNat - ((i : Int) - 1).toNat = 2 by omega]
 obtain ⟨j, rfl⟩ : ∃ j : Nat, i = j + 1 := ⟨i - 1, by omega⟩
 rw [show ((j + 1 : Nat) : Int) - 1 = (j : Int) by omega, Int.toNat_natCast, el_drop (l := l) (i := j) (by omega), el_drop (l := l) (i := j + 1) (by omega)]
 rfl
end Go.Proofs.Ytbhmgchkgbenmaa
