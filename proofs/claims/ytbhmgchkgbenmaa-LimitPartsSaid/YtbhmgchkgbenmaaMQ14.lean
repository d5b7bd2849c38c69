import Derived.Test.YtbhmgchkgbenmaaOgZi
import Derived.Test.YtbhmgchkgbenmaaMP14
set_option linter.unusedVariables false
namespace Go.Proofs.Ytbhmgchkgbenmaa
open Go Go.RowKit
theorem cAll_two {a b : Mv} (ha : OkT a) (hb : OkT b) : cAll [a, b] = 0 := by
 unfold cAll
 rw [if_neg (by simp)]
 exact cE_of (fun m h => by
  rcases List.mem_cons.1 h with rfl | h
  ·exact ha
  ·rcases List.mem_cons.1 h with rfl | h
   ·exact hb
   ·cases h)
theorem elT_ok {xs : List Int} {i : Nat} (h : i < (mdL xs).length) : OkT (el (mdL xs) (i : Int)) :=
 md_ok (xs := xs) (el (mdL xs) (i : Int)) (List.mem_of_mem_drop (i := i) (by rw [el_drop h]; simp))
theorem takeT_all {xs : List Int} {c d : Nat} : cAll (List.take c (List.drop d (mdL xs))) = 0 := by
 have := md_len (xs := xs)
 unfold cAll
 rw [if_neg (by simp; omega)]
 exact cE_of (fun m h => md_ok m (List.mem_of_mem_drop (List.mem_of_mem_take h)))
theorem tW_take {xs : List Int} {c : Nat} : tW (List.take (c - 0) (List.drop 0 (mdL xs))) 20 3 = if (tW (mdL xs) 20 3).1 > 0 ∧ (tW (mdL xs) 20 3).2 < c then tW (mdL xs) 20 3 else (0, 0) := by
 have hx : wX (mdL xs) 20 3 = 0 := wX0.2 ⟨md_all xs, by decide, by decide, by decide, by decide⟩
 have hx2 : wX (List.take (c - 0) (List.drop 0 (mdL xs))) 20 3 = 0 := wX0.2 ⟨takeT_all, by decide, by decide, by decide, by decide⟩
 unfold tW
 rw [if_pos hx, if_pos hx2, Nat.sub_zero, List.drop_zero, first_take]
 simp
theorem lpA_go {xs : List Int} {c : Int} : ∀ (n i : Nat) (a b : List Int), 1 ≤ i → (mdL xs).length ≤ i + n → (n = 0 ∨ i + n = (mdL xs).length) → i ≤ 31 → a.length < i → b.length < i →
  ∃ z, lpA_f xs c (n + 1) a b (i : Int) = some (1, ((idxL isJ (mdL xs) n i).reverse ++ a, (idxL isS (mdL xs) n i).reverse ++ b, z)) := by
 have hlen := md_len (xs := xs)
 intro n
 induction n with
 | zero =>
  intro i a b h1 h2 h3 h4 h5 h6
  refine ⟨(i : Int), ?_⟩
  rw [lpA_fs, bif_dT (by omega), bif_dF (by omega)]; rfl
 | succ n ih =>
  intro i a b h1 h2 h3 h4 h5 h6
  obtain ⟨j, rfl⟩ : ∃ j : Nat, i = j + 1 := ⟨i - 1, by omega⟩
  have ja := elT_ok (xs := xs) (i := j) (by omega)
  have jb := elT_ok (xs := xs) (i := j + 1) (by omega)
  have c0 := cAll_two ja jb
  rw [lpA_fs, bif_dT (by omega), bif_dT (by omega), show P_ xs ((j + 1 : Nat) : Int) = _ from take2 (l := mdL xs) (i := j + 1) (by omega) (by omega) hlen, show ((j + 1 : Nat) : Int) - 1 = (j : Int) by omega, c0, show ((0 : Int) != 0) = false from rfl, cond_false, jL_is c0, sL_is c0, idx2, idx2, w8n (n := ((j + 1 : Nat) : Int) + 1) (by omega) (by omega), show ((j + 1 : Nat) : Int) + 1 = ((j + 1 + 1 : Nat) : Int) by omega]
  unfold idxL
  rw [show ((j + 1 : Nat) : Int) - 1 = (j : Int) by omega, show ((j + 1 : Nat) : Int) + 1 = ((j + 1 + 1 : Nat) : Int) by omega]
  have fin : ∀ (p q : Bool), ∃ z, lpA_f xs c (n + 1) (bif p then ((j + 1 : Nat) : Int) :: a else a) (bif q then ((j + 1 : Nat) : Int) :: b else b) ((j + 1 + 1 : Nat) : Int) = some (1, (((bif p then [((j + 1 : Nat) : Int)] else []) ++ idxL isJ (mdL xs) n ((j + 1 + 1 : Nat) : Int)).reverse ++ a, ((bif q then [((j + 1 : Nat) : Int)] else []) ++ idxL isS (mdL xs) n ((j + 1 + 1 : Nat) : Int)).reverse ++ b, z)) := by
   intro p q
   obtain ⟨z, hz⟩ := ih (j + 1 + 1) (bif p then ((j + 1 : Nat) : Int) :: a else a) (bif q then ((j + 1 : Nat) : Int) :: b else b) (by omega) (by omega) (by omega) (by omega) (by cases p <;> simp only [cond_true, cond_false, List.length_cons] <;> omega) (by cases q <;> simp only [cond_true, cond_false, List.length_cons] <;> omega)
   refine ⟨z, hz.trans ?_⟩
   cases p <;> cases q <;> simp
  generalize isJ (el (mdL xs) (j : Int)) (el (mdL xs) ((j + 1 : Nat) : Int)) = p
  generalize isS (el (mdL xs) (j : Int)) (el (mdL xs) ((j + 1 : Nat) : Int)) = q
  cases p <;> cases q
  ·exact fin false false
  ·exact fin false true
  ·exact fin true false
  ·exact fin true true
theorem lpB_go {xs : List Int} {c : Int} : ∀ (n i : Nat) (a b : List Int), 1 ≤ i → (mdL xs).length ≤ i + n → (n = 0 ∨ i + n = (mdL xs).length) → i ≤ 31 → a.length < i → b.length < i →
  ∃ z, lpB_f xs c (n + 1) a b (i : Int) = some (1, ((idxL isJ (mdL xs) n i).reverse ++ a, (idxL isS (mdL xs) n i).reverse ++ b, z)) := by
 have hlen := md_len (xs := xs)
 intro n
 induction n with
 | zero =>
  intro i a b h1 h2 h3 h4 h5 h6
  refine ⟨(i : Int), ?_⟩
  rw [lpB_fs, bif_dT (by omega), bif_dF (by omega)]; rfl
 | succ n ih =>
  intro i a b h1 h2 h3 h4 h5 h6
  obtain ⟨j, rfl⟩ : ∃ j : Nat, i = j + 1 := ⟨i - 1, by omega⟩
  have ja := elT_ok (xs := xs) (i := j) (by omega)
  have jb := elT_ok (xs := xs) (i := j + 1) (by omega)
  have c0 := cAll_two ja jb
  rw [lpB_fs, bif_dT (by omega), bif_dT (by omega), show P_ xs ((j + 1 : Nat) : Int) = _ from take2 (l := mdL xs) (i := j + 1) (by omega) (by omega) hlen, show ((j + 1 : Nat) : Int) - 1 = (j : Int) by omega, c0, show ((0 : Int) != 0) = false from rfl, cond_false, jL_is c0, sL_is c0, idx2, idx2, w8n (n := ((j + 1 : Nat) : Int) + 1) (by omega) (by omega), show ((j + 1 : Nat) : Int) + 1 = ((j + 1 + 1 : Nat) : Int) by omega]
  unfold idxL
  rw [show ((j + 1 : Nat) : Int) - 1 = (j : Int) by omega, show ((j + 1 : Nat) : Int) + 1 = ((j + 1 + 1 : Nat) : Int) by omega]
  have fin : ∀ (p q : Bool), ∃ z, lpB_f xs c (n + 1) (bif p then ((j + 1 : Nat) : Int) :: a else a) (bif q then ((j + 1 : Nat) : Int) :: b else b) ((j + 1 + 1 : Nat) : Int) = some (1, (((bif p then [((j + 1 : Nat) : Int)] else []) ++ idxL isJ (mdL xs) n ((j + 1 + 1 : Nat) : Int)).reverse ++ a, ((bif q then [((j + 1 : Nat) : Int)] else []) ++ idxL isS (mdL xs) n ((j + 1 + 1 : Nat) : Int)).reverse ++ b, z)) := by
   intro p q
   obtain ⟨z, hz⟩ := ih (j + 1 + 1) (bif p then ((j + 1 : Nat) : Int) :: a else a) (bif q then ((j + 1 : Nat) : Int) :: b else b) (by omega) (by omega) (by omega) (by omega) (by cases p <;> simp only [cond_true, cond_false, List.length_cons] <;> omega) (by cases q <;> simp only [cond_true, cond_false, List.length_cons] <;> omega)
   refine ⟨z, hz.trans ?_⟩
   cases p <;> cases q <;> simp
  generalize isJ (el (mdL xs) (j : Int)) (el (mdL xs) ((j + 1 : Nat) : Int)) = p
  generalize isS (el (mdL xs) (j : Int)) (el (mdL xs) ((j + 1 : Nat) : Int)) = q
  cases p <;> cases q
  ·exact fin false false
  ·exact fin false true
  ·exact fin true false
  ·exact fin true true
theorem lpC_go {xs : List Int} {c : Int} : ∀ (n i : Nat) (a b : List Int), 1 ≤ i → (mdL xs).length ≤ i + n → (n = 0 ∨ i + n = (mdL xs).length) → i ≤ 31 → a.length < i → b.length < i →
  ∃ z, lpC_f xs c (n + 1) a b (i : Int) = some (1, ((idxL isJ (mdL xs) n i).reverse ++ a, (idxL isS (mdL xs) n i).reverse ++ b, z)) := by
 have hlen := md_len (xs := xs)
 intro n
 induction n with
 | zero =>
  intro i a b h1 h2 h3 h4 h5 h6
  refine ⟨(i : Int), ?_⟩
  rw [lpC_fs, bif_dT (by omega), bif_dF (by omega)]; rfl
 | succ n ih =>
  intro i a b h1 h2 h3 h4 h5 h6
  obtain ⟨j, rfl⟩ : ∃ j : Nat, i = j + 1 := ⟨i - 1, by omega⟩
  have ja := elT_ok (xs := xs) (i := j) (by omega)
  have jb := elT_ok (xs := xs) (i := j + 1) (by omega)
  have c0 := cAll_two ja jb
  rw [lpC_fs, bif_dT (by omega), bif_dT (by omega), show P_ xs ((j + 1 : Nat) : Int) = _ from take2 (l := mdL xs) (i := j + 1) (by omega) (by omega) hlen, show ((j + 1 : Nat) : Int) - 1 = (j : Int) by omega, c0, show ((0 : Int) != 0) = false from rfl, cond_false, jL_is c0, sL_is c0, idx2, idx2, w8n (n := ((j + 1 : Nat) : Int) + 1) (by omega) (by omega), show ((j + 1 : Nat) : Int) + 1 = ((j + 1 + 1 : Nat) : Int) by omega]
  unfold idxL
  rw [show ((j + 1 : Nat) : Int) - 1 = (j : Int) by omega, show ((j + 1 : Nat) : Int) + 1 = ((j + 1 + 1 : Nat) : Int) by omega]
  have fin : ∀ (p q : Bool), ∃ z, lpC_f xs c (n + 1) (bif p then ((j + 1 : Nat) : Int) :: a else a) (bif q then ((j + 1 : Nat) : Int) :: b else b) ((j + 1 + 1 : Nat) : Int) = some (1, (((bif p then [((j + 1 : Nat) : Int)] else []) ++ idxL isJ (mdL xs) n ((j + 1 + 1 : Nat) : Int)).reverse ++ a, ((bif q then [((j + 1 : Nat) : Int)] else []) ++ idxL isS (mdL xs) n ((j + 1 + 1 : Nat) : Int)).reverse ++ b, z)) := by
   intro p q
   obtain ⟨z, hz⟩ := ih (j + 1 + 1) (bif p then ((j + 1 : Nat) : Int) :: a else a) (bif q then ((j + 1 : Nat) : Int) :: b else b) (by omega) (by omega) (by omega) (by omega) (by cases p <;> simp only [cond_true, cond_false, List.length_cons] <;> omega) (by cases q <;> simp only [cond_true, cond_false, List.length_cons] <;> omega)
   refine ⟨z, hz.trans ?_⟩
   cases p <;> cases q <;> simp
  generalize isJ (el (mdL xs) (j : Int)) (el (mdL xs) ((j + 1 : Nat) : Int)) = p
  generalize isS (el (mdL xs) (j : Int)) (el (mdL xs) ((j + 1 : Nat) : Int)) = q
  cases p <;> cases q
  ·exact fin false false
  ·exact fin false true
  ·exact fin true false
  ·exact fin true true
theorem kb_t {F : Nat} {ar : List D} {b : Bool} (hb : b = true) (r : KnownR Try.prog [] F ar (.bool b) []) : KnownR Try.prog [] F ar (.bool true) [] := by subst hb; exact r
theorem hlp_c {xs : List Int} {a b : List Int} (ha : a = (idxL isJ (mdL xs) ((mdL xs).length - 1) 1).reverse ++ []) (hb : b = (idxL isS (mdL xs) ((mdL xs).length - 1) 1).reverse ++ []) : (bif (decide (jL (mdL xs) = a.reverse)) then (decide (sL (mdL xs) = b.reverse)) else (false)) = true := by
 have hc0 := md_all xs
 have e1 : jL (mdL xs) = a.reverse := by rw [jL_is hc0, ha]; simp
 have e2 : sL (mdL xs) = b.reverse := by rw [sL_is hc0, hb]; simp
 rw [decide_eq_true e1, decide_eq_true e2]; rfl
theorem lawP_is (xs : List Int) (k : Int) : KnownR Try.prog [] 9 [.list (rowA gI xs) xs.length, .val (.int .i64 k)] (.bool true) [] := by
 have hlen := md_len (xs := xs)
 have hc0 := md_all xs
 have hx : wX (mdL xs) 20 3 = 0 := wX0.2 ⟨hc0, by decide, by decide, by decide, by decide⟩
 have hw : IntKind.i64.wrap (((mdL xs).length : Int) + (1 : Int)) = ((mdL xs).length : Int) + 1 := w8n (by omega) (by omega)
 have hk0 : 0 ≤ k % IntKind.i64.wrap (((mdL xs).length : Int) + (1 : Int)) := by rw [hw]; exact Int.emod_nonneg k (by omega)
 have hk1 : k % IntKind.i64.wrap (((mdL xs).length : Int) + (1 : Int)) ≤ ((mdL xs).length : Int) := by
  have := Int.emod_lt_of_pos k (show (0 : Int) < ((mdL xs).length : Int) + 1 by omega)
  rw [hw]; omega
 have k2 : (decide ((0 : Int) < IntKind.i64.wrap (((mdL xs).length : Int) + (1 : Int)) ∧ IntKind.i64.wrap (((mdL xs).length : Int) + (1 : Int)) ≤ (4611686018427387904 : Int))) = true := decide_eq_true (by rw [hw]; omega)
 have hx2 : wX (List.take ((k % IntKind.i64.wrap (((mdL xs).length : Int) + (1 : Int))).toNat - (0 : Nat)) (List.drop (0 : Nat) (mdL xs))) 20 3 = 0 := wX0.2 ⟨takeT_all, by decide, by decide, by decide, by decide⟩
 have ht := tW_take (xs := xs) (c := (k % IntKind.i64.wrap (((mdL xs).length : Int) + (1 : Int))).toNat)
 have q10 : (wX (mdL xs) (20 : Int) (3 : Int) != (0 : Int)) = false := by rw [hx]; rfl
 have q13 : (wX (List.take ((k % IntKind.i64.wrap (((mdL xs).length : Int) + (1 : Int))).toNat - (0 : Nat)) (List.drop (0 : Nat) (mdL xs))) (20 : Int) (3 : Int) != (0 : Int)) = false := by rw [hx2]; rfl
 have q50 : (cAll (mdL xs) != (0 : Int)) = false := by rw [hc0]; rfl
 have hj : (jL (mdL xs)).length ≤ 20000 := Nat.le_trans (jL_len _) (by decide)
 have hs : (sL (mdL xs)).length ≤ 20000 := Nat.le_trans (sL_len _) (by decide)
 have t0 : 0 ≤ (tW (mdL xs) 20 3).1 := by
  have := first_0 20 3 (mdL xs) 0
  unfold tW; rw [if_pos hx]; exact this
 by_cases v1 : (tW (mdL xs) 20 3).1 > 0
 ·by_cases v2 : (tW (mdL xs) 20 3).2 < k % IntKind.i64.wrap (((mdL xs).length : Int) + (1 : Int))
  ·rw [if_pos ⟨v1, by omega⟩] at ht
   obtain ⟨z, hz⟩ := lpA_go (xs := xs) (c := k) ((mdL xs).length - 1) 1 [] [] (by omega) (by omega) (by omega) (by omega) (by simp) (by simp)
   have r := hlpA xs k _ _ z hx hc0 hlen hj hs k2 (decide_eq_true hk0) (decide_eq_true hk1) q10 q13 (decide_eq_true v1) (decide_eq_true v2) (by unfold Q_; rw [ht]; simp) (by simp; omega) (decide_eq_false (by omega)) q50 q50 (lpA_ok xs k hx hc0 hlen _ _ _ hz)
   exact kb_t (hlp_c rfl rfl) r
  ·rw [if_neg (fun e => by have := e.2; omega)] at ht
   obtain ⟨z, hz⟩ := lpB_go (xs := xs) (c := k) ((mdL xs).length - 1) 1 [] [] (by omega) (by omega) (by omega) (by omega) (by simp) (by simp)
   have r := hlpB xs k _ _ z hx hc0 hlen v2 hj hs k2 (decide_eq_true hk0) (decide_eq_true hk1) q10 q13 (decide_eq_true v1) (decide_eq_false v2) (by simp; omega) (decide_eq_true (by omega)) (by unfold Q_; rw [ht]; rfl) q50 q50 (lpB_ok xs k hx hc0 hlen v2 _ _ _ hz)
   exact kb_t (hlp_c rfl rfl) r
 ·rw [if_neg (fun e => v1 e.1)] at ht
  obtain ⟨z, hz⟩ := lpC_go (xs := xs) (c := k) ((mdL xs).length - 1) 1 [] [] (by omega) (by omega) (by omega) (by omega) (by simp) (by simp)
  have r := hlpC xs k _ _ z hx hc0 hlen v1 hj hs k2 (decide_eq_true hk0) (decide_eq_true hk1) q10 q13 (decide_eq_false v1) (by simp; omega) (by unfold Q_; rw [ht]; rfl) q50 q50 (lpC_ok xs k hx hc0 hlen v1 _ _ _ hz)
  exact kb_t (hlp_c rfl rfl) r
theorem limitParts_true (A0 : Option Addr) (len0 cap0 : Nat) (xs0 : List Int) (k : Int) (w : World) (hl0 : xs0.length = len0) (hi0 : ListIn w (rowA gI xs0) len0 A0 cap0) (_ : ∀ m ∈ xs0, rowW gI m) (_ : In64 k) :
  Calls Try.prog 9 #[.slice A0 len0 cap0, .int .i64 k] w fun e w' => e = .returned (.bool true) ∧ Below w.heap.size w w' := by
 subst hl0
 exact knownR_law (lawP_is xs0 k) (LaidL.nil w) (.cons (.list hi0) (.cons (.val rfl) .nil))
end Go.Proofs.Ytbhmgchkgbenmaa
