import Derived.Test.YtbhmgchkgbenmaaLS
import Derived.Test.YtbhmgchkgbenmaaOgT
set_option linter.unusedVariables false
namespace Go.Proofs.Ytbhmgchkgbenmaa
open Go Go.RowKit
theorem wc_k {xs : List Mv} {mm : List (Int × OIn)} {u v a c : Int} {m : Mv} (hm : el xs a = m) : wcI_f xs u v mm a c 7 [] 0 = some (0, ((csS u v m).reverse, 5)) := by
 obtain ⟨p, s, mo, br, d⟩ := m
 have w : ∀ z : Int, 0 ≤ z → z ≤ 10 → IntKind.i64.wrap (z + 1) = z + 1 := fun z h1 h2 => w8n (by omega) (by omega)
 unfold csS
 dsimp only
 rw [wcI_fs, hm]
 dsimp only
 generalize decide (s > v) = b1
 generalize hb2 : decide (p < 0) = b2
 generalize hb3 : decide (p > u) = b3
 generalize hb4 : decide (s > 0) = b4
 generalize hb5 : decide (d > 0) = b5
 rw [bif_dT (by decide), bif_dT (by decide), bif_dT (by decide), w 0 (by decide) (by decide)]
 have step : ∀ (l : List Int), l.length ≤ 1 → wcI_f xs u v mm a c 6 l (0 + 1) = some (0, (((bif (b2 || b3) then [2] else []) ++ ((bif (b4 && br) then [3] else []) ++ ((bif (b4 && !mo) then [4] else []) ++ (bif (mo && b5) then [5] else []))) : List Int).reverse ++ l, 5)) := by
  intro l hl
  rw [wcI_fs, hm]
  dsimp only
  rw [hb2, hb3, bif_dT (by omega), bif_dT (by decide), bif_dF (by decide), bif_dT (by decide), w (0 + 1) (by decide) (by decide)]
  have step2 : ∀ (l : List Int), l.length ≤ 2 → wcI_f xs u v mm a c 5 l (0 + 1 + 1) = some (0, (((bif (b4 && br) then [3] else []) ++ ((bif (b4 && !mo) then [4] else []) ++ (bif (mo && b5) then [5] else [])) : List Int).reverse ++ l, 5)) := by
   intro l hl
   rw [wcI_fs, hm]
   dsimp only
   rw [hb4, bif_dT (by omega), bif_dT (by decide), bif_dF (by decide), bif_dF (by decide), bif_dT (by decide), w (0 + 1 + 1) (by decide) (by decide)]
   have step3 : ∀ (l : List Int), l.length ≤ 3 → wcI_f xs u v mm a c 4 l (0 + 1 + 1 + 1) = some (0, (((bif (b4 && !mo) then [4] else []) ++ (bif (mo && b5) then [5] else []) : List Int).reverse ++ l, 5)) := by
    intro l hl
    rw [wcI_fs, hm]
    dsimp only
    rw [hb4, bif_dT (by omega), bif_dT (by decide), bif_dF (by decide), bif_dF (by decide), bif_dF (by decide), bif_dT (by decide), w (0 + 1 + 1 + 1) (by decide) (by decide)]
    have step4 : ∀ (l : List Int), l.length ≤ 4 → wcI_f xs u v mm a c 3 l (0 + 1 + 1 + 1 + 1) = some (0, ((bif (mo && b5) then [5] else [] : List Int).reverse ++ l, 5)) := by
     intro l hl
     rw [wcI_fs, hm]
     dsimp only
     rw [hb5, bif_dT (by omega), bif_dT (by decide), bif_dF (by decide), bif_dF (by decide), bif_dF (by decide), bif_dF (by decide), w (0 + 1 + 1 + 1 + 1) (by decide) (by decide)]
     have step5 : ∀ (l : List Int), l.length ≤ 5 → wcI_f xs u v mm a c 2 l (0 + 1 + 1 + 1 + 1 + 1) = some (0, (l, 5)) := by
      intro l hl
      rw [wcI_fs, bif_dT (by omega), bif_dF (by decide)]
      rfl
     cases mo <;> cases b5 <;> first | exact step5 _ (by simp only [List.length_cons]; omega) | exact step5 _ (by omega)
    cases b4 <;> cases mo <;> first | exact step4 _ (by simp only [List.length_cons]; omega) | exact step4 _ (by omega) | exact (step4 _ (by simp only [List.length_cons]; omega)).trans (by simp)
   cases b4 <;> cases br <;> first | exact step3 _ (by omega) | exact (step3 _ (by simp only [List.length_cons]; omega)).trans (by simp)
  cases b2 <;> cases b3 <;> first | exact step2 _ (by omega) | exact (step2 _ (by simp only [List.length_cons]; omega)).trans (by simp)
 cases b1 with
 | true => exact (step [0 + 1] (by simp)).trans (by simp)
 | false => exact (step [] (by simp)).trans (by simp)
def cM (m : List (Int × OIn)) (j : Int) : Int := bif hasM m j then valM m j else 0
theorem cM_put (m : List (Int × OIn)) (k j v : Int) : cM (putM m k v) j = if j = k then v else cM m j := by
 unfold cM
 rw [hasM_put, valM_put]
 by_cases h : j = k
 ·rw [decide_eq_true h, Bool.true_or, cond_true, if_pos h, if_pos h]
 ·rw [decide_eq_false h, Bool.false_or, if_neg h, if_neg h]
theorem wcJ_go {xs : List Mv} {u v w1 w2 z1 B : Int} {w0 : List (Int × OIn)} {z0 : List Int} (hB : 0 ≤ B ∧ B ≤ 1000000) (hz : z0.length ≤ 1000) : ∀ (k e i : Nat) (m : List (Int × OIn)), i + k = z0.length → (∀ j, 0 ≤ cM m j ∧ cM m j ≤ B + i) →
  ∃ m' z, wcJ_f xs u v w0 w1 w2 z0 z1 (k + 1 + e) m (i : Int) = some (0, (m', z)) ∧ ∀ j, cM m' j = cM m j + ((z0.reverse.drop i).count j : Int) := by
 intro k
 induction k with
 | zero =>
  intro e i m h hm
  refine ⟨m, (i : Int), ?_, fun j => ?_⟩
  ·rw [show 0 + 1 + e = e + 1 by omega, wcJ_fs, bif_dT (by omega), bif_dF (by omega)]
  ·rw [List.drop_of_length_le (by simp; omega)]; simp
 | succ k ih =>
  intro e i m h hm
  rw [show k + 1 + 1 + e = (k + 1 + e) + 1 by omega, wcJ_fs, bif_dT (by omega), bif_dT (by omega), el_drop (l := z0.reverse) (i := i) (by simp; omega), w8n (n := (i : Int) + 1) (by omega) (by omega), show (i : Int) + 1 = ((i + 1 : Nat) : Int) by omega]
  generalize el z0.reverse (i : Int) = c
  have hc := hm c
  have step : ∀ v : Int, v = cM m c + 1 → ∃ m' z, wcJ_f xs u _ w0 w1 w2 z0 z1 (k + 1 + e) (putM m c v) ((i + 1 : Nat) : Int) = some (0, (m', z)) ∧ ∀ j, cM m' j = cM m j + ((c :: z0.reverse.drop (i + 1)).count j : Int) := fun q hq => by
   obtain ⟨m', z, h1, h2⟩ := ih e (i + 1) (putM m c q) (by omega) (fun j => by
    rw [cM_put]
    have := hm j
    split <;> omega)
   refine ⟨m', z, h1, fun j => ?_⟩
   rw [h2 j, cM_put, List.count_cons]
   by_cases hj : j = c
   ·subst hj
    rw [if_pos rfl, hq]
    simp
    omega
   ·rw [if_neg hj]
    have : (c == j) = false := by simpa using fun e => hj e.symm
    rw [this]
    simp
  cases hh : hasM m c with
  | true =>
   have e1 : cM m c = valM m c := by unfold cM; rw [hh]; rfl
   rw [cond_true, w8n (n := valM m c + 1) (by omega) (by omega)]
   exact step _ (by omega)
  | false =>
   have e1 : cM m c = 0 := by unfold cM; rw [hh]; rfl
   rw [cond_false]
   exact step 1 (by omega)
theorem cs_len {u v : Int} {m : Mv} : (csS u v m).length ≤ 5 := by
 unfold csS
 generalize decide (m.2.1 > v) = b1
 generalize (decide (m.1 < 0) || decide (m.1 > u)) = b2
 generalize (decide (m.2.1 > 0) && m.2.2.2.1) = b3
 generalize (decide (m.2.1 > 0) && !m.2.2.1) = b4
 generalize (m.2.2.1 && decide (m.2.2.2.2 > 0)) = b5
 cases b1 <;> cases b2 <;> cases b3 <;> cases b4 <;> cases b5 <;> decide
def cntL (u v : Int) : List Mv → Int → Int
 | [], _ => 0
 | m :: r, j => ((csS u v m).count j : Int) + cntL u v r j
theorem wcA_go {xs : List Mv} {u v : Int} (hx : xs.length ≤ 10000) : ∀ (k i : Nat) (m : List (Int × OIn)) (b : Int), i + k = xs.length → (∀ j, 0 ≤ cM m j ∧ cM m j ≤ 10 * i) →
  ∃ m' z, wcA_f xs u v (k + 1) m (i : Int) b = some (0, (m', z)) ∧ ∀ j, cM m' j = cM m j + cntL u v (xs.drop i) j := by
 intro k
 induction k with
 | zero =>
  intro i m b h hm
  refine ⟨m, ((i : Int), b, default, default, default, default), ?_, fun j => ?_⟩
  ·rw [wcA_fs, bif_dT (by omega), bif_dF (by omega)]
  ·rw [List.drop_of_length_le (by omega)]; simp [cntL]
 | succ k ih =>
  intro i m b h hm
  have hl := cs_len (u := u) (v := v) (m := el xs (i : Int))
  obtain ⟨m1, z1, h1, h2⟩ := wcJ_go (xs := xs) (u := u) (v := v) (w0 := m) (w1 := (i : Int)) (w2 := b) (z0 := (csS u v (el xs (i : Int))).reverse) (z1 := 5) (B := 10 * i) (by omega) (by simp; omega) (csS u v (el xs (i : Int))).reverse.length (6 - (csS u v (el xs (i : Int))).reverse.length) 0 m (by omega) (fun j => by have := hm j; omega)
  rw [show (csS u v (el xs (i : Int))).reverse.length + 1 + (6 - (csS u v (el xs (i : Int))).reverse.length) = 7 by simp; omega] at h1
  have h1 : wcJ_f xs u v m (i : Int) b (csS u v (el xs (i : Int))).reverse 5 7 m 0 = some (0, (m1, z1)) := h1
  rw [wcA_fs, bif_dT (by omega), bif_dT (by omega), wc_k rfl]
  simp only [wcI_m]
  rw [show Nat.beq 0 0 = true from rfl, cond_true, h1]
  simp only [wcJ_m]
  rw [show Nat.beq 0 0 = true from rfl, cond_true, w8n (n := (i : Int) + 1) (by omega) (by omega), show (i : Int) + 1 = ((i + 1 : Nat) : Int) by omega]
  rw [List.drop_zero, List.reverse_reverse] at h2
  have hcnt : ∀ j, (csS u v (el xs (i : Int))).count j ≤ 5 := fun j => Nat.le_trans List.count_le_length hl
  obtain ⟨m', z, h3, h4⟩ := ih (i + 1) m1 (i : Int) (by omega) (fun j => by have := hm j; have := h2 j; have := hcnt j; omega)
  refine ⟨m', z, h3, fun j => ?_⟩
  rw [h4 j, h2 j, el_drop (l := xs) (i := i) (by omega)]
  rw [show cntL u v (el xs (i : Int) :: xs.drop (i + 1)) j = ((csS u v (el xs (i : Int))).count j : Int) + cntL u v (xs.drop (i + 1)) j from rfl, ← Int.add_assoc]
end Go.Proofs.Ytbhmgchkgbenmaa
