import Derived.Test.YtbhmgchkgbenmaaLV
set_option linter.unusedVariables false
namespace Go.Proofs.Ytbhmgchkgbenmaa
open Go Go.RowKit
theorem el_put {l : List Int} {j : Nat} {i : Nat} {v : Int} (h : j < l.length) : el (l.set i v) (j : Int) = if i = j then v else el l (j : Int) := by
 unfold el
 simp only [Int.toNat_natCast, List.getD, List.getElem?_set]
 by_cases e : i = j
 ·subst e; rw [if_pos rfl, if_pos h, if_pos rfl]; rfl
 ·rw [if_neg e, if_neg e]
theorem rxI_go {xs : List Mv} {u v w1 B : Int} {w0 : List Int} (hB : 0 ≤ B ∧ B ≤ 1000000) : ∀ (k e i : Nat) (y : List Int), i + k = (csS u v (el xs w1)).length → y.length = 5 → (∀ j : Nat, j < 5 → 0 ≤ el y.reverse (j : Int) ∧ el y.reverse (j : Int) ≤ B + i) →
  ∃ y' z, rxI_f xs u v w0 w1 (k + 1 + e) y (i : Int) = some (0, (y', z)) ∧ y'.length = 5 ∧ ∀ j : Nat, j < 5 → el y'.reverse (j : Int) = el y.reverse (j : Int) + (((csS u v (el xs w1)).drop i).count ((j : Int) + 1) : Int) := by
 have ex : ((el xs w1).fst, (el xs w1).snd.fst, (el xs w1).snd.snd.fst, (el xs w1).snd.snd.snd.fst, (el xs w1).snd.snd.snd.snd) = el xs w1 := rfl
 have hlen := cs_len (u := u) (v := v) (m := el xs w1)
 intro k
 induction k with
 | zero =>
  intro e i y h hy hm
  refine ⟨y, (i : Int), ?_, hy, fun j hj => ?_⟩
  ·rw [show 0 + 1 + e = e + 1 by omega, rxI_fs, ex, bif_dT (by omega), bif_dF (by omega)]
  ·rw [List.drop_of_length_le (by omega)]; simp
 | succ k ih =>
  intro e i y h hy hm
  have hd := el_drop (l := csS u v (el xs w1)) (i := i) (by omega)
  have hp := cs_pos (u := u) (v := v) (m := el xs w1) (el (csS u v (el xs w1)) (i : Int)) (List.mem_of_mem_drop (i := i) (by rw [hd]; simp))
  rw [show k + 1 + 1 + e = (k + 1 + e) + 1 by omega, rxI_fs, ex, bif_dT (by omega), bif_dT (by omega), w8n (n := (i : Int) + 1) (by omega) (by omega), show (i : Int) + 1 = ((i + 1 : Nat) : Int) by omega]
  rw [hd]
  revert hp
  generalize el (csS u v (el xs w1)) (i : Int) = c
  intro hp
  rw [w8n (n := c - 1) (by omega) (by omega)]
  obtain ⟨q, rfl⟩ : ∃ q : Nat, c = (q : Int) + 1 := ⟨(c - 1).toNat, by omega⟩
  rw [show (q : Int) + 1 - 1 = (q : Int) by omega, Int.toNat_natCast]
  have hq := hm q (by omega)
  rw [w8n (n := el y.reverse (q : Int) + 1) (by omega) (by omega)]
  obtain ⟨y', z, h1, h2, h3⟩ := ih e (i + 1) (y.reverse.set q (el y.reverse (q : Int) + 1)).reverse (by omega) (by simp [hy]) (fun j hj => by
   rw [List.reverse_reverse, el_put (by simp; omega)]
   have := hm j hj
   split <;> omega)
  refine ⟨y', z, h1, h2, fun j hj => ?_⟩
  rw [h3 j hj, List.reverse_reverse, el_put (by simp; omega), List.count_cons]
  by_cases e : q = j
  ·subst e; rw [if_pos rfl]; simp; omega
  ·rw [if_neg e]
   have : ((q : Int) + 1 == (j : Int) + 1) = false := by simp; omega
   rw [this]; simp
theorem rxA_go {xs : List Mv} {u v : Int} (hx : xs.length ≤ 10000) : ∀ (k i : Nat) (y : List Int), i + k = xs.length → y.length = 5 → (∀ j : Nat, j < 5 → 0 ≤ el y.reverse (j : Int) ∧ el y.reverse (j : Int) ≤ 10 * i) →
  ∃ y' z, rxA_f xs u v (k + 1) y (i : Int) = some (0, (y', z)) ∧ y'.length = 5 ∧ ∀ j : Nat, j < 5 → el y'.reverse (j : Int) = el y.reverse (j : Int) + cntL u v (xs.drop i) ((j : Int) + 1) := by
 intro k
 induction k with
 | zero =>
  intro i y h hy hm
  refine ⟨y, ((i : Int), default, default), ?_, hy, fun j hj => ?_⟩
  ·rw [rxA_fs, bif_dT (by omega), bif_dF (by omega)]
  ·rw [List.drop_of_length_le (by omega)]; simp [cntL]
 | succ k ih =>
  intro i y h hy hm
  have hl := cs_len (u := u) (v := v) (m := el xs (i : Int))
  obtain ⟨y1, z1, h1, h2, h3⟩ := rxI_go (xs := xs) (u := u) (v := v) (w0 := y) (w1 := (i : Int)) (B := 10 * i) (by omega) (csS u v (el xs (i : Int))).length (6 - (csS u v (el xs (i : Int))).length) 0 y (by omega) hy (fun j hj => by have := hm j hj; omega)
  rw [show (csS u v (el xs (i : Int))).length + 1 + (6 - (csS u v (el xs (i : Int))).length) = 7 by omega] at h1
  have h1 : rxI_f xs u v y (i : Int) 7 y 0 = some (0, (y1, z1)) := h1
  rw [rxA_fs, bif_dT (by omega), bif_dT (by omega), h1]
  simp only [rxI_m]
  rw [show Nat.beq 0 0 = true from rfl, cond_true, w8n (n := (i : Int) + 1) (by omega) (by omega), show (i : Int) + 1 = ((i + 1 : Nat) : Int) by omega]
  rw [List.drop_zero] at h3
  have hcnt : ∀ j : Int, (csS u v (el xs (i : Int))).count j ≤ 5 := fun j => Nat.le_trans List.count_le_length hl
  obtain ⟨y', z, h4, h5, h6⟩ := ih (i + 1) y1 (by omega) h2 (fun j hj => by have := hm j hj; have := h3 j hj; have := hcnt ((j : Int) + 1); omega)
  refine ⟨y', z, h4, h5, fun j hj => ?_⟩
  rw [h6 j hj, h3 j hj, el_drop (l := xs) (i := i) (by omega)]
  rw [show cntL u v (el xs (i : Int) :: xs.drop (i + 1)) ((j : Int) + 1) = ((csS u v (el xs (i : Int))).count ((j : Int) + 1) : Int) + cntL u v (xs.drop (i + 1)) ((j : Int) + 1) from rfl, ← Int.add_assoc]
theorem list5 {l : List Int} (h : l.length = 5) : l = [el l ((0 : Nat) : Int), el l ((1 : Nat) : Int), el l ((2 : Nat) : Int), el l ((3 : Nat) : Int), el l ((4 : Nat) : Int)] := by
 match l, h with
 | [a, b, c, d, e], _ => rfl
noncomputable def cL (xs : List Mv) (u v : Int) : List Int := if wX xs u v = 0 then [cntL u v xs 1, cntL u v xs 2, cntL u v xs 3, cntL u v xs 4, cntL u v xs 5] else []
theorem cL_len {xs : List Mv} {u v : Int} : (cL xs u v).length ≤ 5 := by
 unfold cL; split <;> simp
theorem cL_of {xs : List Mv} {u v : Int} (hw : wX xs u v = 0) {l : List Int} (h : l.length = 5) (k : ∀ j : Nat, j < 5 → el l (j : Int) = cntL u v xs ((j : Int) + 1)) : l = cL xs u v := by
 unfold cL
 rw [if_pos hw, list5 h, k 0 (by omega), k 1 (by omega), k 2 (by omega), k 3 (by omega), k 4 (by omega)]
 rfl
theorem counts_r (xs : List Mv) (u v : Int) : KnownR Try.prog [] 16 [.list (rowA gM xs) xs.length, .val (.int .i64 u), .val (.int .i64 v)] (.tuple #[.complex .f64 0 (cL xs u v).length, .int .i64 (wX xs u v)]) [(rowA gI (cL xs u v), 3)] := by
 by_cases hw : wX xs u v = 0
 ·have hl := (cAll0 (wX0.1 hw).1).1
  have q0 : (wX xs u v != (0 : Int)) = false := by simp [hw]
  have z0 : ∀ j : Nat, j < 5 → el ([(0 : Int), 0, 0, 0, 0] : List Int).reverse (j : Int) = 0 := by
   intro j hj
   match j, hj with
   | 0, _ => rfl
   | 1, _ => rfl
   | 2, _ => rfl
   | 3, _ => rfl
   | 4, _ => rfl
  obtain ⟨y, z, h1, h2, h3⟩ := rxA_go (u := u) (v := v) hl xs.length 0 [0, 0, 0, 0, 0] (by omega) rfl (fun j hj => by rw [z0 j hj]; omega)
  have := rx0 xs u v y z.1 z.2.1 z.2.2 hw hl h2 q0 (rxA_ok xs u v hw hl _ _ _ h1)
  unfold rx0_c0 at this
  rw [cL_of hw (l := y.reverse) (by simpa using h2) (fun j hj => by rw [h3 j hj, z0 j hj, List.drop_zero]; omega)] at this
  rw [hw]; exact this
 ·have := rxE xs u v hw
  have e : cL xs u v = [] := by unfold cL; rw [if_neg hw]
  rw [e]; exact this
end Go.Proofs.Ytbhmgchkgbenmaa
