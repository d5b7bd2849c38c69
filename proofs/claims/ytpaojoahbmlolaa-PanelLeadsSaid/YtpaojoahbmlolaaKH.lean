/- Layer 16: orders that lead to a place. -/
import Derived.Test.YtpaojoahbmlolaaKG
import Derived.Test.YtpaojoahbmlolaaKD
import Derived.Test.YtpaojoahbmlolaaOgI
namespace Go.Proofs.Ytpaojoahbmlolaa
open Go Go.RowKit
set_option linter.unusedVariables false
set_option linter.unusedSimpArgs false
/-- how far, and which way -/
def dst (a t : Int) : Nat := (if t < a then a - t else t - a).toNat
def wayO (a t : Int) : Int := if t < a then 2 else 1
def oL (a t n : Int) : List Int := List.replicate (dst a t) (wayO a t) ++ List.replicate (n.toNat - dst a t) 3
theorem oL_len {a t n : Int} (h : dst a t ≤ n.toNat) : (oL a t n).length = n.toNat := by
  unfold oL; simp; omega
theorem oL_el {a t n : Int} {i : Nat} (h : i < n.toNat) : el (oL a t n) (i : Int) = if i < dst a t then wayO a t else 3 := by
  unfold el oL
  rw [List.getD_eq_getElem?_getD, Int.toNat_natCast, List.getElem?_append]
  by_cases c : i < dst a t
  · rw [if_pos (by simpa using c), if_pos c, List.getElem?_replicate, if_pos c]; rfl
  · rw [if_neg (by simpa using c), if_neg c, List.getElem?_replicate, if_pos (by simp; omega)]; rfl
theorem set_mid {O R : List Int} {u v : Int} {i : Nat} (h : i ≤ O.length) : (O.take i ++ u :: R).set i v = O.take i ++ v :: R := by
  rw [List.set_append]
  have : (O.take i).length = i := by simp; omega
  rw [if_neg (by omega), this]
  simp
theorem rep_cons {i N : Nat} (h : i < N) : List.replicate (N - i) (0 : Int) = 0 :: List.replicate (N - (i + 1)) 0 := by
  rw [show N - i = (N - (i + 1)) + 1 by omega, List.replicate_succ]
def fillM (O : List Int) (i : Nat) : List Int := O.take i ++ List.replicate (O.length - i) 0
theorem mx_b {a t : Int} (ha : 0 ≤ a ∧ a ≤ 20) (ht : 0 ≤ t ∧ t ≤ 20) : (if IntKind.i64.wrap (a - t) > IntKind.i64.wrap (t - a) then IntKind.i64.wrap (a - t) else IntKind.i64.wrap (t - a)) = ((dst a t : Nat) : Int) := by
  rw [w8 (v := a - t) (by omega), w8 (v := t - a) (by omega)]
  unfold dst; omega
theorem orA_go {a w y t n : Int} (ha : 0 ≤ a ∧ a ≤ 20) (ht : 0 ≤ t ∧ t ≤ 20) (hn : 0 ≤ n ∧ n ≤ 1000) (hd : dst a t ≤ n.toNat) (hta : t < a) : ∀ (k : Nat) {i : Nat}, i + k = n.toNat → orA_f a w y t n (k + 1) (fillM (oL a t n) i).reverse (i : Int) = some (0, ((oL a t n).reverse, n))
  | 0, i, hi => by
    have hl := oL_len hd
    have e : fillM (oL a t n) i = oL a t n := by unfold fillM; rw [hl, List.take_of_length_le (by omega), show n.toNat - i = 0 by omega]; simp
    rw [e, orA_fs, bif_dT ⟨by omega, by omega, by rw [List.length_reverse, hl]; omega⟩, bif_dF (by omega), show (i : Int) = n by omega]
  | k + 1, i, hi => by
    have hl := oL_len hd
    have hle : (fillM (oL a t n) i).length = n.toNat := by unfold fillM; simp [hl]; omega
    have hs : fillM (oL a t n) i = (oL a t n).take i ++ 0 :: List.replicate (n.toNat - (i + 1)) 0 := by unfold fillM; rw [hl, rep_cons (by omega)]
    have hnx : fillM (oL a t n) (i + 1) = (oL a t n).take i ++ (if i < dst a t then wayO a t else 3) :: List.replicate (n.toNat - (i + 1)) 0 := by
      unfold fillM; rw [hl, take_el (by omega), oL_el (by omega)]; simp
    rw [orA_fs, bif_dT ⟨by omega, by omega, by rw [List.length_reverse, hle]; omega⟩, bif_dT (by omega), w8 (v := (i : Int) + 1) (by omega), show (i : Int) + 1 = ((i + 1 : Nat) : Int) by omega, mx_b ha ht]
    simp only [List.reverse_reverse, Int.toNat_natCast]
    have hw : wayO a t = 2 := by unfold wayO; rw [if_pos hta]
    by_cases c : i < dst a t
    · rw [bif_dT (by omega), hs, set_mid (by omega), set_mid (by omega)]
      have := orA_go (w := w) (y := y) ha ht hn hd hta k (i := i + 1) (by omega)
      rw [hnx, if_pos c, hw] at this
      exact this
    · rw [bif_dF (by omega), hs, set_mid (by omega)]
      have := orA_go (w := w) (y := y) ha ht hn hd hta k (i := i + 1) (by omega)
      rw [hnx, if_neg c] at this
      exact this
theorem orB_go {a w y t n : Int} (ha : 0 ≤ a ∧ a ≤ 20) (ht : 0 ≤ t ∧ t ≤ 20) (hn : 0 ≤ n ∧ n ≤ 1000) (hd : dst a t ≤ n.toNat) (hta : a ≤ t) : ∀ (k : Nat) {i : Nat}, i + k = n.toNat → orB_f a w y t n (k + 1) (fillM (oL a t n) i).reverse (i : Int) = some (0, ((oL a t n).reverse, n))
  | 0, i, hi => by
    have hl := oL_len hd
    have e : fillM (oL a t n) i = oL a t n := by unfold fillM; rw [hl, List.take_of_length_le (by omega), show n.toNat - i = 0 by omega]; simp
    rw [e, orB_fs, bif_dT ⟨by omega, by omega, by rw [List.length_reverse, hl]; omega⟩, bif_dF (by omega), show (i : Int) = n by omega]
  | k + 1, i, hi => by
    have hl := oL_len hd
    have hle : (fillM (oL a t n) i).length = n.toNat := by unfold fillM; simp [hl]; omega
    have hs : fillM (oL a t n) i = (oL a t n).take i ++ 0 :: List.replicate (n.toNat - (i + 1)) 0 := by unfold fillM; rw [hl, rep_cons (by omega)]
    have hnx : fillM (oL a t n) (i + 1) = (oL a t n).take i ++ (if i < dst a t then wayO a t else 3) :: List.replicate (n.toNat - (i + 1)) 0 := by
      unfold fillM; rw [hl, take_el (by omega), oL_el (by omega)]; simp
    rw [orB_fs, bif_dT ⟨by omega, by omega, by rw [List.length_reverse, hle]; omega⟩, bif_dT (by omega), w8 (v := (i : Int) + 1) (by omega), show (i : Int) + 1 = ((i + 1 : Nat) : Int) by omega, mx_b ha ht]
    simp only [List.reverse_reverse, Int.toNat_natCast]
    have hw : wayO a t = 1 := by unfold wayO; rw [if_neg (by omega)]
    by_cases c : i < dst a t
    · rw [bif_dT (by omega), hs, set_mid (by omega), set_mid (by omega)]
      have := orB_go (w := w) (y := y) ha ht hn hd hta k (i := i + 1) (by omega)
      rw [hnx, if_pos c, hw] at this
      exact this
    · rw [bif_dF (by omega), hs, set_mid (by omega)]
      have := orB_go (w := w) (y := y) ha ht hn hd hta k (i := i + 1) (by omega)
      rw [hnx, if_neg c] at this
      exact this
theorem rorA_go {a w y t n : Int} (ha : 0 ≤ a ∧ a ≤ 20) (ht : 0 ≤ t ∧ t ≤ 20) (hn : 0 ≤ n ∧ n ≤ 1000) (hd : dst a t ≤ n.toNat) : ∀ (k : Nat) {i : Nat}, i + k = n.toNat → rorA_f a w y t n (k + 1) ((oL a t n).take i).reverse (i : Int) = some (0, ((oL a t n).reverse, n))
  | 0, i, hi => by
    have hl := oL_len hd
    rw [rorA_fs, bif_dT ⟨by omega, by omega, by simp; omega⟩, bif_dF (by omega), show (i : Int) = n by omega, List.take_of_length_le (by omega)]
  | k + 1, i, hi => by
    have hl := oL_len hd
    have := rorA_go (w := w) (y := y) ha ht hn hd k (i := i + 1) (by omega)
    rw [take_el (by omega), oL_el (by omega), List.reverse_append] at this
    rw [rorA_fs, bif_dT ⟨by omega, by omega, by simp; omega⟩, bif_dT (by omega), w8 (v := (i : Int) + 1) (by omega), show (i : Int) + 1 = ((i + 1 : Nat) : Int) by omega, mx_b ha ht]
    by_cases c : i < dst a t
    · rw [bif_dF (by omega)]
      rw [if_pos c] at this
      by_cases hta : t > a
      · rw [bif_dT hta]
        rw [show wayO a t = 1 by unfold wayO; rw [if_neg (by omega)]] at this
        exact this
      · rw [bif_dF hta]
        rw [show wayO a t = 2 by unfold wayO; rw [if_pos (by unfold dst at c; omega)]] at this
        exact this
    · rw [bif_dT (by omega)]
      rw [if_neg c] at this
      exact this
/-- the error of Orders -/
noncomputable def olE (a w y t n : Int) : Int := if ckV a w y = 0 then (if 0 ≤ t ∧ t ≤ w then (if 0 ≤ n ∧ n ≤ 1000 then (if dst a t ≤ n.toNat then 0 else 3) else 2) else 2) else ckV a w y
noncomputable def olL (a w y t n : Int) : List Int := if olE a w y t n = 0 then oL a t n else []
end Go.Proofs.Ytpaojoahbmlolaa
