/- Layer 16: Orders and Least, one way for program and reference; orders that are all the same. -/
import Derived.Test.YtpaojoahbmlolaaKH
import Derived.Test.YtpaojoahbmlolaaSI4
namespace Go.Proofs.Ytpaojoahbmlolaa
open Go Go.RowKit
set_option linter.unusedVariables false
set_option linter.unusedSimpArgs false
theorem olL_len (a w y t n : Int) : (olL a w y t n).length ≤ 1000 := by
  unfold olL
  split
  · rename_i h
    unfold olE at h
    split at h
    · split at h
      · split at h
        · split at h
          · rename_i hn hd
            rw [oL_len hd]; omega
          · cases h
        · cases h
      · cases h
    · rename_i hc; exact absurd h hc
  · simp
theorem dst_le {a t n : Int} (hn : 0 ≤ n) : dst a t ≤ n.toNat ↔ (t - a ≤ n ∧ a - t ≤ n) := by unfold dst; omega
theorem orders_p (a w y t n : Int) : KnownR Try.prog [] 28 [.val (.agg #[.int .i64 a, .int .i64 w, .int .i64 y]), .val (.int .i64 t), .val (.int .i64 n)] (.tuple #[.complex .f64 0 (olL a w y t n).length, .int .i64 (olE a w y t n)]) [(rowA gI (olL a w y t n), 3)] := by
  by_cases hc : ckV a w y = 0
  · have b := ckV_ok.1 hc
    by_cases ht : 0 ≤ t ∧ t ≤ w ∧ 0 ≤ n ∧ n ≤ 1000 ∧ t - a ≤ n ∧ a - t ≤ n
    · have hd : dst a t ≤ n.toNat := (dst_le ht.2.2.1).2 ht.2.2.2.2
      have e : olE a w y t n = 0 := by unfold olE; rw [if_pos hc, if_pos (by omega), if_pos (by omega), if_pos hd]
      have el : olL a w y t n = oL a t n := by unfold olL; rw [if_pos e]
      have hm := mx_b (a := a) (t := t) (by omega) (by omega)
      rw [e, el]
      have hbytes : decide (n.toNat * 8 < 1000000000) = true := decide_eq_true (by omega)
      have hlt : decide (n < if IntKind.i64.wrap (a - t) > IntKind.i64.wrap (t - a) then IntKind.i64.wrap (a - t) else IntKind.i64.wrap (t - a)) = false := by rw [hm]; exact decide_eq_false (by omega)
      by_cases hta : t < a
      · have hf := orA_go (a := a) (w := w) (y := y) (t := t) (n := n) (by omega) (by omega) (by omega) hd hta n.toNat (i := 0) (by omega)
        rw [show fillM (oL a t n) 0 = List.replicate n.toNat 0 by unfold fillM; rw [oL_len hd]; simp] at hf
        have hl := orA_ok a w y t n hc (by omega) (by omega) (by omega) ht.2.2.2.2 hta _ _ _ hf
        have r := orK a w y t n _ _ (by rw [List.length_reverse, oL_len hd]) hc (by omega) (by omega) (by omega) ht.2.2.2.2 hta (by simp [hc]) (decide_eq_false (by omega)) (decide_eq_false (by omega)) (decide_eq_true (by omega)) (by simp; omega) hlt (decide_eq_true hta) (decide_eq_true (by omega)) hbytes hl
        rw [show orK_c0 a w y t n (oL a t n).reverse n = oL a t n by unfold orK_c0; rw [List.reverse_reverse]] at r
        exact r
      · have hf := orB_go (a := a) (w := w) (y := y) (t := t) (n := n) (by omega) (by omega) (by omega) hd (by omega) n.toNat (i := 0) (by omega)
        rw [show fillM (oL a t n) 0 = List.replicate n.toNat 0 by unfold fillM; rw [oL_len hd]; simp] at hf
        have hl := orB_ok a w y t n hc (by omega) (by omega) (by omega) ht.2.2.2.2 (by omega) _ _ _ hf
        have r := orJ a w y t n _ _ (by rw [List.length_reverse, oL_len hd]) hc (by omega) (by omega) (by omega) ht.2.2.2.2 (by omega) (by simp [hc]) (decide_eq_false (by omega)) (decide_eq_false (by omega)) (decide_eq_true (by omega)) (by simp; omega) hlt (decide_eq_false hta) (decide_eq_true (by omega)) hbytes hl
        rw [show orJ_c0 a w y t n (oL a t n).reverse n = oL a t n by unfold orJ_c0; rw [List.reverse_reverse]] at r
        exact r
    · have r := orF a w y t n hc (by omega) ht
      have e : orF_c1 a w y t n = olE a w y t n ∧ olE a w y t n ≠ 0 := by
        unfold orF_c1 olE
        rw [if_pos hc]
        simp only [Bool.cond_decide, Bool.cond_not]
        by_cases h1 : 0 ≤ t ∧ t ≤ w
        · rw [if_pos h1, if_neg (by omega), if_neg (by omega)]
          by_cases h2 : 0 ≤ n ∧ n ≤ 1000
          · rw [if_pos h2, if_pos (by omega), if_pos (by omega), if_neg (by rw [dst_le h2.1]; omega)]; omega
          · rw [if_neg h2]; split <;> (try split) <;> omega
        · rw [if_neg h1]; split <;> (try split) <;> omega
      have el : olL a w y t n = [] := by unfold olL; rw [if_neg e.2]
      rw [e.1] at r
      rw [el]; exact r
  · have e : olE a w y t n = ckV a w y := by unfold olE; rw [if_neg hc]
    have el : olL a w y t n = [] := by unfold olL; rw [if_neg (by rw [e]; exact hc)]
    rw [el, e]; exact orE a w y t n hc
theorem orders_r (a w y t n : Int) : KnownR Try.prog [] 29 [.val (.agg #[.int .i64 a, .int .i64 w, .int .i64 y]), .val (.int .i64 t), .val (.int .i64 n)] (.tuple #[.complex .f64 0 (olL a w y t n).length, .int .i64 (olE a w y t n)]) [(rowA gI (olL a w y t n), 3)] := by
  by_cases hc : ckV a w y = 0
  · have b := ckV_ok.1 hc
    by_cases ht : 0 ≤ t ∧ t ≤ w ∧ 0 ≤ n ∧ n ≤ 1000 ∧ t - a ≤ n ∧ a - t ≤ n
    · have hd : dst a t ≤ n.toNat := (dst_le ht.2.2.1).2 ht.2.2.2.2
      have e : olE a w y t n = 0 := by unfold olE; rw [if_pos hc, if_pos (by omega), if_pos (by omega), if_pos hd]
      have el : olL a w y t n = oL a t n := by unfold olL; rw [if_pos e]
      have hm := mx_b (a := a) (t := t) (by omega) (by omega)
      rw [e, el]
      have hlt : decide (n < if IntKind.i64.wrap (a - t) > IntKind.i64.wrap (t - a) then IntKind.i64.wrap (a - t) else IntKind.i64.wrap (t - a)) = false := by rw [hm]; exact decide_eq_false (by omega)
      have hf := rorA_go (a := a) (w := w) (y := y) (t := t) (n := n) (by omega) (by omega) (by omega) hd n.toNat (i := 0) (by omega)
      have hl := rorA_ok a w y t n hc (by omega) (by omega) (by omega) ht.2.2.2.2 _ _ _ hf
      have r := rorK a w y t n _ _ hc (by omega) (by omega) (by omega) ht.2.2.2.2 (by simp [hc]) (decide_eq_false (by omega)) (decide_eq_false (by omega)) (by simp [hc]) (decide_eq_false (by omega)) (decide_eq_false (by omega)) hlt hl
      rw [show rorK_c0 a w y t n (oL a t n).reverse n = oL a t n by unfold rorK_c0; rw [List.reverse_reverse]] at r
      exact r
    · have r := rorF a w y t n hc (by omega) ht
      have e : rorF_c1 a w y t n = olE a w y t n ∧ olE a w y t n ≠ 0 := by
        unfold rorF_c1 olE
        rw [if_pos hc]
        simp only [Bool.cond_decide, Bool.cond_not]
        by_cases h1 : 0 ≤ t ∧ t ≤ w
        · rw [if_pos h1, if_neg (by omega), if_neg (by omega)]
          by_cases h2 : 0 ≤ n ∧ n ≤ 1000
          · rw [if_pos h2, if_neg (by omega), if_neg (by omega), if_neg (by rw [dst_le h2.1]; omega)]; omega
          · rw [if_neg h2]; split <;> (try split) <;> omega
        · rw [if_neg h1]; split <;> (try split) <;> omega
      have el : olL a w y t n = [] := by unfold olL; rw [if_neg e.2]
      rw [e.1] at r
      rw [el]; exact r
  · have e : olE a w y t n = ckV a w y := by unfold olE; rw [if_neg hc]
    have el : olL a w y t n = [] := by unfold olL; rw [if_neg (by rw [e]; exact hc)]
    rw [el, e]; exact rorE a w y t n hc
theorem rLeast_is (a w y t : Int) : Known Try.prog [] 27 [.agg #[.int .i64 a, .int .i64 w, .int .i64 y], .int .i64 t] (.tuple #[.int .i64 (pLs_c0 a w y t), .int .i64 (pLs_c1 a w y t)]) := by
  have r := rLs a w y t
  have e : rLs_c0 a w y t = pLs_c0 a w y t ∧ rLs_c1 a w y t = pLs_c1 a w y t := by
    unfold rLs_c0 rLs_c1 pLs_c0 pLs_c1
    by_cases h : ckV a w y = 0
    · rw [show (ckV a w y == 0) = true by simpa using h, show (ckV a w y != 0) = false by simp [h]]; exact ⟨rfl, rfl⟩
    · rw [show (ckV a w y == 0) = false by simpa using h, show (ckV a w y != 0) = true by simpa using h]; exact ⟨rfl, rfl⟩
  rw [e.1, e.2] at r
  exact r
theorem ords_rep {k : Nat} {o : Int} (h : 0 ≤ o ∧ o ≤ 4) : Ords (List.replicate k o) := fun x hx => by rw [(List.mem_replicate.1 hx).2]; exact h
theorem swS_zero {w : Int} : ∀ (k : Nat) {a y u c : Int}, ckV a w y = 0 → u ≤ (swS w (List.replicate k 0) (a, y, u, c)).2.2.1 ∧ c ≤ (swS w (List.replicate k 0) (a, y, u, c)).2.2.2 ∧ (swS w (List.replicate k 0) (a, y, u, c)).2.2.1 + (swS w (List.replicate k 0) (a, y, u, c)).2.2.2 ≤ u + c + (if y = 0 then 0 else 1)
  | 0, a, y, u, c, h => by simp only [List.replicate_zero, swS]; split <;> omega
  | k + 1, a, y, u, c, h => by
    have hb := ckV_ok.1 h
    have ho : obV a w y 0 = y := by unfold obV; rw [if_pos rfl]
    have ht := tk_ok h
    simp only [List.replicate_succ, swS, ho]
    have := swS_zero (w := w) k (a := a + y) (y := tkY a w y) (u := if tkB a w y = 1 then u + 1 else u) (c := if tkB a w y = -1 then c + 1 else c) ht
    revert this
    generalize (swS w (List.replicate k 0) (a + y, tkY a w y, (if tkB a w y = 1 then u + 1 else u), (if tkB a w y = -1 then c + 1 else c))) = r
    unfold tkY tkB
    rcases (by omega : y = 0 ∨ y = 1 ∨ y = -1) with e | e | e
    · subst e; simp <;> omega
    · subst e
      by_cases q : a + 1 = w
      · simp [q] <;> omega
      · simp [q] <;> omega
    · subst e
      by_cases q : a = 1
      · simp [q] <;> omega
      · simp [q] <;> omega
end Go.Proofs.Ytpaojoahbmlolaa
