import Derived.Test.YtcjlidciniiofaaOgO
set_option linter.unusedSimpArgs false
set_option linter.unusedVariables false
namespace Go.Proofs.Ytcjlidciniiofaa
open Go Go.RowKit
theorem suA_go (xs : List Int) (x : Int) (hT : ttV (sG xs x) (sS xs x) (sK xs x) ≤ 2000) : ∀ (m : Nat) {mo i p v q l d : Int}, okP p (sT xs x) v q l (ttV (sG xs x) (sS xs x) (sK xs x)) d (sS xs x) (sK xs x) = true → d = i → 0 ≤ mo → mo ≤ i → i + m = ttV (sG xs x) (sS xs x) (sK xs x) →
  suA_f xs x (m + 1) mo i p v q l d = some (0, (mo + moN p (sT xs x) v q (sS xs x), ttV (sG xs x) (sS xs x) (sK xs x), sT xs x, 0, 0, 0, ttV (sG xs x) (sS xs x) (sK xs x))) := by
 intro m
 induction m with
 | zero =>
  intro mo i p v q l d h hd h0 h1 hi
  obtain ⟨rfl, rfl, rfl, rfl⟩ := pad_end h (by omega)
  have e0 : moN (sT xs x) (sT xs x) 0 0 (sS xs x) = 0 := by unfold moN; simp
  rw [suA_fs, decide_eq_false (by omega : ¬ i < ttV (sG xs x) (sS xs x) (sK xs x)), e0]
  subst hd
  simp only [Bool.not_false, Bool.true_or, Bool.and_self, cond_true, cond_false, Int.add_zero]
  rw [show d = ttV (sG xs x) (sS xs x) (sK xs x) by omega]
 | succ m ih =>
  intro mo i p v q l d h hd h0 h1 hi
  subst hd
  have hs : okS p (sT xs x) v q l (ttV (sG xs x) (sS xs x) (sK xs x)) d (sS xs x) (sK xs x) = true := okS_is.2 ⟨h, by omega⟩
  have hn := pad_tick h (by omega)
  have hm := mo_tick (okP_is.1 h).1
  have hw : IntKind.i64.wrap (d + 1) = d + 1 := w8n (by omega) (by omega)
  rw [suA_fs, decide_eq_true (by omega : d < ttV (sG xs x) (sS xs x) (sK xs x)), hs, hn, hw]
  simp only [Bool.not_true, Bool.false_or, bne_self_eq_false, Bool.not_false, Bool.and_self, cond_true]
  by_cases c : q = 2
  ·have hw2 : IntKind.i64.wrap (mo + 1) = mo + 1 := w8n (by omega) (by omega)
   rw [decide_eq_true c, cond_true, hw2, ih (mo := mo + 1) hn rfl (by omega) (by omega) (by omega), hm, if_pos c]
   congr 3; omega
  ·rw [decide_eq_false c, cond_false, ih (mo := mo) hn rfl h0 (by omega) (by omega), hm, if_neg c]
   congr 3; omega
theorem law_ok (xs : List Int) (x : Int) : KnownR Try.prog [] 5 [.list (rowA gI xs) xs.length, .val (.int .i64 x)] (.bool true) [] := by
 have h := shaft_ok xs x
 obtain ⟨f1, f2, f3, f4, f5, f6⟩ := shaft_fine xs x
 have hs : 1 ≤ sS xs x ∧ sS xs x ≤ 20 := by have := h.sp; omega
 have hk : 0 ≤ sK xs x ∧ sK xs x ≤ 5 := by have := h.br; omega
 have hd : 0 ≤ tD (sF xs x) (sT xs x) ∧ tD (sF xs x) (sT xs x) ≤ sH xs x := by unfold tD; split <;> omega
 have mono := rD_mono (L := sS xs x) hs.1 hd.1 hd.2
 have bnd := rD_bound (L := sS xs x) (n := sH xs x) hs.1 f3
 have bnd2 := rD_bound (L := sS xs x) (n := tD (sF xs x) (sT xs x)) hs.1 hd.1
 have hp : 1 ≤ sH xs x := by
  have q := pos_40 h.lo (sG xs x).length (Nat.le_refl _)
  have := h.len.1
  unfold sH; omega
 have pos := rD_pos (L := sS xs x) (n := sH xs x) hs.1 hp
 have eT : ttV (sG xs x) (sS xs x) (sK xs x) = rD (sS xs x) (sH xs x) + 2 * sK xs x := by unfold ttV; rw [f2]
 have hT : okT (sG xs x) (sS xs x) (sK xs x) = true := okT_is.2 ⟨by have := h.len.2; omega, f1, hs, hk⟩
 have hA : okA (sF xs x) = true := okA_is.2 (by omega)
 have hA2 : okA (sT xs x) = true := okA_is.2 (by omega)
 have hB : okB (sF xs x) (sT xs x) (ttV (sG xs x) (sS xs x) (sK xs x)) (sS xs x) (sK xs x) = true := okB_is.2 ⟨by omega, by omega, hs, hk, by omega, by omega⟩
 have eD : (if IntKind.i64.wrap (sT xs x - sF xs x) > IntKind.i64.wrap (sF xs x - sT xs x) then IntKind.i64.wrap (sT xs x - sF xs x) else IntKind.i64.wrap (sF xs x - sT xs x)) = tD (sF xs x) (sT xs x) := by
  rw [w8 (v := sT xs x - sF xs x) (by omega), w8 (v := sF xs x - sT xs x) (by omega)]
  unfold tD; omega
 have hR : okR (tD (sF xs x) (sT xs x)) (sS xs x) = true := okR_is.2 ⟨by omega, by omega, by omega, by omega⟩
 have hP := bg_ok hB
 have hS : okS (sF xs x) (sT xs x) 0 (gqV (sF xs x) (sT xs x) (sK xs x)) (glV (sF xs x) (sT xs x) (sK xs x)) (ttV (sG xs x) (sS xs x) (sK xs x)) 0 (sS xs x) (sK xs x) = true := okS_is.2 ⟨hP, by omega⟩
 have hN := pad_tick hP (by omega)
 have hm := (go_ok (p := sF xs x) (g := sT xs x) (s := sS xs x) (k := sK xs x) (by omega) (by omega) hs hk).2.2
 have d1 : decide (ttV (sG xs x) (sS xs x) (sK xs x) < 0) = false := decide_eq_false (by omega)
 have d2 : decide (ttV (sG xs x) (sS xs x) (sK xs x) > 2000) = false := decide_eq_false (by omega)
 have d3 : (ttV (sG xs x) (sS xs x) (sK xs x) != ttV (sG xs x) (sS xs x) (sK xs x)) = false := by simp
 have d4 : decide (0 < ttV (sG xs x) (sS xs x) (sK xs x)) = true := decide_eq_true (by omega)
 have hf := suA_go xs x (by omega) (ttV (sG xs x) (sS xs x) (sK xs x)).toNat (mo := 0) (i := 0) hP rfl (by omega) (by omega) (by omega)
 rw [hm, Int.zero_add] at hf
 have l := suA_ok xs x hT hA hB (by rw [eD]; exact hR) d1 d2 d3 d4 hS hN hN _ _ _ hf
 have r := suK xs x (rD (sS xs x) (tD (sF xs x) (sT xs x))) (ttV (sG xs x) (sS xs x) (sK xs x)) (sT xs x) 0 0 0 (ttV (sG xs x) (sS xs x) (sK xs x)) hT hA hB (by rw [eD]; exact hR) d1 d2 d3 (okP_is.2 ⟨⟨by omega, by omega, by omega, by omega, by omega, by omega, hs.1, hs.2, hk.1, hk.2, by omega, by omega, .inl ⟨rfl, rfl, rfl, rfl⟩⟩, by omega, by omega, by omega, by rw [rest_n]; omega⟩) (by simp) (by simp) (by simp) (by simp) (by simp) (by rw [eD]; simp) hA2 (by simp) hA (by rw [hB]; simp) (by rw [eD]; exact hR) d1 d2 l
 have e : ∀ z0, suK_c0 xs x z0 (ttV (sG xs x) (sS xs x) (sK xs x)) (sT xs x) 0 0 0 (ttV (sG xs x) (sS xs x) (sK xs x)) = true := by intro z0; unfold suK_c0; simp
 rw [e] at r
 exact r
theorem moveSuffices_true (A0 : Option Addr) (len0 cap0 : Nat) (xs : List Int) (x : Int) (w : World) (hl0 : xs.length = len0) (hi0 : ListIn w (rowA gI xs) len0 A0 cap0) (hw0 : ∀ m ∈ xs, rowW gI m) (_ : In64 x) :
  Calls Try.prog 5 #[.slice A0 len0 cap0, .int .i64 x] w fun e w' => e = .returned (.bool true) ∧ Below w.heap.size w w' := by
 subst hl0
 exact knownR_law (law_ok xs x) (LaidL.nil w) (.cons (.list hi0) (.cons (.val rfl) .nil))
end Go.Proofs.Ytcjlidciniiofaa
