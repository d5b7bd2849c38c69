import Derived.Test.YtcjlidciniiofaaOgX
set_option linter.unusedSimpArgs false
set_option linter.unusedVariables false
namespace Go.Proofs.Ytcjlidciniiofaa
open Go Go.RowKit
theorem mo_range {p g v q l s k : Int} (h : DOk p g v q l s k) : 0 ≤ moN p g v q s ∧ moN p g v q s ≤ 70000 := by
 have nb := nN_bounds h
 obtain ⟨m0, m3, m12⟩ := nN_mo h
 obtain ⟨a1, a2, a3, a4, a5, a6, a7, a8, a9, b1, b2, b3, h'⟩ := h
 rcases h' with h' | h' | h' | h'
 ·have := m0 h'.1; omega
 ·have := m12 (.inl h'.1)
  unfold moN
  rw [if_pos (Or.inl h'.1)]
  have z : rT 0 = 0 := by decide
  have hd : 0 ≤ tD p g := by unfold tD; split <;> omega
  have b := rD_bound (L := s) (n := tD p g + rT v) a7 (by rw [h'.2.2.1, z]; omega)
  have c : tD p g ≤ 63000 := by unfold tD; split <;> omega
  rw [h'.2.2.1, z] at *; omega
 ·have e := m12 (.inr h'.1)
  have q := mo_tick ⟨a1, a2, a3, a4, a5, a6, a7, a8, a9, b1, b2, b3, .inr (.inr (.inl h'))⟩
  have b := rides_of ⟨a1, a2, a3, a4, a5, a6, a7, a8, a9, b1, b2, b3, .inr (.inr (.inl h'))⟩ (.inr h'.1)
  obtain ⟨w, hw⟩ := nextV_ex a7 b.1.v0 b.1.vL b.1.stop (by omega)
  have n := (b.1.next a7 (by omega) hw).2.1
  unfold moN at *
  rw [if_pos (Or.inr h'.1)] at *
  omega
 ·have := m3 h'.1; omega
theorem law_parts (xs : List Int) (x y : Int) : KnownR Try.prog [] 6 [.list (rowA gI xs) xs.length, .val (.int .i64 x), .val (.int .i64 y)] (.bool true) [] := by
 have h := shaft_ok xs x
 obtain ⟨f1, f2, f3, f4, f5, f6⟩ := shaft_fine xs x
 have hs : 1 ≤ sS xs x ∧ sS xs x ≤ 20 := by have := h.sp; omega
 have hk : 0 ≤ sK xs x ∧ sK xs x ≤ 5 := by have := h.br; omega
 have hd : 0 ≤ tD (sF xs x) (sT xs x) ∧ tD (sF xs x) (sT xs x) ≤ sH xs x := by unfold tD; split <;> omega
 have mono := rD_mono (L := sS xs x) hs.1 hd.1 hd.2
 have bnd := rD_bound (L := sS xs x) (n := sH xs x) hs.1 f3
 have eT : tt_ xs x = rD (sS xs x) (sH xs x) + 2 * sK xs x := by unfold tt_ ttV; rw [f2]
 have hT : okT (sG xs x) (sS xs x) (sK xs x) = true := okT_is.2 ⟨by have := h.len.2; omega, f1, hs, hk⟩
 have hA : okA (sF xs x) = true := okA_is.2 (by omega)
 have hB : okB (sF xs x) (sT xs x) (tt_ xs x) (sS xs x) (sK xs x) = true := okB_is.2 ⟨by omega, by omega, hs, hk, by omega, by omega⟩
 have hP : okP (sF xs x) (sT xs x) 0 (gq_ xs x) (gl_ xs x) (tt_ xs x) 0 (sS xs x) (sK xs x) = true := bg_ok hB
 have r0 := rD_bound (L := sS xs x) (n := sH xs x) hs.1 f3
 have t0 : 0 ≤ tt_ xs x ∧ tt_ xs x ≤ 2000 := by omega
 have w1 : IntKind.i64.wrap (tt_ xs x + 1) = tt_ xs x + 1 := w8n (by omega) (by omega)
 have k0 : 0 ≤ kk_ xs x y ∧ kk_ xs x y ≤ tt_ xs x := by
  unfold kk_; rw [w1, mdV_is]
  have m0 := Int.emod_nonneg y (by omega : tt_ xs x + 1 ≠ 0)
  have m1 := Int.emod_lt_of_pos y (by omega : 0 < tt_ xs x + 1)
  omega
 have rr : rr_ xs x y = tt_ xs x - kk_ xs x y := by unfold rr_; exact w8n (by omega) (by omega)
 have n4 : okP (aP_ xs x y) (sT xs x) (aV_ xs x y) (aQ_ xs x y) (aL_ xs x y) (tt_ xs x) (0 + kk_ xs x y) (sS xs x) (sK xs x) = true := ri_ok hP k0.1 (by omega)
 have n1 : okN (sF xs x) (sT xs x) 0 (gq_ xs x) (gl_ xs x) (tt_ xs x) 0 (sS xs x) (sK xs x) (kk_ xs x y) = true := okN_is.2 ⟨hP, by omega, by omega⟩
 have n3 : okN (sF xs x) (sT xs x) 0 (gq_ xs x) (gl_ xs x) (tt_ xs x) 0 (sS xs x) (sK xs x) (tt_ xs x) = true := okN_is.2 ⟨hP, by omega, by omega⟩
 have n2 : okN (aP_ xs x y) (sT xs x) (aV_ xs x y) (aQ_ xs x y) (aL_ xs x y) (tt_ xs x) (0 + kk_ xs x y) (sS xs x) (sK xs x) (rr_ xs x y) = true := okN_is.2 ⟨n4, by omega, by omega⟩
 have n5 : okN (aP_ xs x y) (aP_ xs x y) 0 0 0 (tt_ xs x) (0 + kk_ xs x y) (sS xs x) (sK xs x) (rr_ xs x y) = true := okN_is.2 ⟨stop_ok n4, by omega, by omega⟩
 have e0 : 0 + kk_ xs x y + rr_ xs x y = tt_ xs x := by omega
 have ad := ri_add (g := sT xs x) (s := sS xs x) (k := sK xs x) (a := kk_ xs x y) (b := rr_ xs x y) (p := sF xs x) (v := 0) (q := gq_ xs x) (l := gl_ xs x) k0.1 (by omega)
 rw [show kk_ xs x y + rr_ xs x y = tt_ xs x by omega] at ad
 have bp : bP_ xs x y = cP_ xs x := congrArg (·.1) ad
 have bv : bV_ xs x y = cV_ xs x := congrArg (·.2.1) ad
 have bq : bQ_ xs x y = cQ_ xs x := congrArg (·.2.2.1) ad
 have bl : bL_ xs x y = cL_ xs x := congrArg (·.2.2.2) ad
 have c0 : (!((bP_ xs x y == cP_ xs x && (sT xs x == sT xs x && (bV_ xs x y == cV_ xs x && (bQ_ xs x y == cQ_ xs x && bL_ xs x y == cL_ xs x)))) && (tt_ xs x == tt_ xs x && 0 + kk_ xs x y + rr_ xs x y == 0 + tt_ xs x))) = false := by
  rw [bp, bv, bq, bl, e0]; simp
 have ma : aM_ xs x y = moN (sF xs x) (sT xs x) 0 (gq_ xs x) (sS xs x) - moN (aP_ xs x y) (sT xs x) (aV_ xs x y) (aQ_ xs x y) (sS xs x) := rfl
 have mb : bM_ xs x y = moN (aP_ xs x y) (sT xs x) (aV_ xs x y) (aQ_ xs x y) (sS xs x) - moN (bP_ xs x y) (sT xs x) (bV_ xs x y) (bQ_ xs x y) (sS xs x) := rfl
 have mc : cM_ xs x = moN (sF xs x) (sT xs x) 0 (gq_ xs x) (sS xs x) - moN (cP_ xs x) (sT xs x) (cV_ xs x) (cQ_ xs x) (sS xs x) := rfl
 rw [bp, bv, bq] at mb
 have mm : aM_ xs x y + bM_ xs x y = cM_ xs x := by rw [ma, mb, mc]; omega
 have mr : -100000000 ≤ cM_ xs x ∧ cM_ xs x ≤ 100000000 := by
  have s1 := (okP_is.1 hP).1
  have s2 := (okP_is.1 (ri_ok hP t0.1 (by omega) : okP (cP_ xs x) (sT xs x) (cV_ xs x) (cQ_ xs x) (cL_ xs x) (tt_ xs x) (0 + tt_ xs x) (sS xs x) (sK xs x) = true)).1
  have q1 := mo_range s1
  have q2 : 0 ≤ moN (cP_ xs x) (sT xs x) (cV_ xs x) (cQ_ xs x) (sS xs x) ∧ moN (cP_ xs x) (sT xs x) (cV_ xs x) (cQ_ xs x) (sS xs x) ≤ 70000 := mo_range s2
  rw [mc]; omega
 have cM : (IntKind.i64.wrap (aM_ xs x y + bM_ xs x y) != cM_ xs x) = false := by rw [mm, w8 mr]; simp
 have de : (dP_ xs x y, riV (aP_ xs x y) (sS xs x) (sK xs x) (rr_ xs x y) (aP_ xs x y) 0 0 0, riQ (aP_ xs x y) (sS xs x) (sK xs x) (rr_ xs x y) (aP_ xs x y) 0 0 0, riL (aP_ xs x y) (sS xs x) (sK xs x) (rr_ xs x y) (aP_ xs x y) 0 0 0) = (aP_ xs x y, 0, 0, 0) := (ri_all).trans (it_rest _)
 have dp : dP_ xs x y = aP_ xs x y := congrArg (·.1) de
 have dv : riV (aP_ xs x y) (sS xs x) (sK xs x) (rr_ xs x y) (aP_ xs x y) 0 0 0 = 0 := congrArg (·.2.1) de
 have dq : riQ (aP_ xs x y) (sS xs x) (sK xs x) (rr_ xs x y) (aP_ xs x y) 0 0 0 = 0 := congrArg (·.2.2.1) de
 have dm : dM_ xs x y = 0 := by
  show moN (aP_ xs x y) (aP_ xs x y) 0 0 (sS xs x) - moN (dP_ xs x y) (aP_ xs x y) (riV (aP_ xs x y) (sS xs x) (sK xs x) (rr_ xs x y) (aP_ xs x y) 0 0 0) (riQ (aP_ xs x y) (sS xs x) (sK xs x) (rr_ xs x y) (aP_ xs x y) 0 0 0) (sS xs x) = 0
  rw [dp, dv, dq]; omega
 have r := mpK xs x y hT hA (by rw [hB]; simp) (decide_eq_false (by omega)) (decide_eq_false (by omega)) (by rw [w1]; exact decide_eq_true ⟨by omega, by omega⟩) n1 n2 n3 n4 n5 c0 cM (by rw [dm]; rfl) (by rw [dp]; simp) (by rw [e0]; simp)
 exact r
theorem moveParts_true (A0 : Option Addr) (len0 cap0 : Nat) (xs : List Int) (x y : Int) (w : World) (hl0 : xs.length = len0) (hi0 : ListIn w (rowA gI xs) len0 A0 cap0) (hw0 : ∀ m ∈ xs, rowW gI m) (_ : In64 x) (_ : In64 y) :
  Calls Try.prog 6 #[.slice A0 len0 cap0, .int .i64 x, .int .i64 y] w fun e w' => e = .returned (.bool true) ∧ Below w.heap.size w w' := by
 subst hl0
 exact knownR_law (law_parts xs x y) (LaidL.nil w) (.cons (.list hi0) (.cons (.val rfl) (.cons (.val rfl) .nil)))
end Go.Proofs.Ytcjlidciniiofaa
