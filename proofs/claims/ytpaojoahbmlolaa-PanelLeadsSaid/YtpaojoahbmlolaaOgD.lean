/- Layer 16: a list of orders. -/
import Derived.Test.YtpaojoahbmlolaaKA
import Derived.Test.YtpaojoahbmlolaaLU
import Derived.ProofKit
import Derived.IntWalk
namespace Go.Proofs.Ytpaojoahbmlolaa
open Go Go.RowKit
set_option linter.unusedVariables false
set_option linter.unusedSimpArgs false
set_option linter.unnecessarySimpa false
theorem qChk (a w y : Int) : Known Try.prog [] 11 [.agg #[.int .i64 a, .int .i64 w, .int .i64 y]] (.int .i64 (ckV a w y)) := by have k := pChk a w y; rw [pChk_is] at k; exact k
noncomputable def qChk_k : List Value → Option Value
  | [.agg ⟨[.int .i64 a, .int .i64 w, .int .i64 y]⟩] => some (.int .i64 (ckV a w y))
  | _ => none
theorem qChk_ok : ∀ args v, qChk_k args = some v → Known Try.prog [] 11 args v := by
  intro args v h
  unfold qChk_k at h
  split at h
  · injection h with h; subst h; exact qChk _ _ _
  · cases h
theorem qRchk (a w y : Int) : Known Try.prog [] 12 [.agg #[.int .i64 a, .int .i64 w, .int .i64 y]] (.int .i64 (ckV a w y)) := by have k := rChk a w y; rw [rChk_is] at k; exact k
noncomputable def qRchk_k : List Value → Option Value
  | [.agg ⟨[.int .i64 a, .int .i64 w, .int .i64 y]⟩] => some (.int .i64 (ckV a w y))
  | _ => none
theorem qRchk_ok : ∀ args v, qRchk_k args = some v → Known Try.prog [] 12 args v := by
  intro args v h
  unfold qRchk_k at h
  split at h
  · injection h with h; subst h; exact qRchk _ _ _
  · cases h
theorem qStep (a w y : Int) (hg : (decide (ckV a w y = 0)) = true) : Known Try.prog [] 42 [.agg #[.int .i64 a, .int .i64 w, .int .i64 y]] (.tuple #[.agg #[.int .i64 (a + y), .int .i64 w, .int .i64 (tkY a w y)], .int .i64 (tkB a w y)]) := pStep_is (of_decide_eq_true hg)
noncomputable def qStep_k : List Value → Option (Bool × Value)
  | [.agg ⟨[.int .i64 a, .int .i64 w, .int .i64 y]⟩] => some (decide (ckV a w y = 0), .tuple #[.agg #[.int .i64 (a + y), .int .i64 w, .int .i64 (tkY a w y)], .int .i64 (tkB a w y)])
  | _ => none
theorem qStep_ok : ∀ args v, qStep_k args = some (true, v) → Known Try.prog [] 42 args v := by
  intro args v h
  unfold qStep_k at h
  split at h
  · injection h with h; injection h with hg h; subst h; exact qStep _ _ _ hg
  · cases h
theorem qTick (a w y : Int) (hg : (decide (ckV a w y = 0)) = true) : Known Try.prog [] 43 [.agg #[.int .i64 a, .int .i64 w, .int .i64 y]] (.tuple #[.agg #[.int .i64 (a + y), .int .i64 w, .int .i64 (tkY a w y)], .int .i64 (tkB a w y)]) := rTick_is (of_decide_eq_true hg)
noncomputable def qTick_k : List Value → Option (Bool × Value)
  | [.agg ⟨[.int .i64 a, .int .i64 w, .int .i64 y]⟩] => some (decide (ckV a w y = 0), .tuple #[.agg #[.int .i64 (a + y), .int .i64 w, .int .i64 (tkY a w y)], .int .i64 (tkB a w y)])
  | _ => none
theorem qTick_ok : ∀ args v, qTick_k args = some (true, v) → Known Try.prog [] 43 args v := by
  intro args v h
  unfold qTick_k at h
  split at h
  · injection h with h; injection h with hg h; subst h; exact qTick _ _ _ hg
  · cases h
theorem qOb (a w y o : Int) (hg : (decide (ckV a w y = 0 ∧ 0 ≤ o ∧ o ≤ 4)) = true) : Known Try.prog [] 40 [.agg #[.int .i64 a, .int .i64 w, .int .i64 y], .int .i64 o] (.agg #[.int .i64 a, .int .i64 w, .int .i64 (obV a w y o)]) := by have h := of_decide_eq_true hg; exact pOb_is h.1 h.2
noncomputable def qOb_k : List Value → Option (Bool × Value)
  | [.agg ⟨[.int .i64 a, .int .i64 w, .int .i64 y]⟩, .int .i64 o] => some (decide (ckV a w y = 0 ∧ 0 ≤ o ∧ o ≤ 4), .agg #[.int .i64 a, .int .i64 w, .int .i64 (obV a w y o)])
  | _ => none
theorem qOb_ok : ∀ args v, qOb_k args = some (true, v) → Known Try.prog [] 40 args v := by
  intro args v h
  unfold qOb_k at h
  split at h
  · injection h with h; injection h with hg h; subst h; exact qOb _ _ _ _ hg
  · cases h
theorem qTo (a w y o : Int) (hg : (decide (ckV a w y = 0 ∧ 0 ≤ o ∧ o ≤ 4)) = true) : Known Try.prog [] 41 [.agg #[.int .i64 a, .int .i64 w, .int .i64 y], .int .i64 o] (.agg #[.int .i64 a, .int .i64 w, .int .i64 (obV a w y o)]) := by have h := of_decide_eq_true hg; exact rTo_is h.1 h.2
noncomputable def qTo_k : List Value → Option (Bool × Value)
  | [.agg ⟨[.int .i64 a, .int .i64 w, .int .i64 y]⟩, .int .i64 o] => some (decide (ckV a w y = 0 ∧ 0 ≤ o ∧ o ≤ 4), .agg #[.int .i64 a, .int .i64 w, .int .i64 (obV a w y o)])
  | _ => none
theorem qTo_ok : ∀ args v, qTo_k args = some (true, v) → Known Try.prog [] 41 args v := by
  intro args v h
  unfold qTo_k at h
  split at h
  · injection h with h; injection h with hg h; subst h; exact qTo _ _ _ _ hg
  · cases h
noncomputable def tabS : GTab := (GTab.fn1 11 qChk_k (GTab.fn1 12 qRchk_k (GTab.fn 42 qStep_k (GTab.fn 43 qTick_k (GTab.fn 40 qOb_k (GTab.fn 41 qTo_k (GTab.fn1 21 (fun l => match l with | [] => some (.bool true) | _ => none) GTab.none)))))))
theorem tabS_ok : GOk Try.prog [] tabS := (GOk.fn1 qChk_ok (GOk.fn1 qRchk_ok (GOk.fn qStep_ok (GOk.fn qTick_ok (GOk.fn qOb_ok (GOk.fn qTo_ok (GOk.fn1 (known0 knPanelKnown_e0) GOk.none)))))))
noncomputable def swA_hd (a w y : Int) (xs : List Int) : Hd := headD Try.prog [] tabS 3000 23 [.val (.agg #[.int .i64 a, .int .i64 w, .int .i64 y]), .list (rowA gI xs) xs.length] [(1, .b 0), (5, .b 0), (6, .stop)]
noncomputable def swA_S (a w y : Int) (xs : List Int) (y0 : Int) : St := ((entryK 6 46 [27, 9, 25, 29, 24, 28, 26, 30] 63 62 (swA_hd a w y xs).s).updF [(23, .int .i64 y0)] [])
theorem swA_n (a w y : Int) (xs : List Int) (h1 : ckV a w y = 0) (hx : xs.length ≤ 1000) : 6 = (swA_hd a w y xs).s.hs.next := by kernel_rfl
theorem swA_r (a w y : Int) (xs : List Int) (h1 : ckV a w y = 0) (hx : xs.length ≤ 1000) : (swA_hd a w y xs).s.hs.rd < bitOf 6 := by
  have e : (swA_hd a w y xs).s.hs.rd = 34 := by kernel_rfl
  rw [e]; exact blt_iff.1 (by kernel_rfl)
theorem swA_w (a w y : Int) (xs : List Int) (h1 : ckV a w y = 0) (hx : xs.length ≤ 1000) : (swA_hd a w y xs).s.hs.wr < bitOf 6 := by
  have e : (swA_hd a w y xs).s.hs.wr = 62 := by kernel_rfl
  rw [e]; exact blt_iff.1 (by kernel_rfl)
theorem swA_e0 (a w y : Int) (xs : List Int) (h1 : ckV a w y = 0) (hx : xs.length ≤ 1000) : canonS 6 46 [] [27, 9, 25, 29, 24, 28, 26, 30] 6 63 62 (swA_hd a w y xs).s = some (swA_S a w y xs ((0 : Int))) := by kernel_rfl
theorem swA_e1 (a w y : Int) (xs : List Int) (h1 : ckV a w y = 0) (hx : xs.length ≤ 1000) : canonOk 6 46 [] 6 (swA_hd a w y xs).s = true := canonOkF_eq.symm.trans (by kernel_rfl)
theorem swA_p0 (a w y : Int) (xs : List Int) (h1 : ckV a w y = 0) (hx : xs.length ≤ 1000) (y0 : Int) (hi : (decide (0 ≤ y0 ∧ y0 ≤ 1001)) = true) (hq0 : (decide (y0 < (↑xs.length : Int))) = true) (hq1 : (decide ((0 : Int) ≤ y0)) = true) (hq2 : (decide (el xs y0 ≥ (0 : Int))) = true) (hq3 : (!decide (el xs y0 < (5 : Int))) = true) : bodyK Try.prog ([] : Vars).length tabS 3000 (swA_hd a w y xs) (swA_S a w y xs y0 ) [(0, .b 1), (1, .b 1), (2, .b 1), (3, .vals ([Value.int IntKind.i64 (el xs y0)])), (4, .b 1), (7, .b 1)] 6 46 [27, 9, 25, 29, 24, 28, 26, 30] 46 63 62 = some (.ret, bodySt (bodyK Try.prog ([] : Vars).length tabS 3000 (swA_hd a w y xs) (swA_S a w y xs y0 ) [(0, .b 1), (1, .b 1), (2, .b 1), (3, .vals ([Value.int IntKind.i64 (el xs y0)])), (4, .b 1), (7, .b 1)] 6 46 [27, 9, 25, 29, 24, 28, 26, 30] 46 63 62), [(!decide (el xs y0 < (5 : Int))) = true, (decide (el xs y0 ≥ (0 : Int))) = true, segC (rowA (gI) (xs)) (((y0).toNat) * 1 + 0) 1 = some ([Value.int IntKind.i64 (el xs y0)]), (decide (y0 < (↑xs.length : Int))) = true, (decide ((0 : Int) ≤ y0)) = true, (decide (y0 < (↑xs.length : Int))) = true]) := by kernel_rfl
theorem swA_q0 (a w y : Int) (xs : List Int) (h1 : ckV a w y = 0) (hx : xs.length ≤ 1000) (y0 : Int) (hi : (decide (0 ≤ y0 ∧ y0 ≤ 1001)) = true) (hq0 : (decide (y0 < (↑xs.length : Int))) = true) (hq1 : (decide ((0 : Int) ≤ y0)) = true) (hq2 : (decide (el xs y0 ≥ (0 : Int))) = true) (hq3 : (!decide (el xs y0 < (5 : Int))) = true) : (bodySt (bodyK Try.prog ([] : Vars).length tabS 3000 (swA_hd a w y xs) (swA_S a w y xs y0 ) [(0, .b 1), (1, .b 1), (2, .b 1), (3, .vals ([Value.int IntKind.i64 (el xs y0)])), (4, .b 1), (7, .b 1)] 6 46 [27, 9, 25, 29, 24, 28, 26, 30] 46 63 62)).hs.next = 46 := by kernel_rfl
theorem swA_p1 (a w y : Int) (xs : List Int) (h1 : ckV a w y = 0) (hx : xs.length ≤ 1000) (y0 : Int) (hi : (decide (0 ≤ y0 ∧ y0 ≤ 1001)) = true) (hq0 : (decide (y0 < (↑xs.length : Int))) = true) (hq1 : (decide ((0 : Int) ≤ y0)) = true) (hq2 : (decide (el xs y0 ≥ (0 : Int))) = true) (hq3 : (!decide (el xs y0 < (5 : Int))) = false) : bodyK Try.prog ([] : Vars).length tabS 3000 (swA_hd a w y xs) (swA_S a w y xs y0 ) [(0, .b 1), (1, .b 1), (2, .b 1), (3, .vals ([Value.int IntKind.i64 (el xs y0)])), (4, .b 1), (7, .b 0)] 6 46 [27, 9, 25, 29, 24, 28, 26, 30] 6 63 62 = some (.normal, (swA_S a w y xs (IntKind.i64.wrap (y0 + (1 : Int)))), [(!decide (el xs y0 < (5 : Int))) = false, (decide (el xs y0 ≥ (0 : Int))) = true, segC (rowA (gI) (xs)) (((y0).toNat) * 1 + 0) 1 = some ([Value.int IntKind.i64 (el xs y0)]), (decide (y0 < (↑xs.length : Int))) = true, (decide ((0 : Int) ≤ y0)) = true, (decide (y0 < (↑xs.length : Int))) = true]) := by kernel_rfl
theorem swA_p2 (a w y : Int) (xs : List Int) (h1 : ckV a w y = 0) (hx : xs.length ≤ 1000) (y0 : Int) (hi : (decide (0 ≤ y0 ∧ y0 ≤ 1001)) = true) (hq0 : (decide (y0 < (↑xs.length : Int))) = true) (hq1 : (decide ((0 : Int) ≤ y0)) = true) (hq2 : (decide (el xs y0 ≥ (0 : Int))) = false) : bodyK Try.prog ([] : Vars).length tabS 3000 (swA_hd a w y xs) (swA_S a w y xs y0 ) [(0, .b 1), (1, .b 1), (2, .b 1), (3, .vals ([Value.int IntKind.i64 (el xs y0)])), (4, .b 0)] 6 46 [27, 9, 25, 29, 24, 28, 26, 30] 46 63 62 = some (.ret, bodySt (bodyK Try.prog ([] : Vars).length tabS 3000 (swA_hd a w y xs) (swA_S a w y xs y0 ) [(0, .b 1), (1, .b 1), (2, .b 1), (3, .vals ([Value.int IntKind.i64 (el xs y0)])), (4, .b 0)] 6 46 [27, 9, 25, 29, 24, 28, 26, 30] 46 63 62), [(decide (el xs y0 ≥ (0 : Int))) = false, segC (rowA (gI) (xs)) (((y0).toNat) * 1 + 0) 1 = some ([Value.int IntKind.i64 (el xs y0)]), (decide (y0 < (↑xs.length : Int))) = true, (decide ((0 : Int) ≤ y0)) = true, (decide (y0 < (↑xs.length : Int))) = true]) := by kernel_rfl
theorem swA_q2 (a w y : Int) (xs : List Int) (h1 : ckV a w y = 0) (hx : xs.length ≤ 1000) (y0 : Int) (hi : (decide (0 ≤ y0 ∧ y0 ≤ 1001)) = true) (hq0 : (decide (y0 < (↑xs.length : Int))) = true) (hq1 : (decide ((0 : Int) ≤ y0)) = true) (hq2 : (decide (el xs y0 ≥ (0 : Int))) = false) : (bodySt (bodyK Try.prog ([] : Vars).length tabS 3000 (swA_hd a w y xs) (swA_S a w y xs y0 ) [(0, .b 1), (1, .b 1), (2, .b 1), (3, .vals ([Value.int IntKind.i64 (el xs y0)])), (4, .b 0)] 6 46 [27, 9, 25, 29, 24, 28, 26, 30] 46 63 62)).hs.next = 46 := by kernel_rfl
theorem swA_p3 (a w y : Int) (xs : List Int) (h1 : ckV a w y = 0) (hx : xs.length ≤ 1000) (y0 : Int) (hi : (decide (0 ≤ y0 ∧ y0 ≤ 1001)) = true) (hq0 : (decide (y0 < (↑xs.length : Int))) = false) : bodyK Try.prog ([] : Vars).length tabS 3000 (swA_hd a w y xs) (swA_S a w y xs y0 ) [(0, .b 0)] 6 46 [27, 9, 25, 29, 24, 28, 26, 30] 46 63 62 = some (.exit 0, bodySt (bodyK Try.prog ([] : Vars).length tabS 3000 (swA_hd a w y xs) (swA_S a w y xs y0 ) [(0, .b 0)] 6 46 [27, 9, 25, 29, 24, 28, 26, 30] 46 63 62), [(decide (y0 < (↑xs.length : Int))) = false]) := by kernel_rfl
theorem swA_q3 (a w y : Int) (xs : List Int) (h1 : ckV a w y = 0) (hx : xs.length ≤ 1000) (y0 : Int) (hi : (decide (0 ≤ y0 ∧ y0 ≤ 1001)) = true) (hq0 : (decide (y0 < (↑xs.length : Int))) = false) : (bodySt (bodyK Try.prog ([] : Vars).length tabS 3000 (swA_hd a w y xs) (swA_S a w y xs y0 ) [(0, .b 0)] 6 46 [27, 9, 25, 29, 24, 28, 26, 30] 46 63 62)).hs.next = 46 := by kernel_rfl
theorem swA_d0 (a w y : Int) (xs : List Int) (h1 : ckV a w y = 0) (hx : xs.length ≤ 1000) (y0 : Int) (hi : (decide (0 ≤ y0 ∧ y0 ≤ 1001)) = true) (hq0 : (decide (y0 < (↑xs.length : Int))) = true) : (decide ((0 : Int) ≤ y0)) = true := by
  rcases Bool.eq_false_or_eq_true (decide ((0 : Int) ≤ y0)) with h | h
  · exact h
  · exfalso; (first | (simp_all only [Bool.and_eq_true, Bool.not_eq_true', Bool.false_eq_true, Bool.true_eq_false, reduceCtorEq]; done) | (simp_all; done) | (simp only [sx, sy, eq_self, ne_eq, IntKind.wrap_i64, wrapU64, Int.reduceLT] at * <;> first | contradiction | omega))
def swA_X : Nat → VX
  | 0 => .ret
  | 1 => .ret
  | 2 => .exit 0
  | _ => .normal
noncomputable def swA_E (kE : Nat) (a w y : Int) (xs : List Int) (y0 : Int) : St := match kE with
  | 0 => bodySt (bodyK Try.prog ([] : Vars).length tabS 3000 (swA_hd a w y xs) (swA_S a w y xs y0 ) [(0, .b 1), (1, .b 1), (2, .b 1), (3, .vals ([Value.int IntKind.i64 (el xs y0)])), (4, .b 1), (7, .b 1)] 6 46 [27, 9, 25, 29, 24, 28, 26, 30] 46 63 62)
  | 1 => bodySt (bodyK Try.prog ([] : Vars).length tabS 3000 (swA_hd a w y xs) (swA_S a w y xs y0 ) [(0, .b 1), (1, .b 1), (2, .b 1), (3, .vals ([Value.int IntKind.i64 (el xs y0)])), (4, .b 0)] 6 46 [27, 9, 25, 29, 24, 28, 26, 30] 46 63 62)
  | 2 => bodySt (bodyK Try.prog ([] : Vars).length tabS 3000 (swA_hd a w y xs) (swA_S a w y xs y0 ) [(0, .b 0)] 6 46 [27, 9, 25, 29, 24, 28, 26, 30] 46 63 62)
  | _ => (swA_hd a w y xs).s
noncomputable def swA_f (a w y : Int) (xs : List Int) : Nat → Int → Option (Nat × (Int))
  | 0, _ => none
  | fu + 1, y0 => (bif (decide (0 ≤ y0 ∧ y0 ≤ 1001)) then (bif (decide (y0 < (↑xs.length : Int))) then (bif (decide (el xs y0 ≥ (0 : Int))) then (bif (!decide (el xs y0 < (5 : Int))) then some (0, y0) else swA_f a w y xs fu (IntKind.i64.wrap (y0 + (1 : Int)))) else some (1, y0)) else some (2, y0)) else none)
theorem swA_fs (a w y : Int) (xs : List Int) (fu : Nat) (y0 : Int) : swA_f a w y xs (fu + 1) y0 = (bif (decide (0 ≤ y0 ∧ y0 ≤ 1001)) then (bif (decide (y0 < (↑xs.length : Int))) then (bif (decide (el xs y0 ≥ (0 : Int))) then (bif (!decide (el xs y0 < (5 : Int))) then some (0, y0) else swA_f a w y xs fu (IntKind.i64.wrap (y0 + (1 : Int)))) else some (1, y0)) else some (2, y0)) else none) := rfl
theorem swA_f0 (a w y : Int) (xs : List Int) (y0 : Int) : swA_f a w y xs 0 y0 = none := rfl
theorem swA_loop (a w y : Int) (xs : List Int) (h1 : ckV a w y = 0) (hx : xs.length ≤ 1000) : ∀ (fu : Nat) (y0 : Int) (kk : Nat) (zz : Int), swA_f a w y xs fu y0 = some (kk, zz) → VStep (swA_hd a w y xs).s.hs (swA_S a w y xs y0 ).hs → RoundsC Try.prog [] 6 46 (swA_hd a w y xs).s.hs (swA_hd a w y xs).ro (swA_hd a w y xs).a (swA_S a w y xs y0 ) (swA_X kk) (swA_E kk a w y xs zz ) ∧ ((swA_E kk a w y xs zz )).hs.next = 46 := by
  intro fu
  induction fu with
  | zero =>
    intro y0 kk zz hf hSz
    have hf := (swA_f0 a w y xs y0 ).symm.trans hf
    simp at hf
  | succ fu ih =>
    intro y0 kk zz hf hSz
    have hf := (swA_fs a w y xs fu y0 ).symm.trans hf
    rcases bif_or hf with ⟨hi, hf⟩ | ⟨hi, hf⟩
    case inr => cases hf
    rcases bif_or hf with ⟨hq0, hf⟩ | ⟨hq0, hf⟩
    ·
      have hq1 := swA_d0 a w y xs h1  hx  y0 hi hq0 
      rcases bif_or hf with ⟨hq2, hf⟩ | ⟨hq2, hf⟩
      ·
        rcases bif_or hf with ⟨hq3, hf⟩ | ⟨hq3, hf⟩
        ·
          injection hf with hf; injection hf with e1 e2; subst e1; subst e2; have hb1 := swA_p0 a w y xs h1  hx  y0 hi  hq0 hq1 hq2 hq3; have hb2 := body_canon hb1; have hb3 := hb2 ⟨hq3, hq2, (seg_row (g := (gI)) (k := 1) (fun _ => rfl) (by first | exact of_decide_eq_true hq1 | simpa using of_decide_eq_true hq1) (by first | exact of_decide_eq_true hq0 | simpa using of_decide_eq_true hq0) (by decide) rfl), hq0, hq1, hq0, trivial⟩; obtain ⟨sz1, kz1, kz2, kz3⟩ := hb3; exact ⟨rounds_end mix (T := tabS) tabS_ok (swA_n a w y xs h1  hx  ) (swA_r a w y xs h1  hx  ) (swA_w a w y xs h1  hx  ) kz1 (fun h => by cases h) hSz kz2 kz3, swA_q0 a w y xs h1  hx  y0 hi  hq0 hq1 hq2 hq3⟩
        ·
          have hb1 := swA_p1 a w y xs h1  hx  y0 hi  hq0 hq1 hq2 hq3; have hb2 := body_canon hb1; have hb3 := hb2 ⟨hq3, hq2, (seg_row (g := (gI)) (k := 1) (fun _ => rfl) (by first | exact of_decide_eq_true hq1 | simpa using of_decide_eq_true hq1) (by first | exact of_decide_eq_true hq0 | simpa using of_decide_eq_true hq0) (by decide) rfl), hq0, hq1, hq0, trivial⟩; obtain ⟨sz1, kz1, kz2, kz3⟩ := hb3; obtain ⟨gz1, gz2⟩ := ih (IntKind.i64.wrap (y0 + (1 : Int))) kk zz hf (rounds_step mix (T := tabS) tabS_ok (swA_n a w y xs h1  hx  ) (swA_r a w y xs h1  hx  ) (swA_w a w y xs h1  hx  ) kz1 hSz kz2 kz3); exact ⟨rounds_next mix (T := tabS) tabS_ok (swA_n a w y xs h1  hx  ) (swA_r a w y xs h1  hx  ) (swA_w a w y xs h1  hx  ) kz1 hSz kz2 kz3 (fun _ => gz1), gz2⟩
      ·
        injection hf with hf; injection hf with e1 e2; subst e1; subst e2; have hb1 := swA_p2 a w y xs h1  hx  y0 hi  hq0 hq1 hq2; have hb2 := body_canon hb1; have hb3 := hb2 ⟨hq2, (seg_row (g := (gI)) (k := 1) (fun _ => rfl) (by first | exact of_decide_eq_true hq1 | simpa using of_decide_eq_true hq1) (by first | exact of_decide_eq_true hq0 | simpa using of_decide_eq_true hq0) (by decide) rfl), hq0, hq1, hq0, trivial⟩; obtain ⟨sz1, kz1, kz2, kz3⟩ := hb3; exact ⟨rounds_end mix (T := tabS) tabS_ok (swA_n a w y xs h1  hx  ) (swA_r a w y xs h1  hx  ) (swA_w a w y xs h1  hx  ) kz1 (fun h => by cases h) hSz kz2 kz3, swA_q2 a w y xs h1  hx  y0 hi  hq0 hq1 hq2⟩
    ·
      injection hf with hf; injection hf with e1 e2; subst e1; subst e2; have hb1 := swA_p3 a w y xs h1  hx  y0 hi  hq0; have hb2 := body_canon hb1; have hb3 := hb2 ⟨hq0, trivial⟩; obtain ⟨sz1, kz1, kz2, kz3⟩ := hb3; exact ⟨rounds_end mix (T := tabS) tabS_ok (swA_n a w y xs h1  hx  ) (swA_r a w y xs h1  hx  ) (swA_w a w y xs h1  hx  ) kz1 (fun h => by cases h) hSz kz2 kz3, swA_q3 a w y xs h1  hx  y0 hi  hq0⟩
theorem swA_ok (a w y : Int) (xs : List Int) (h1 : ckV a w y = 0) (hx : xs.length ≤ 1000) (fu kk : Nat) (zz : Int) (hf : swA_f a w y xs fu ((0 : Int)) = some (kk, zz)) : ∀ B : Bd, B.L = [] → LoopOk Try.prog B (swA_hd a w y xs).ro (swA_hd a w y xs).a (swA_hd a w y xs).s (swA_X kk) (swA_E kk a w y xs zz ) := by
  have hSz := begin_step (swA_n a w y xs h1  hx  ) (swA_r a w y xs h1  hx  ) (swA_w a w y xs h1  hx  ) (swA_e0 a w y xs h1  hx  ) (swA_e1 a w y xs h1  hx  )
  obtain ⟨gz1, gz2⟩ := swA_loop a w y xs h1  hx  fu ((0 : Int)) kk zz hf hSz
  exact rounds_ok (swA_n a w y xs h1  hx  ) (Nat.le_of_ble_eq_true (by kernel_rfl)) gz2 (rounds_begin (swA_n a w y xs h1  hx  ) (swA_r a w y xs h1  hx  ) (swA_w a w y xs h1  hx  ) (swA_e0 a w y xs h1  hx  ) (swA_e1 a w y xs h1  hx  ) (fun _ => gz1))

end Go.Proofs.Ytpaojoahbmlolaa
