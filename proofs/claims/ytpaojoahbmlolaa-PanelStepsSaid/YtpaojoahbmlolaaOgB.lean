/- Layer 16: PanelSteps: loops. -/
import Derived.Test.YtpaojoahbmlolaaKA
import Derived.ProofKit
import Derived.IntWalk
namespace Go.Proofs.Ytpaojoahbmlolaa
open Go Go.RowKit
set_option linter.unusedVariables false
set_option linter.unusedSimpArgs false
set_option linter.unnecessarySimpa false
theorem qChk (a w y : Int) : Known Try.prog [] 11 [.agg #[.int .i64 a, .int .i64 w, .int .i64 y]] (.int .i64 (ckV a w y)) := by have k := pChk a w y; rw [pChk_is] at k; exact k
noncomputable def qChk_k : List Value → Option Value
  | [.agg ⟨[.int .i64 a, .int .i64 w, .int .i64 y]⟩] => some (.int .i64 (ckV a w y))
  | _ => none
theorem qChk_ok : ∀ args v, qChk_k args = some v → Known Try.prog [] 11 args v := by
  intro args v h
  unfold qChk_k at h
  split at h
  · injection h with h; subst h; exact qChk _ _ _
  · cases h
theorem qRchk (a w y : Int) : Known Try.prog [] 12 [.agg #[.int .i64 a, .int .i64 w, .int .i64 y]] (.int .i64 (ckV a w y)) := by have k := rChk a w y; rw [rChk_is] at k; exact k
noncomputable def qRchk_k : List Value → Option Value
  | [.agg ⟨[.int .i64 a, .int .i64 w, .int .i64 y]⟩] => some (.int .i64 (ckV a w y))
  | _ => none
theorem qRchk_ok : ∀ args v, qRchk_k args = some v → Known Try.prog [] 12 args v := by
  intro args v h
  unfold qRchk_k at h
  split at h
  · injection h with h; subst h; exact qRchk _ _ _
  · cases h
theorem qStep (a w y : Int) (hg : (decide (ckV a w y = 0)) = true) : Known Try.prog [] 42 [.agg #[.int .i64 a, .int .i64 w, .int .i64 y]] (.tuple #[.agg #[.int .i64 (a + y), .int .i64 w, .int .i64 (tkY a w y)], .int .i64 (tkB a w y)]) := pStep_is (of_decide_eq_true hg)
noncomputable def qStep_k : List Value → Option (Bool × Value)
  | [.agg ⟨[.int .i64 a, .int .i64 w, .int .i64 y]⟩] => some (decide (ckV a w y = 0), .tuple #[.agg #[.int .i64 (a + y), .int .i64 w, .int .i64 (tkY a w y)], .int .i64 (tkB a w y)])
  | _ => none
theorem qStep_ok : ∀ args v, qStep_k args = some (true, v) → Known Try.prog [] 42 args v := by
  intro args v h
  unfold qStep_k at h
  split at h
  · injection h with h; injection h with hg h; subst h; exact qStep _ _ _ hg
  · cases h
theorem qTick (a w y : Int) (hg : (decide (ckV a w y = 0)) = true) : Known Try.prog [] 43 [.agg #[.int .i64 a, .int .i64 w, .int .i64 y]] (.tuple #[.agg #[.int .i64 (a + y), .int .i64 w, .int .i64 (tkY a w y)], .int .i64 (tkB a w y)]) := rTick_is (of_decide_eq_true hg)
noncomputable def qTick_k : List Value → Option (Bool × Value)
  | [.agg ⟨[.int .i64 a, .int .i64 w, .int .i64 y]⟩] => some (decide (ckV a w y = 0), .tuple #[.agg #[.int .i64 (a + y), .int .i64 w, .int .i64 (tkY a w y)], .int .i64 (tkB a w y)])
  | _ => none
theorem qTick_ok : ∀ args v, qTick_k args = some (true, v) → Known Try.prog [] 43 args v := by
  intro args v h
  unfold qTick_k at h
  split at h
  · injection h with h; injection h with hg h; subst h; exact qTick _ _ _ hg
  · cases h
theorem qOb (a w y o : Int) (hg : (decide (ckV a w y = 0 ∧ 0 ≤ o ∧ o ≤ 4)) = true) : Known Try.prog [] 40 [.agg #[.int .i64 a, .int .i64 w, .int .i64 y], .int .i64 o] (.agg #[.int .i64 a, .int .i64 w, .int .i64 (obV a w y o)]) := by have h := of_decide_eq_true hg; exact pOb_is h.1 h.2
noncomputable def qOb_k : List Value → Option (Bool × Value)
  | [.agg ⟨[.int .i64 a, .int .i64 w, .int .i64 y]⟩, .int .i64 o] => some (decide (ckV a w y = 0 ∧ 0 ≤ o ∧ o ≤ 4), .agg #[.int .i64 a, .int .i64 w, .int .i64 (obV a w y o)])
  | _ => none
theorem qOb_ok : ∀ args v, qOb_k args = some (true, v) → Known Try.prog [] 40 args v := by
  intro args v h
  unfold qOb_k at h
  split at h
  · injection h with h; injection h with hg h; subst h; exact qOb _ _ _ _ hg
  · cases h
theorem qTo (a w y o : Int) (hg : (decide (ckV a w y = 0 ∧ 0 ≤ o ∧ o ≤ 4)) = true) : Known Try.prog [] 41 [.agg #[.int .i64 a, .int .i64 w, .int .i64 y], .int .i64 o] (.agg #[.int .i64 a, .int .i64 w, .int .i64 (obV a w y o)]) := by have h := of_decide_eq_true hg; exact rTo_is h.1 h.2
noncomputable def qTo_k : List Value → Option (Bool × Value)
  | [.agg ⟨[.int .i64 a, .int .i64 w, .int .i64 y]⟩, .int .i64 o] => some (decide (ckV a w y = 0 ∧ 0 ≤ o ∧ o ≤ 4), .agg #[.int .i64 a, .int .i64 w, .int .i64 (obV a w y o)])
  | _ => none
theorem qTo_ok : ∀ args v, qTo_k args = some (true, v) → Known Try.prog [] 41 args v := by
  intro args v h
  unfold qTo_k at h
  split at h
  · injection h with h; injection h with hg h; subst h; exact qTo _ _ _ _ hg
  · cases h
noncomputable def tabB : GTab := (GTab.fn1 11 qChk_k (GTab.fn1 12 qRchk_k (GTab.fn 42 qStep_k (GTab.fn 43 qTick_k (GTab.fn 40 qOb_k (GTab.fn 41 qTo_k (GTab.fn1 21 (fun l => match l with | [] => some (.bool true) | _ => none) GTab.none)))))))
theorem tabB_ok : GOk Try.prog [] tabB := (GOk.fn1 qChk_ok (GOk.fn1 qRchk_ok (GOk.fn qStep_ok (GOk.fn qTick_ok (GOk.fn qOb_ok (GOk.fn qTo_ok (GOk.fn1 (known0 knPanelKnown_e0) GOk.none)))))))
noncomputable def pRn_hd (a w y t : Int) : Hd := headO Try.prog [] tabB 3000 17 [.agg #[.int .i64 a, .int .i64 w, .int .i64 y], .int .i64 t] [(1, .b 0), (2, .b 1), (5, .b 0), (6, .stop)]
noncomputable def pRn_S (a w y t : Int) (y0 : Int) (y1 : Int) (y2 : Int) : St := ((entryK 2 42 [23, 19, 25, 21, 24, 20, 22] 3 3 (pRn_hd a w y t).s).updF [(18, .int .i64 y0)] [(0, 0, .int .i64 y1), (0, 2, .int .i64 y2)])
theorem pRn_n (a w y t : Int) (h1 : ckV a w y = 0) (h2 : 0 ≤ t ∧ t ≤ 1000) : 2 = (pRn_hd a w y t).s.hs.next := by kernel_rfl
theorem pRn_r (a w y t : Int) (h1 : ckV a w y = 0) (h2 : 0 ≤ t ∧ t ≤ 1000) : (pRn_hd a w y t).s.hs.rd < bitOf 2 := blt_iff.1 (by kernel_rfl)
theorem pRn_w (a w y t : Int) (h1 : ckV a w y = 0) (h2 : 0 ≤ t ∧ t ≤ 1000) : (pRn_hd a w y t).s.hs.wr < bitOf 2 := blt_iff.1 (by kernel_rfl)
theorem pRn_e0 (a w y t : Int) (h1 : ckV a w y = 0) (h2 : 0 ≤ t ∧ t ≤ 1000) : canonS 2 42 [] [23, 19, 25, 21, 24, 20, 22] 2 3 3 (pRn_hd a w y t).s = some (pRn_S a w y t ((0 : Int)) (a) (y)) := by kernel_rfl
theorem pRn_e1 (a w y t : Int) (h1 : ckV a w y = 0) (h2 : 0 ≤ t ∧ t ≤ 1000) : canonOk 2 42 [] 2 (pRn_hd a w y t).s = true := by kernel_rfl
theorem pRn_p0 (a w y t : Int) (h1 : ckV a w y = 0) (h2 : 0 ≤ t ∧ t ≤ 1000) (y0 : Int) (y1 : Int) (y2 : Int) (hi : (decide (ckV y1 w y2 = 0 ∧ 0 ≤ y0 ∧ y0 ≤ 1000)) = true) (hq0 : (decide (y0 < t)) = true) (hq1 : (decide (ckV y1 w y2 = (0 : Int))) = true) : bodyK Try.prog ([] : Vars).length tabB 3000 (pRn_hd a w y t) (pRn_S a w y t y0 y1 y2 ) [(0, .b 1), (1, .b 1)] 2 42 [23, 19, 25, 21, 24, 20, 22] 2 3 3 = some (.normal, (pRn_S a w y t (IntKind.i64.wrap (y0 + (1 : Int))) (y1 + y2) (tkY y1 w y2)), [(decide (ckV y1 w y2 = (0 : Int))) = true, (decide (y0 < t)) = true]) := by kernel_rfl
theorem pRn_p1 (a w y t : Int) (h1 : ckV a w y = 0) (h2 : 0 ≤ t ∧ t ≤ 1000) (y0 : Int) (y1 : Int) (y2 : Int) (hi : (decide (ckV y1 w y2 = 0 ∧ 0 ≤ y0 ∧ y0 ≤ 1000)) = true) (hq0 : (decide (y0 < t)) = false) : bodyK Try.prog ([] : Vars).length tabB 3000 (pRn_hd a w y t) (pRn_S a w y t y0 y1 y2 ) [(0, .b 0)] 2 42 [23, 19, 25, 21, 24, 20, 22] 42 3 3 = some (.exit 0, bodySt (bodyK Try.prog ([] : Vars).length tabB 3000 (pRn_hd a w y t) (pRn_S a w y t y0 y1 y2 ) [(0, .b 0)] 2 42 [23, 19, 25, 21, 24, 20, 22] 42 3 3), [(decide (y0 < t)) = false]) := by kernel_rfl
theorem pRn_q1 (a w y t : Int) (h1 : ckV a w y = 0) (h2 : 0 ≤ t ∧ t ≤ 1000) (y0 : Int) (y1 : Int) (y2 : Int) (hi : (decide (ckV y1 w y2 = 0 ∧ 0 ≤ y0 ∧ y0 ≤ 1000)) = true) (hq0 : (decide (y0 < t)) = false) : (bodySt (bodyK Try.prog ([] : Vars).length tabB 3000 (pRn_hd a w y t) (pRn_S a w y t y0 y1 y2 ) [(0, .b 0)] 2 42 [23, 19, 25, 21, 24, 20, 22] 42 3 3)).hs.next = 42 := by kernel_rfl
theorem pRn_d0 (a w y t : Int) (h1 : ckV a w y = 0) (h2 : 0 ≤ t ∧ t ≤ 1000) (y0 : Int) (y1 : Int) (y2 : Int) (hi : (decide (ckV y1 w y2 = 0 ∧ 0 ≤ y0 ∧ y0 ≤ 1000)) = true) (hq0 : (decide (y0 < t)) = true) : (decide (ckV y1 w y2 = (0 : Int))) = true := by
  rcases Bool.eq_false_or_eq_true (decide (ckV y1 w y2 = (0 : Int))) with h | h
  · exact h
  · exfalso; (simp only [sx, sy, eq_self, ne_eq, IntKind.wrap_i64, wrapU64, Int.reduceLT] at * <;> first | contradiction | omega)
def pRn_X : Nat → VX
  | 0 => .exit 0
  | _ => .normal
noncomputable def pRn_E (kE : Nat) (a w y t : Int) (y0 : Int) (y1 : Int) (y2 : Int) : St := match kE with
  | 0 => bodySt (bodyK Try.prog ([] : Vars).length tabB 3000 (pRn_hd a w y t) (pRn_S a w y t y0 y1 y2 ) [(0, .b 0)] 2 42 [23, 19, 25, 21, 24, 20, 22] 42 3 3)
  | _ => (pRn_hd a w y t).s
noncomputable def pRn_f (a w y t : Int) : Nat → Int → Int → Int → Option (Nat × (Int × Int × Int))
  | 0, _, _, _ => none
  | fu + 1, y0, y1, y2 => (bif (decide (ckV y1 w y2 = 0 ∧ 0 ≤ y0 ∧ y0 ≤ 1000)) then (bif (decide (y0 < t)) then pRn_f a w y t fu (IntKind.i64.wrap (y0 + (1 : Int))) (y1 + y2) (tkY y1 w y2) else some (0, (y0, y1, y2))) else none)
theorem pRn_fs (a w y t : Int) (fu : Nat) (y0 : Int) (y1 : Int) (y2 : Int) : pRn_f a w y t (fu + 1) y0 y1 y2 = (bif (decide (ckV y1 w y2 = 0 ∧ 0 ≤ y0 ∧ y0 ≤ 1000)) then (bif (decide (y0 < t)) then pRn_f a w y t fu (IntKind.i64.wrap (y0 + (1 : Int))) (y1 + y2) (tkY y1 w y2) else some (0, (y0, y1, y2))) else none) := rfl
theorem pRn_f0 (a w y t : Int) (y0 : Int) (y1 : Int) (y2 : Int) : pRn_f a w y t 0 y0 y1 y2 = none := rfl
theorem pRn_loop (a w y t : Int) (h1 : ckV a w y = 0) (h2 : 0 ≤ t ∧ t ≤ 1000) : ∀ (fu : Nat) (y0 : Int) (y1 : Int) (y2 : Int) (kk : Nat) (zz : Int × Int × Int), pRn_f a w y t fu y0 y1 y2 = some (kk, zz) → VStep (pRn_hd a w y t).s.hs (pRn_S a w y t y0 y1 y2 ).hs → RoundsC Try.prog [] 2 42 (pRn_hd a w y t).s.hs (pRn_hd a w y t).ro (pRn_hd a w y t).a (pRn_S a w y t y0 y1 y2 ) (pRn_X kk) (pRn_E kk a w y t zz.1 zz.2.1 zz.2.2 ) ∧ ((pRn_E kk a w y t zz.1 zz.2.1 zz.2.2 )).hs.next = 42 := by
  intro fu
  induction fu with
  | zero =>
    intro y0 y1 y2 kk zz hf hSz
    have hf := (pRn_f0 a w y t y0 y1 y2 ).symm.trans hf
    simp at hf
  | succ fu ih =>
    intro y0 y1 y2 kk zz hf hSz
    have hf := (pRn_fs a w y t fu y0 y1 y2 ).symm.trans hf
    rcases bif_or hf with ⟨hi, hf⟩ | ⟨hi, hf⟩
    case inr => cases hf
    rcases bif_or hf with ⟨hq0, hf⟩ | ⟨hq0, hf⟩
    ·
      have hq1 := pRn_d0 a w y t h1  h2  y0 y1 y2 hi hq0 
      obtain ⟨sz1, kz1, kz2, kz3⟩ := body_canon (pRn_p0 a w y t h1  h2  y0 y1 y2 hi  hq0 hq1) ⟨hq1, hq0, trivial⟩; obtain ⟨gz1, gz2⟩ := ih (IntKind.i64.wrap (y0 + (1 : Int))) (y1 + y2) (tkY y1 w y2) kk zz hf (rounds_step mix tabB_ok (pRn_n a w y t h1  h2  ) (pRn_r a w y t h1  h2  ) (pRn_w a w y t h1  h2  ) kz1 hSz kz2 kz3); exact ⟨rounds_next mix tabB_ok (pRn_n a w y t h1  h2  ) (pRn_r a w y t h1  h2  ) (pRn_w a w y t h1  h2  ) kz1 hSz kz2 kz3 (fun _ => gz1), gz2⟩
    ·
      injection hf with hf; injection hf with e1 e2; subst e1; subst e2; obtain ⟨sz1, kz1, kz2, kz3⟩ := body_canon (pRn_p1 a w y t h1  h2  y0 y1 y2 hi  hq0) ⟨hq0, trivial⟩; exact ⟨rounds_end mix tabB_ok (pRn_n a w y t h1  h2  ) (pRn_r a w y t h1  h2  ) (pRn_w a w y t h1  h2  ) kz1 (fun h => by cases h) hSz kz2 kz3, pRn_q1 a w y t h1  h2  y0 y1 y2 hi  hq0⟩
theorem pRn_ok (a w y t : Int) (h1 : ckV a w y = 0) (h2 : 0 ≤ t ∧ t ≤ 1000) (fu kk : Nat) (zz : Int × Int × Int) (hf : pRn_f a w y t fu ((0 : Int)) (a) (y) = some (kk, zz)) : ∀ B : Bd, B.L = [] → LoopOk Try.prog B (pRn_hd a w y t).ro (pRn_hd a w y t).a (pRn_hd a w y t).s (pRn_X kk) (pRn_E kk a w y t zz.1 zz.2.1 zz.2.2 ) := by
  have hSz := begin_step (pRn_n a w y t h1  h2  ) (pRn_r a w y t h1  h2  ) (pRn_w a w y t h1  h2  ) (pRn_e0 a w y t h1  h2  ) (pRn_e1 a w y t h1  h2  )
  obtain ⟨gz1, gz2⟩ := pRn_loop a w y t h1  h2  fu ((0 : Int)) (a) (y) kk zz hf hSz
  exact rounds_ok (pRn_n a w y t h1  h2  ) (Nat.le_of_ble_eq_true (by kernel_rfl)) gz2 (rounds_begin (pRn_n a w y t h1  h2  ) (pRn_r a w y t h1  h2  ) (pRn_w a w y t h1  h2  ) (pRn_e0 a w y t h1  h2  ) (pRn_e1 a w y t h1  h2  ) (fun _ => gz1))

noncomputable def rRn_hd (a w y t : Int) : Hd := headO Try.prog [] tabB 3000 18 [.agg #[.int .i64 a, .int .i64 w, .int .i64 y], .int .i64 t] [(1, .b 1), (4, .b 0), (9, .b 0), (10, .b 0), (11, .stop)]
noncomputable def rRn_S (a w y t : Int) (y0 : Int) (y1 : Int) (y2 : Int) : St := ((entryK 2 42 [31, 27, 33, 25, 29, 32, 24, 28, 26, 30] 3 3 (rRn_hd a w y t).s).updF [(7, .int .i64 y0)] [(0, 0, .int .i64 y1), (0, 2, .int .i64 y2)])
theorem rRn_n (a w y t : Int) (h1 : ckV a w y = 0) (h2 : 0 ≤ t ∧ t ≤ 1000) : 2 = (rRn_hd a w y t).s.hs.next := by kernel_rfl
theorem rRn_r (a w y t : Int) (h1 : ckV a w y = 0) (h2 : 0 ≤ t ∧ t ≤ 1000) : (rRn_hd a w y t).s.hs.rd < bitOf 2 := blt_iff.1 (by kernel_rfl)
theorem rRn_w (a w y t : Int) (h1 : ckV a w y = 0) (h2 : 0 ≤ t ∧ t ≤ 1000) : (rRn_hd a w y t).s.hs.wr < bitOf 2 := blt_iff.1 (by kernel_rfl)
theorem rRn_e0 (a w y t : Int) (h1 : ckV a w y = 0) (h2 : 0 ≤ t ∧ t ≤ 1000) : canonS 2 42 [] [31, 27, 33, 25, 29, 32, 24, 28, 26, 30] 2 3 3 (rRn_hd a w y t).s = some (rRn_S a w y t ((0 : Int)) (a) (y)) := by kernel_rfl
theorem rRn_e1 (a w y t : Int) (h1 : ckV a w y = 0) (h2 : 0 ≤ t ∧ t ≤ 1000) : canonOk 2 42 [] 2 (rRn_hd a w y t).s = true := by kernel_rfl
theorem rRn_p0 (a w y t : Int) (h1 : ckV a w y = 0) (h2 : 0 ≤ t ∧ t ≤ 1000) (y0 : Int) (y1 : Int) (y2 : Int) (hi : (decide (ckV y1 w y2 = 0 ∧ 0 ≤ y0 ∧ y0 ≤ 1000)) = true) (hq0 : (decide (y0 < t)) = true) (hq1 : (decide (ckV y1 w y2 = (0 : Int))) = true) : bodyK Try.prog ([] : Vars).length tabB 3000 (rRn_hd a w y t) (rRn_S a w y t y0 y1 y2 ) [(0, .b 1), (1, .b 1)] 2 42 [31, 27, 33, 25, 29, 32, 24, 28, 26, 30] 2 3 3 = some (.normal, (rRn_S a w y t (IntKind.i64.wrap (y0 + (1 : Int))) (y1 + y2) (tkY y1 w y2)), [(decide (ckV y1 w y2 = (0 : Int))) = true, (decide (y0 < t)) = true]) := by kernel_rfl
theorem rRn_p1 (a w y t : Int) (h1 : ckV a w y = 0) (h2 : 0 ≤ t ∧ t ≤ 1000) (y0 : Int) (y1 : Int) (y2 : Int) (hi : (decide (ckV y1 w y2 = 0 ∧ 0 ≤ y0 ∧ y0 ≤ 1000)) = true) (hq0 : (decide (y0 < t)) = false) : bodyK Try.prog ([] : Vars).length tabB 3000 (rRn_hd a w y t) (rRn_S a w y t y0 y1 y2 ) [(0, .b 0)] 2 42 [31, 27, 33, 25, 29, 32, 24, 28, 26, 30] 42 3 3 = some (.exit 0, bodySt (bodyK Try.prog ([] : Vars).length tabB 3000 (rRn_hd a w y t) (rRn_S a w y t y0 y1 y2 ) [(0, .b 0)] 2 42 [31, 27, 33, 25, 29, 32, 24, 28, 26, 30] 42 3 3), [(decide (y0 < t)) = false]) := by kernel_rfl
theorem rRn_q1 (a w y t : Int) (h1 : ckV a w y = 0) (h2 : 0 ≤ t ∧ t ≤ 1000) (y0 : Int) (y1 : Int) (y2 : Int) (hi : (decide (ckV y1 w y2 = 0 ∧ 0 ≤ y0 ∧ y0 ≤ 1000)) = true) (hq0 : (decide (y0 < t)) = false) : (bodySt (bodyK Try.prog ([] : Vars).length tabB 3000 (rRn_hd a w y t) (rRn_S a w y t y0 y1 y2 ) [(0, .b 0)] 2 42 [31, 27, 33, 25, 29, 32, 24, 28, 26, 30] 42 3 3)).hs.next = 42 := by kernel_rfl
theorem rRn_d0 (a w y t : Int) (h1 : ckV a w y = 0) (h2 : 0 ≤ t ∧ t ≤ 1000) (y0 : Int) (y1 : Int) (y2 : Int) (hi : (decide (ckV y1 w y2 = 0 ∧ 0 ≤ y0 ∧ y0 ≤ 1000)) = true) (hq0 : (decide (y0 < t)) = true) : (decide (ckV y1 w y2 = (0 : Int))) = true := by
  rcases Bool.eq_false_or_eq_true (decide (ckV y1 w y2 = (0 : Int))) with h | h
  · exact h
  · exfalso; (simp only [sx, sy, eq_self, ne_eq, IntKind.wrap_i64, wrapU64, Int.reduceLT] at * <;> first | contradiction | omega)
def rRn_X : Nat → VX
  | 0 => .exit 0
  | _ => .normal
noncomputable def rRn_E (kE : Nat) (a w y t : Int) (y0 : Int) (y1 : Int) (y2 : Int) : St := match kE with
  | 0 => bodySt (bodyK Try.prog ([] : Vars).length tabB 3000 (rRn_hd a w y t) (rRn_S a w y t y0 y1 y2 ) [(0, .b 0)] 2 42 [31, 27, 33, 25, 29, 32, 24, 28, 26, 30] 42 3 3)
  | _ => (rRn_hd a w y t).s
noncomputable def rRn_f (a w y t : Int) : Nat → Int → Int → Int → Option (Nat × (Int × Int × Int))
  | 0, _, _, _ => none
  | fu + 1, y0, y1, y2 => (bif (decide (ckV y1 w y2 = 0 ∧ 0 ≤ y0 ∧ y0 ≤ 1000)) then (bif (decide (y0 < t)) then rRn_f a w y t fu (IntKind.i64.wrap (y0 + (1 : Int))) (y1 + y2) (tkY y1 w y2) else some (0, (y0, y1, y2))) else none)
theorem rRn_fs (a w y t : Int) (fu : Nat) (y0 : Int) (y1 : Int) (y2 : Int) : rRn_f a w y t (fu + 1) y0 y1 y2 = (bif (decide (ckV y1 w y2 = 0 ∧ 0 ≤ y0 ∧ y0 ≤ 1000)) then (bif (decide (y0 < t)) then rRn_f a w y t fu (IntKind.i64.wrap (y0 + (1 : Int))) (y1 + y2) (tkY y1 w y2) else some (0, (y0, y1, y2))) else none) := rfl
theorem rRn_f0 (a w y t : Int) (y0 : Int) (y1 : Int) (y2 : Int) : rRn_f a w y t 0 y0 y1 y2 = none := rfl
theorem rRn_loop (a w y t : Int) (h1 : ckV a w y = 0) (h2 : 0 ≤ t ∧ t ≤ 1000) : ∀ (fu : Nat) (y0 : Int) (y1 : Int) (y2 : Int) (kk : Nat) (zz : Int × Int × Int), rRn_f a w y t fu y0 y1 y2 = some (kk, zz) → VStep (rRn_hd a w y t).s.hs (rRn_S a w y t y0 y1 y2 ).hs → RoundsC Try.prog [] 2 42 (rRn_hd a w y t).s.hs (rRn_hd a w y t).ro (rRn_hd a w y t).a (rRn_S a w y t y0 y1 y2 ) (rRn_X kk) (rRn_E kk a w y t zz.1 zz.2.1 zz.2.2 ) ∧ ((rRn_E kk a w y t zz.1 zz.2.1 zz.2.2 )).hs.next = 42 := by
  intro fu
  induction fu with
  | zero =>
    intro y0 y1 y2 kk zz hf hSz
    have hf := (rRn_f0 a w y t y0 y1 y2 ).symm.trans hf
    simp at hf
  | succ fu ih =>
    intro y0 y1 y2 kk zz hf hSz
    have hf := (rRn_fs a w y t fu y0 y1 y2 ).symm.trans hf
    rcases bif_or hf with ⟨hi, hf⟩ | ⟨hi, hf⟩
    case inr => cases hf
    rcases bif_or hf with ⟨hq0, hf⟩ | ⟨hq0, hf⟩
    ·
      have hq1 := rRn_d0 a w y t h1  h2  y0 y1 y2 hi hq0 
      obtain ⟨sz1, kz1, kz2, kz3⟩ := body_canon (rRn_p0 a w y t h1  h2  y0 y1 y2 hi  hq0 hq1) ⟨hq1, hq0, trivial⟩; obtain ⟨gz1, gz2⟩ := ih (IntKind.i64.wrap (y0 + (1 : Int))) (y1 + y2) (tkY y1 w y2) kk zz hf (rounds_step mix tabB_ok (rRn_n a w y t h1  h2  ) (rRn_r a w y t h1  h2  ) (rRn_w a w y t h1  h2  ) kz1 hSz kz2 kz3); exact ⟨rounds_next mix tabB_ok (rRn_n a w y t h1  h2  ) (rRn_r a w y t h1  h2  ) (rRn_w a w y t h1  h2  ) kz1 hSz kz2 kz3 (fun _ => gz1), gz2⟩
    ·
      injection hf with hf; injection hf with e1 e2; subst e1; subst e2; obtain ⟨sz1, kz1, kz2, kz3⟩ := body_canon (rRn_p1 a w y t h1  h2  y0 y1 y2 hi  hq0) ⟨hq0, trivial⟩; exact ⟨rounds_end mix tabB_ok (rRn_n a w y t h1  h2  ) (rRn_r a w y t h1  h2  ) (rRn_w a w y t h1  h2  ) kz1 (fun h => by cases h) hSz kz2 kz3, rRn_q1 a w y t h1  h2  y0 y1 y2 hi  hq0⟩
theorem rRn_ok (a w y t : Int) (h1 : ckV a w y = 0) (h2 : 0 ≤ t ∧ t ≤ 1000) (fu kk : Nat) (zz : Int × Int × Int) (hf : rRn_f a w y t fu ((0 : Int)) (a) (y) = some (kk, zz)) : ∀ B : Bd, B.L = [] → LoopOk Try.prog B (rRn_hd a w y t).ro (rRn_hd a w y t).a (rRn_hd a w y t).s (rRn_X kk) (rRn_E kk a w y t zz.1 zz.2.1 zz.2.2 ) := by
  have hSz := begin_step (rRn_n a w y t h1  h2  ) (rRn_r a w y t h1  h2  ) (rRn_w a w y t h1  h2  ) (rRn_e0 a w y t h1  h2  ) (rRn_e1 a w y t h1  h2  )
  obtain ⟨gz1, gz2⟩ := rRn_loop a w y t h1  h2  fu ((0 : Int)) (a) (y) kk zz hf hSz
  exact rounds_ok (rRn_n a w y t h1  h2  ) (Nat.le_of_ble_eq_true (by kernel_rfl)) gz2 (rounds_begin (rRn_n a w y t h1  h2  ) (rRn_r a w y t h1  h2  ) (rRn_w a w y t h1  h2  ) (rRn_e0 a w y t h1  h2  ) (rRn_e1 a w y t h1  h2  ) (fun _ => gz1))

noncomputable def rLf_hd (a w y : Int) : Hd := headO Try.prog [] tabB 3000 20 [.agg #[.int .i64 a, .int .i64 w, .int .i64 y]] [(1, .b 0), (2, .stop)]
noncomputable def rLf_S (a w y : Int) (y0 : Int) (y1 : Int) (y2 : Int) : St := ((entryK 1 41 [15, 11, 19, 17, 13, 16, 12, 20, 18, 14] 1 1 (rLf_hd a w y).s).updF [(5, .int .i64 y0)] [(0, 0, .int .i64 y1), (0, 2, .int .i64 y2)])
theorem rLf_n (a w y : Int) (h1 : ckV a w y = 0) : 1 = (rLf_hd a w y).s.hs.next := by kernel_rfl
theorem rLf_r (a w y : Int) (h1 : ckV a w y = 0) : (rLf_hd a w y).s.hs.rd < bitOf 1 := blt_iff.1 (by kernel_rfl)
theorem rLf_w (a w y : Int) (h1 : ckV a w y = 0) : (rLf_hd a w y).s.hs.wr < bitOf 1 := blt_iff.1 (by kernel_rfl)
theorem rLf_e0 (a w y : Int) (h1 : ckV a w y = 0) : canonS 1 41 [] [15, 11, 19, 17, 13, 16, 12, 20, 18, 14] 1 1 1 (rLf_hd a w y).s = some (rLf_S a w y ((0 : Int)) (a) (y)) := by kernel_rfl
theorem rLf_e1 (a w y : Int) (h1 : ckV a w y = 0) : canonOk 1 41 [] 1 (rLf_hd a w y).s = true := by kernel_rfl
theorem rLf_p0 (a w y : Int) (h1 : ckV a w y = 0) (y0 : Int) (y1 : Int) (y2 : Int) (hi : (decide (ckV y1 w y2 = 0 ∧ 0 ≤ y0 ∧ y0 ≤ 1000)) = true) (hq0 : (y2 != (0 : Int)) = true) (hq1 : (decide (ckV y1 w y2 = (0 : Int))) = true) : bodyK Try.prog ([] : Vars).length tabB 3000 (rLf_hd a w y) (rLf_S a w y y0 y1 y2 ) [(0, .b 1), (1, .b 1)] 1 41 [15, 11, 19, 17, 13, 16, 12, 20, 18, 14] 1 1 1 = some (.normal, (rLf_S a w y (IntKind.i64.wrap (y0 + (1 : Int))) (y1 + y2) (tkY y1 w y2)), [(decide (ckV y1 w y2 = (0 : Int))) = true, (y2 != (0 : Int)) = true]) := by kernel_rfl
theorem rLf_p1 (a w y : Int) (h1 : ckV a w y = 0) (y0 : Int) (y1 : Int) (y2 : Int) (hi : (decide (ckV y1 w y2 = 0 ∧ 0 ≤ y0 ∧ y0 ≤ 1000)) = true) (hq0 : (y2 != (0 : Int)) = false) : bodyK Try.prog ([] : Vars).length tabB 3000 (rLf_hd a w y) (rLf_S a w y y0 y1 y2 ) [(0, .b 0)] 1 41 [15, 11, 19, 17, 13, 16, 12, 20, 18, 14] 41 1 1 = some (.exit 0, bodySt (bodyK Try.prog ([] : Vars).length tabB 3000 (rLf_hd a w y) (rLf_S a w y y0 y1 y2 ) [(0, .b 0)] 1 41 [15, 11, 19, 17, 13, 16, 12, 20, 18, 14] 41 1 1), [(y2 != (0 : Int)) = false]) := by kernel_rfl
theorem rLf_q1 (a w y : Int) (h1 : ckV a w y = 0) (y0 : Int) (y1 : Int) (y2 : Int) (hi : (decide (ckV y1 w y2 = 0 ∧ 0 ≤ y0 ∧ y0 ≤ 1000)) = true) (hq0 : (y2 != (0 : Int)) = false) : (bodySt (bodyK Try.prog ([] : Vars).length tabB 3000 (rLf_hd a w y) (rLf_S a w y y0 y1 y2 ) [(0, .b 0)] 1 41 [15, 11, 19, 17, 13, 16, 12, 20, 18, 14] 41 1 1)).hs.next = 41 := by kernel_rfl
theorem rLf_d0 (a w y : Int) (h1 : ckV a w y = 0) (y0 : Int) (y1 : Int) (y2 : Int) (hi : (decide (ckV y1 w y2 = 0 ∧ 0 ≤ y0 ∧ y0 ≤ 1000)) = true) (hq0 : (y2 != (0 : Int)) = true) : (decide (ckV y1 w y2 = (0 : Int))) = true := by
  rcases Bool.eq_false_or_eq_true (decide (ckV y1 w y2 = (0 : Int))) with h | h
  · exact h
  · exfalso; (simp only [sx, sy, eq_self, ne_eq, IntKind.wrap_i64, wrapU64, Int.reduceLT] at * <;> first | contradiction | omega)
def rLf_X : Nat → VX
  | 0 => .exit 0
  | _ => .normal
noncomputable def rLf_E (kE : Nat) (a w y : Int) (y0 : Int) (y1 : Int) (y2 : Int) : St := match kE with
  | 0 => bodySt (bodyK Try.prog ([] : Vars).length tabB 3000 (rLf_hd a w y) (rLf_S a w y y0 y1 y2 ) [(0, .b 0)] 1 41 [15, 11, 19, 17, 13, 16, 12, 20, 18, 14] 41 1 1)
  | _ => (rLf_hd a w y).s
noncomputable def rLf_f (a w y : Int) : Nat → Int → Int → Int → Option (Nat × (Int × Int × Int))
  | 0, _, _, _ => none
  | fu + 1, y0, y1, y2 => (bif (decide (ckV y1 w y2 = 0 ∧ 0 ≤ y0 ∧ y0 ≤ 1000)) then (bif (y2 != (0 : Int)) then rLf_f a w y fu (IntKind.i64.wrap (y0 + (1 : Int))) (y1 + y2) (tkY y1 w y2) else some (0, (y0, y1, y2))) else none)
theorem rLf_fs (a w y : Int) (fu : Nat) (y0 : Int) (y1 : Int) (y2 : Int) : rLf_f a w y (fu + 1) y0 y1 y2 = (bif (decide (ckV y1 w y2 = 0 ∧ 0 ≤ y0 ∧ y0 ≤ 1000)) then (bif (y2 != (0 : Int)) then rLf_f a w y fu (IntKind.i64.wrap (y0 + (1 : Int))) (y1 + y2) (tkY y1 w y2) else some (0, (y0, y1, y2))) else none) := rfl
theorem rLf_f0 (a w y : Int) (y0 : Int) (y1 : Int) (y2 : Int) : rLf_f a w y 0 y0 y1 y2 = none := rfl
theorem rLf_loop (a w y : Int) (h1 : ckV a w y = 0) : ∀ (fu : Nat) (y0 : Int) (y1 : Int) (y2 : Int) (kk : Nat) (zz : Int × Int × Int), rLf_f a w y fu y0 y1 y2 = some (kk, zz) → VStep (rLf_hd a w y).s.hs (rLf_S a w y y0 y1 y2 ).hs → RoundsC Try.prog [] 1 41 (rLf_hd a w y).s.hs (rLf_hd a w y).ro (rLf_hd a w y).a (rLf_S a w y y0 y1 y2 ) (rLf_X kk) (rLf_E kk a w y zz.1 zz.2.1 zz.2.2 ) ∧ ((rLf_E kk a w y zz.1 zz.2.1 zz.2.2 )).hs.next = 41 := by
  intro fu
  induction fu with
  | zero =>
    intro y0 y1 y2 kk zz hf hSz
    have hf := (rLf_f0 a w y y0 y1 y2 ).symm.trans hf
    simp at hf
  | succ fu ih =>
    intro y0 y1 y2 kk zz hf hSz
    have hf := (rLf_fs a w y fu y0 y1 y2 ).symm.trans hf
    rcases bif_or hf with ⟨hi, hf⟩ | ⟨hi, hf⟩
    case inr => cases hf
    rcases bif_or hf with ⟨hq0, hf⟩ | ⟨hq0, hf⟩
    ·
      have hq1 := rLf_d0 a w y h1  y0 y1 y2 hi hq0 
      obtain ⟨sz1, kz1, kz2, kz3⟩ := body_canon (rLf_p0 a w y h1  y0 y1 y2 hi  hq0 hq1) ⟨hq1, hq0, trivial⟩; obtain ⟨gz1, gz2⟩ := ih (IntKind.i64.wrap (y0 + (1 : Int))) (y1 + y2) (tkY y1 w y2) kk zz hf (rounds_step mix tabB_ok (rLf_n a w y h1  ) (rLf_r a w y h1  ) (rLf_w a w y h1  ) kz1 hSz kz2 kz3); exact ⟨rounds_next mix tabB_ok (rLf_n a w y h1  ) (rLf_r a w y h1  ) (rLf_w a w y h1  ) kz1 hSz kz2 kz3 (fun _ => gz1), gz2⟩
    ·
      injection hf with hf; injection hf with e1 e2; subst e1; subst e2; obtain ⟨sz1, kz1, kz2, kz3⟩ := body_canon (rLf_p1 a w y h1  y0 y1 y2 hi  hq0) ⟨hq0, trivial⟩; exact ⟨rounds_end mix tabB_ok (rLf_n a w y h1  ) (rLf_r a w y h1  ) (rLf_w a w y h1  ) kz1 (fun h => by cases h) hSz kz2 kz3, rLf_q1 a w y h1  y0 y1 y2 hi  hq0⟩
theorem rLf_ok (a w y : Int) (h1 : ckV a w y = 0) (fu kk : Nat) (zz : Int × Int × Int) (hf : rLf_f a w y fu ((0 : Int)) (a) (y) = some (kk, zz)) : ∀ B : Bd, B.L = [] → LoopOk Try.prog B (rLf_hd a w y).ro (rLf_hd a w y).a (rLf_hd a w y).s (rLf_X kk) (rLf_E kk a w y zz.1 zz.2.1 zz.2.2 ) := by
  have hSz := begin_step (rLf_n a w y h1  ) (rLf_r a w y h1  ) (rLf_w a w y h1  ) (rLf_e0 a w y h1  ) (rLf_e1 a w y h1  )
  obtain ⟨gz1, gz2⟩ := rLf_loop a w y h1  fu ((0 : Int)) (a) (y) kk zz hf hSz
  exact rounds_ok (rLf_n a w y h1  ) (Nat.le_of_ble_eq_true (by kernel_rfl)) gz2 (rounds_begin (rLf_n a w y h1  ) (rLf_r a w y h1  ) (rLf_w a w y h1  ) (rLf_e0 a w y h1  ) (rLf_e1 a w y h1  ) (fun _ => gz1))

noncomputable def pRnK_c0 (a w y t : Int) (pRn_z0 : Int) (pRn_z1 : Int) (pRn_z2 : Int)  : Int := (pRn_z1)
noncomputable def pRnK_c1 (a w y t : Int) (pRn_z0 : Int) (pRn_z1 : Int) (pRn_z2 : Int)  : Int := (w)
noncomputable def pRnK_c2 (a w y t : Int) (pRn_z0 : Int) (pRn_z1 : Int) (pRn_z2 : Int)  : Int := (pRn_z2)
theorem pRnK_p0 (a w y t : Int) (pRn_z0 : Int) (pRn_z1 : Int) (pRn_z2 : Int)  (h1 : ckV a w y = 0) (h2 : 0 ≤ t ∧ t ≤ 1000) (pRn_k1 : (ckV a w y != (0 : Int)) = false) (pRn_k2 : (decide (t ≥ (0 : Int))) = true) (pRn_k5 : (!decide (t ≤ (1000 : Int))) = false) (pRn_l : ∀ B : Bd, B.L = [] → LoopOk Try.prog B (pRn_hd a w y t).ro (pRn_hd a w y t).a (pRn_hd a w y t).s (pRn_X 0) (pRn_E 0 a w y t pRn_z0 pRn_z1 pRn_z2 )) : Known Try.prog [] 17 [.agg #[.int .i64 a, .int .i64 w, .int .i64 y], .int .i64 t] (.tuple #[(.agg #[(.int .i64 (pRn_z1)), (.int .i64 (w)), (.int .i64 (pRn_z2))]), (.int .i64 ((0 : Int)))]) :=
  open_res mix (GOk.add tabB_ok pRn_l) (T := (GTab.add tabB 8 (pRn_hd a w y t).ro (pRn_hd a w y t).a (pRn_hd a w y t).s (pRn_X 0) (pRn_E 0 a w y t pRn_z0 pRn_z1 pRn_z2 ) (by kernel_rfl))) (fuel := 3000) (ans := [(1, .b 0), (2, .b 1), (5, .b 0), (6, .loop (pRn_X 0) (pRn_E 0 a w y t pRn_z0 pRn_z1 pRn_z2 )), ]) (log := [LoopRes Try.prog ([] : Vars).length (GTab.add tabB 8 (pRn_hd a w y t).ro (pRn_hd a w y t).a (pRn_hd a w y t).s (pRn_X 0) (pRn_E 0 a w y t pRn_z0 pRn_z1 pRn_z2 ) (by kernel_rfl)) (pRn_hd a w y t).ro (pRn_hd a w y t).a (pRn_hd a w y t).s (pRn_X 0) (pRn_E 0 a w y t pRn_z0 pRn_z1 pRn_z2 ), (!decide (t ≤ (1000 : Int))) = false, (decide (t ≥ (0 : Int))) = true, (ckV a w y != (0 : Int)) = false]) (by kernel_rfl) ⟨loop_known, pRn_k5, pRn_k2, pRn_k1, trivial⟩ (by kernel_rfl)
set_option maxHeartbeats 8000000 in
theorem pRnK (a w y t : Int) (pRn_z0 : Int) (pRn_z1 : Int) (pRn_z2 : Int)  (h1 : ckV a w y = 0) (h2 : 0 ≤ t ∧ t ≤ 1000) (pRn_k1 : (ckV a w y != (0 : Int)) = false) (pRn_k2 : (decide (t ≥ (0 : Int))) = true) (pRn_k5 : (!decide (t ≤ (1000 : Int))) = false) (pRn_l : ∀ B : Bd, B.L = [] → LoopOk Try.prog B (pRn_hd a w y t).ro (pRn_hd a w y t).a (pRn_hd a w y t).s (pRn_X 0) (pRn_E 0 a w y t pRn_z0 pRn_z1 pRn_z2 )) : Known Try.prog [] 17 [.agg #[.int .i64 a, .int .i64 w, .int .i64 y], .int .i64 t] (.tuple #[(.agg #[(.int .i64 (pRnK_c0 a w y t pRn_z0 pRn_z1 pRn_z2)), (.int .i64 (pRnK_c1 a w y t pRn_z0 pRn_z1 pRn_z2)), (.int .i64 (pRnK_c2 a w y t pRn_z0 pRn_z1 pRn_z2))]), (.int .i64 ((0 : Int)))]) := by
  have e0 : pRnK_c0 a w y t pRn_z0 pRn_z1 pRn_z2 = (pRn_z1) := rfl; rw [e0]; have e1 : pRnK_c1 a w y t pRn_z0 pRn_z1 pRn_z2 = (w) := rfl; rw [e1]; have e2 : pRnK_c2 a w y t pRn_z0 pRn_z1 pRn_z2 = (pRn_z2) := rfl; rw [e2]; exact pRnK_p0 a w y t pRn_z0 pRn_z1 pRn_z2 h1 h2 pRn_k1 pRn_k2 pRn_k5 pRn_l

noncomputable def pRnE_c3 (a w y t : Int) : Int := (bif (ckV a w y != (0 : Int)) then (ckV a w y) else ((2 : Int)))
theorem pRnE_p0 (a w y t : Int) (h1 : ¬ (ckV a w y = 0 ∧ 0 ≤ t ∧ t ≤ 1000)) (hq0 : (ckV a w y != (0 : Int)) = true) : Known Try.prog [] 17 [.agg #[.int .i64 a, .int .i64 w, .int .i64 y], .int .i64 t] (.tuple #[(.agg #[(.int .i64 ((0 : Int))), (.int .i64 ((0 : Int))), (.int .i64 ((0 : Int)))]), (.int .i64 (ckV a w y))]) :=
  open_res mix tabB_ok (T := tabB) (fuel := 3000) (ans := [(1, .b 1)]) (log := [(ckV a w y != (0 : Int)) = true]) (by kernel_rfl) ⟨hq0, trivial⟩ (by kernel_rfl)
theorem pRnE_p1 (a w y t : Int) (h1 : ¬ (ckV a w y = 0 ∧ 0 ≤ t ∧ t ≤ 1000)) (hq0 : (ckV a w y != (0 : Int)) = false) (hq1 : (decide (t ≥ (0 : Int))) = true) (hq2 : (!decide (t ≤ (1000 : Int))) = true) : Known Try.prog [] 17 [.agg #[.int .i64 a, .int .i64 w, .int .i64 y], .int .i64 t] (.tuple #[(.agg #[(.int .i64 ((0 : Int))), (.int .i64 ((0 : Int))), (.int .i64 ((0 : Int)))]), (.int .i64 ((2 : Int)))]) :=
  open_res mix tabB_ok (T := tabB) (fuel := 3000) (ans := [(1, .b 0), (2, .b 1), (5, .b 1)]) (log := [(!decide (t ≤ (1000 : Int))) = true, (decide (t ≥ (0 : Int))) = true, (ckV a w y != (0 : Int)) = false]) (by kernel_rfl) ⟨hq2, hq1, hq0, trivial⟩ (by kernel_rfl)
theorem pRnE_p2 (a w y t : Int) (h1 : ¬ (ckV a w y = 0 ∧ 0 ≤ t ∧ t ≤ 1000)) (hq0 : (ckV a w y != (0 : Int)) = false) (hq1 : (decide (t ≥ (0 : Int))) = false) : Known Try.prog [] 17 [.agg #[.int .i64 a, .int .i64 w, .int .i64 y], .int .i64 t] (.tuple #[(.agg #[(.int .i64 ((0 : Int))), (.int .i64 ((0 : Int))), (.int .i64 ((0 : Int)))]), (.int .i64 ((2 : Int)))]) :=
  open_res mix tabB_ok (T := tabB) (fuel := 3000) (ans := [(1, .b 0), (2, .b 0)]) (log := [(decide (t ≥ (0 : Int))) = false, (ckV a w y != (0 : Int)) = false]) (by kernel_rfl) ⟨hq1, hq0, trivial⟩ (by kernel_rfl)
set_option maxHeartbeats 8000000 in
theorem pRnE (a w y t : Int) (h1 : ¬ (ckV a w y = 0 ∧ 0 ≤ t ∧ t ≤ 1000)) : Known Try.prog [] 17 [.agg #[.int .i64 a, .int .i64 w, .int .i64 y], .int .i64 t] (.tuple #[(.agg #[(.int .i64 ((0 : Int))), (.int .i64 ((0 : Int))), (.int .i64 ((0 : Int)))]), (.int .i64 (pRnE_c3 a w y t))]) := by
  rcases Bool.eq_false_or_eq_true (ckV a w y != (0 : Int)) with hq0 | hq0
  ·
    have e3 : pRnE_c3 a w y t = (ckV a w y) := ((bif_t hq0 _ _).trans rfl); rw [e3]; exact pRnE_p0 a w y t h1 hq0
  ·
    rcases Bool.eq_false_or_eq_true (decide (t ≥ (0 : Int))) with hq1 | hq1
    ·
      have hq2 : (!decide (t ≤ (1000 : Int))) = true := by
        rcases Bool.eq_false_or_eq_true (!decide (t ≤ (1000 : Int))) with h | h
        · exact h
        · exfalso; (simp only [sx, sy, eq_self, ne_eq, IntKind.wrap_i64, wrapU64, Int.reduceLT] at * <;> first | contradiction | omega)
      have e3 : pRnE_c3 a w y t = ((2 : Int)) := ((bif_f hq0 _ _).trans rfl); rw [e3]; exact pRnE_p1 a w y t h1 hq0 hq1 hq2
    ·
      have e3 : pRnE_c3 a w y t = ((2 : Int)) := ((bif_f hq0 _ _).trans rfl); rw [e3]; exact pRnE_p2 a w y t h1 hq0 hq1

noncomputable def rRnK_c0 (a w y t : Int) (rRn_z0 : Int) (rRn_z1 : Int) (rRn_z2 : Int)  : Int := (rRn_z1)
noncomputable def rRnK_c1 (a w y t : Int) (rRn_z0 : Int) (rRn_z1 : Int) (rRn_z2 : Int)  : Int := (w)
noncomputable def rRnK_c2 (a w y t : Int) (rRn_z0 : Int) (rRn_z1 : Int) (rRn_z2 : Int)  : Int := (rRn_z2)
theorem rRnK_p0 (a w y t : Int) (rRn_z0 : Int) (rRn_z1 : Int) (rRn_z2 : Int)  (h1 : ckV a w y = 0) (h2 : 0 ≤ t ∧ t ≤ 1000) (rRn_k1 : (ckV a w y == (0 : Int)) = true) (rRn_k4 : (decide (t < (0 : Int))) = false) (rRn_k9 : (decide (t > (1000 : Int))) = false) (rRn_k10 : (ckV a w y != (0 : Int)) = false) (rRn_l : ∀ B : Bd, B.L = [] → LoopOk Try.prog B (rRn_hd a w y t).ro (rRn_hd a w y t).a (rRn_hd a w y t).s (rRn_X 0) (rRn_E 0 a w y t rRn_z0 rRn_z1 rRn_z2 )) : Known Try.prog [] 18 [.agg #[.int .i64 a, .int .i64 w, .int .i64 y], .int .i64 t] (.tuple #[(.agg #[(.int .i64 (rRn_z1)), (.int .i64 (w)), (.int .i64 (rRn_z2))]), (.int .i64 ((0 : Int)))]) :=
  open_res mix (GOk.add tabB_ok rRn_l) (T := (GTab.add tabB 8 (rRn_hd a w y t).ro (rRn_hd a w y t).a (rRn_hd a w y t).s (rRn_X 0) (rRn_E 0 a w y t rRn_z0 rRn_z1 rRn_z2 ) (by kernel_rfl))) (fuel := 3000) (ans := [(1, .b 1), (4, .b 0), (9, .b 0), (10, .b 0), (11, .loop (rRn_X 0) (rRn_E 0 a w y t rRn_z0 rRn_z1 rRn_z2 )), ]) (log := [LoopRes Try.prog ([] : Vars).length (GTab.add tabB 8 (rRn_hd a w y t).ro (rRn_hd a w y t).a (rRn_hd a w y t).s (rRn_X 0) (rRn_E 0 a w y t rRn_z0 rRn_z1 rRn_z2 ) (by kernel_rfl)) (rRn_hd a w y t).ro (rRn_hd a w y t).a (rRn_hd a w y t).s (rRn_X 0) (rRn_E 0 a w y t rRn_z0 rRn_z1 rRn_z2 ), (ckV a w y != (0 : Int)) = false, (decide (t > (1000 : Int))) = false, (decide (t < (0 : Int))) = false, (ckV a w y == (0 : Int)) = true]) (by kernel_rfl) ⟨loop_known, rRn_k10, rRn_k9, rRn_k4, rRn_k1, trivial⟩ (by kernel_rfl)
set_option maxHeartbeats 8000000 in
theorem rRnK (a w y t : Int) (rRn_z0 : Int) (rRn_z1 : Int) (rRn_z2 : Int)  (h1 : ckV a w y = 0) (h2 : 0 ≤ t ∧ t ≤ 1000) (rRn_k1 : (ckV a w y == (0 : Int)) = true) (rRn_k4 : (decide (t < (0 : Int))) = false) (rRn_k9 : (decide (t > (1000 : Int))) = false) (rRn_k10 : (ckV a w y != (0 : Int)) = false) (rRn_l : ∀ B : Bd, B.L = [] → LoopOk Try.prog B (rRn_hd a w y t).ro (rRn_hd a w y t).a (rRn_hd a w y t).s (rRn_X 0) (rRn_E 0 a w y t rRn_z0 rRn_z1 rRn_z2 )) : Known Try.prog [] 18 [.agg #[.int .i64 a, .int .i64 w, .int .i64 y], .int .i64 t] (.tuple #[(.agg #[(.int .i64 (rRnK_c0 a w y t rRn_z0 rRn_z1 rRn_z2)), (.int .i64 (rRnK_c1 a w y t rRn_z0 rRn_z1 rRn_z2)), (.int .i64 (rRnK_c2 a w y t rRn_z0 rRn_z1 rRn_z2))]), (.int .i64 ((0 : Int)))]) := by
  have e0 : rRnK_c0 a w y t rRn_z0 rRn_z1 rRn_z2 = (rRn_z1) := rfl; rw [e0]; have e1 : rRnK_c1 a w y t rRn_z0 rRn_z1 rRn_z2 = (w) := rfl; rw [e1]; have e2 : rRnK_c2 a w y t rRn_z0 rRn_z1 rRn_z2 = (rRn_z2) := rfl; rw [e2]; exact rRnK_p0 a w y t rRn_z0 rRn_z1 rRn_z2 h1 h2 rRn_k1 rRn_k4 rRn_k9 rRn_k10 rRn_l

noncomputable def rRnE_c3 (a w y t : Int) : Int := (bif (ckV a w y == (0 : Int)) then ((2 : Int)) else (ckV a w y))
theorem rRnE_p0 (a w y t : Int) (h1 : ¬ (ckV a w y = 0 ∧ 0 ≤ t ∧ t ≤ 1000)) (hq0 : (ckV a w y == (0 : Int)) = true) (hq1 : (decide (t < (0 : Int))) = true) : Known Try.prog [] 18 [.agg #[.int .i64 a, .int .i64 w, .int .i64 y], .int .i64 t] (.tuple #[(.agg #[(.int .i64 ((0 : Int))), (.int .i64 ((0 : Int))), (.int .i64 ((0 : Int)))]), (.int .i64 ((2 : Int)))]) :=
  open_res mix tabB_ok (T := tabB) (fuel := 3000) (ans := [(1, .b 1), (4, .b 1)]) (log := [(decide (t < (0 : Int))) = true, (ckV a w y == (0 : Int)) = true]) (by kernel_rfl) ⟨hq1, hq0, trivial⟩ (by kernel_rfl)
theorem rRnE_p1 (a w y t : Int) (h1 : ¬ (ckV a w y = 0 ∧ 0 ≤ t ∧ t ≤ 1000)) (hq0 : (ckV a w y == (0 : Int)) = true) (hq1 : (decide (t < (0 : Int))) = false) (hq2 : (decide (t > (1000 : Int))) = true) : Known Try.prog [] 18 [.agg #[.int .i64 a, .int .i64 w, .int .i64 y], .int .i64 t] (.tuple #[(.agg #[(.int .i64 ((0 : Int))), (.int .i64 ((0 : Int))), (.int .i64 ((0 : Int)))]), (.int .i64 ((2 : Int)))]) :=
  open_res mix tabB_ok (T := tabB) (fuel := 3000) (ans := [(1, .b 1), (4, .b 0), (9, .b 1)]) (log := [(decide (t > (1000 : Int))) = true, (decide (t < (0 : Int))) = false, (ckV a w y == (0 : Int)) = true]) (by kernel_rfl) ⟨hq2, hq1, hq0, trivial⟩ (by kernel_rfl)
theorem rRnE_p2 (a w y t : Int) (h1 : ¬ (ckV a w y = 0 ∧ 0 ≤ t ∧ t ≤ 1000)) (hq0 : (ckV a w y == (0 : Int)) = false) (hq3 : (ckV a w y != (0 : Int)) = true) : Known Try.prog [] 18 [.agg #[.int .i64 a, .int .i64 w, .int .i64 y], .int .i64 t] (.tuple #[(.agg #[(.int .i64 ((0 : Int))), (.int .i64 ((0 : Int))), (.int .i64 ((0 : Int)))]), (.int .i64 (ckV a w y))]) :=
  open_res mix tabB_ok (T := tabB) (fuel := 3000) (ans := [(1, .b 0), (7, .b 1)]) (log := [(ckV a w y != (0 : Int)) = true, (ckV a w y == (0 : Int)) = false]) (by kernel_rfl) ⟨hq3, hq0, trivial⟩ (by kernel_rfl)
set_option maxHeartbeats 8000000 in
theorem rRnE (a w y t : Int) (h1 : ¬ (ckV a w y = 0 ∧ 0 ≤ t ∧ t ≤ 1000)) : Known Try.prog [] 18 [.agg #[.int .i64 a, .int .i64 w, .int .i64 y], .int .i64 t] (.tuple #[(.agg #[(.int .i64 ((0 : Int))), (.int .i64 ((0 : Int))), (.int .i64 ((0 : Int)))]), (.int .i64 (rRnE_c3 a w y t))]) := by
  rcases Bool.eq_false_or_eq_true (ckV a w y == (0 : Int)) with hq0 | hq0
  ·
    rcases Bool.eq_false_or_eq_true (decide (t < (0 : Int))) with hq1 | hq1
    ·
      have e3 : rRnE_c3 a w y t = ((2 : Int)) := ((bif_t hq0 _ _).trans rfl); rw [e3]; exact rRnE_p0 a w y t h1 hq0 hq1
    ·
      have hq2 : (decide (t > (1000 : Int))) = true := by
        rcases Bool.eq_false_or_eq_true (decide (t > (1000 : Int))) with h | h
        · exact h
        · exfalso; (simp only [sx, sy, eq_self, ne_eq, IntKind.wrap_i64, wrapU64, Int.reduceLT] at * <;> first | contradiction | omega)
      have e3 : rRnE_c3 a w y t = ((2 : Int)) := ((bif_t hq0 _ _).trans rfl); rw [e3]; exact rRnE_p1 a w y t h1 hq0 hq1 hq2
  ·
    have hq3 : (ckV a w y != (0 : Int)) = true := by
      rcases Bool.eq_false_or_eq_true (ckV a w y != (0 : Int)) with h | h
      · exact h
      · exfalso; (simp only [sx, sy, eq_self, ne_eq, IntKind.wrap_i64, wrapU64, Int.reduceLT] at * <;> first | contradiction | omega)
    have e3 : rRnE_c3 a w y t = (ckV a w y) := ((bif_f hq0 _ _).trans rfl); rw [e3]; exact rRnE_p2 a w y t h1 hq0 hq3

noncomputable def rLfK_c0 (a w y : Int) (rLf_z0 : Int) (rLf_z1 : Int) (rLf_z2 : Int)  : Int := (rLf_z0)
theorem rLfK_p0 (a w y : Int) (rLf_z0 : Int) (rLf_z1 : Int) (rLf_z2 : Int)  (h1 : ckV a w y = 0) (rLf_k1 : (ckV a w y != (0 : Int)) = false) (rLf_l : ∀ B : Bd, B.L = [] → LoopOk Try.prog B (rLf_hd a w y).ro (rLf_hd a w y).a (rLf_hd a w y).s (rLf_X 0) (rLf_E 0 a w y rLf_z0 rLf_z1 rLf_z2 )) : Known Try.prog [] 20 [.agg #[.int .i64 a, .int .i64 w, .int .i64 y]] (.tuple #[(.int .i64 (rLf_z0)), (.int .i64 ((0 : Int)))]) :=
  open_res mix (GOk.add tabB_ok rLf_l) (T := (GTab.add tabB 6 (rLf_hd a w y).ro (rLf_hd a w y).a (rLf_hd a w y).s (rLf_X 0) (rLf_E 0 a w y rLf_z0 rLf_z1 rLf_z2 ) (by kernel_rfl))) (fuel := 3000) (ans := [(1, .b 0), (2, .loop (rLf_X 0) (rLf_E 0 a w y rLf_z0 rLf_z1 rLf_z2 )), ]) (log := [LoopRes Try.prog ([] : Vars).length (GTab.add tabB 6 (rLf_hd a w y).ro (rLf_hd a w y).a (rLf_hd a w y).s (rLf_X 0) (rLf_E 0 a w y rLf_z0 rLf_z1 rLf_z2 ) (by kernel_rfl)) (rLf_hd a w y).ro (rLf_hd a w y).a (rLf_hd a w y).s (rLf_X 0) (rLf_E 0 a w y rLf_z0 rLf_z1 rLf_z2 ), (ckV a w y != (0 : Int)) = false]) (by kernel_rfl) ⟨loop_known, rLf_k1, trivial⟩ (by kernel_rfl)
set_option maxHeartbeats 8000000 in
theorem rLfK (a w y : Int) (rLf_z0 : Int) (rLf_z1 : Int) (rLf_z2 : Int)  (h1 : ckV a w y = 0) (rLf_k1 : (ckV a w y != (0 : Int)) = false) (rLf_l : ∀ B : Bd, B.L = [] → LoopOk Try.prog B (rLf_hd a w y).ro (rLf_hd a w y).a (rLf_hd a w y).s (rLf_X 0) (rLf_E 0 a w y rLf_z0 rLf_z1 rLf_z2 )) : Known Try.prog [] 20 [.agg #[.int .i64 a, .int .i64 w, .int .i64 y]] (.tuple #[(.int .i64 (rLfK_c0 a w y rLf_z0 rLf_z1 rLf_z2)), (.int .i64 ((0 : Int)))]) := by
  have e0 : rLfK_c0 a w y rLf_z0 rLf_z1 rLf_z2 = (rLf_z0) := rfl; rw [e0]; exact rLfK_p0 a w y rLf_z0 rLf_z1 rLf_z2 h1 rLf_k1 rLf_l

noncomputable def rLfE_c1 (a w y : Int) : Int := (ckV a w y)
theorem rLfE_p0 (a w y : Int) (h1 : ckV a w y ≠ 0) (hq0 : (ckV a w y != (0 : Int)) = true) : Known Try.prog [] 20 [.agg #[.int .i64 a, .int .i64 w, .int .i64 y]] (.tuple #[(.int .i64 ((0 : Int))), (.int .i64 (ckV a w y))]) :=
  open_res mix tabB_ok (T := tabB) (fuel := 3000) (ans := [(1, .b 1)]) (log := [(ckV a w y != (0 : Int)) = true]) (by kernel_rfl) ⟨hq0, trivial⟩ (by kernel_rfl)
set_option maxHeartbeats 8000000 in
theorem rLfE (a w y : Int) (h1 : ckV a w y ≠ 0) : Known Try.prog [] 20 [.agg #[.int .i64 a, .int .i64 w, .int .i64 y]] (.tuple #[(.int .i64 ((0 : Int))), (.int .i64 (rLfE_c1 a w y))]) := by
  have hq0 : (ckV a w y != (0 : Int)) = true := by
    rcases Bool.eq_false_or_eq_true (ckV a w y != (0 : Int)) with h | h
    · exact h
    · exfalso; (simp only [sx, sy, eq_self, ne_eq, IntKind.wrap_i64, wrapU64, Int.reduceLT] at * <;> first | contradiction | omega)
  have e1 : rLfE_c1 a w y = (ckV a w y) := rfl; rw [e1]; exact rLfE_p0 a w y h1 hq0

noncomputable def pLf_c0 (a w y : Int) : Int := (bif (ckV a w y != (0 : Int)) then ((0 : Int)) else (bif (y == (1 : Int)) then (IntKind.i64.wrap (w - a)) else (bif (y == (-1 : Int)) then (a) else ((0 : Int)))))
noncomputable def pLf_c1 (a w y : Int) : Int := (bif (ckV a w y != (0 : Int)) then (ckV a w y) else ((0 : Int)))
theorem pLf_p0 (a w y : Int)  (hq0 : (ckV a w y != (0 : Int)) = true) : Known Try.prog [] 19 [.agg #[.int .i64 a, .int .i64 w, .int .i64 y]] (.tuple #[(.int .i64 ((0 : Int))), (.int .i64 (ckV a w y))]) :=
  open_res mix tabB_ok (T := tabB) (fuel := 3000) (ans := [(1, .b 1)]) (log := [(ckV a w y != (0 : Int)) = true]) (by kernel_rfl) ⟨hq0, trivial⟩ (by kernel_rfl)
theorem pLf_p1 (a w y : Int)  (hq0 : (ckV a w y != (0 : Int)) = false) (hq1 : (y == (1 : Int)) = true) : Known Try.prog [] 19 [.agg #[.int .i64 a, .int .i64 w, .int .i64 y]] (.tuple #[(.int .i64 (IntKind.i64.wrap (w - a))), (.int .i64 ((0 : Int)))]) :=
  open_res mix tabB_ok (T := tabB) (fuel := 3000) (ans := [(1, .b 0), (2, .b 1)]) (log := [(y == (1 : Int)) = true, (ckV a w y != (0 : Int)) = false]) (by kernel_rfl) ⟨hq1, hq0, trivial⟩ (by kernel_rfl)
theorem pLf_p2 (a w y : Int)  (hq0 : (ckV a w y != (0 : Int)) = false) (hq1 : (y == (1 : Int)) = false) (hq2 : (y == (-1 : Int)) = true) : Known Try.prog [] 19 [.agg #[.int .i64 a, .int .i64 w, .int .i64 y]] (.tuple #[(.int .i64 (a)), (.int .i64 ((0 : Int)))]) :=
  open_res mix tabB_ok (T := tabB) (fuel := 3000) (ans := [(1, .b 0), (2, .b 0), (3, .b 1)]) (log := [(y == (-1 : Int)) = true, (y == (1 : Int)) = false, (ckV a w y != (0 : Int)) = false]) (by kernel_rfl) ⟨hq2, hq1, hq0, trivial⟩ (by kernel_rfl)
theorem pLf_p3 (a w y : Int)  (hq0 : (ckV a w y != (0 : Int)) = false) (hq1 : (y == (1 : Int)) = false) (hq2 : (y == (-1 : Int)) = false) : Known Try.prog [] 19 [.agg #[.int .i64 a, .int .i64 w, .int .i64 y]] (.tuple #[(.int .i64 ((0 : Int))), (.int .i64 ((0 : Int)))]) :=
  open_res mix tabB_ok (T := tabB) (fuel := 3000) (ans := [(1, .b 0), (2, .b 0), (3, .b 0)]) (log := [(y == (-1 : Int)) = false, (y == (1 : Int)) = false, (ckV a w y != (0 : Int)) = false]) (by kernel_rfl) ⟨hq2, hq1, hq0, trivial⟩ (by kernel_rfl)
set_option maxHeartbeats 8000000 in
theorem pLf (a w y : Int)  : Known Try.prog [] 19 [.agg #[.int .i64 a, .int .i64 w, .int .i64 y]] (.tuple #[(.int .i64 (pLf_c0 a w y)), (.int .i64 (pLf_c1 a w y))]) := by
  rcases Bool.eq_false_or_eq_true (ckV a w y != (0 : Int)) with hq0 | hq0
  ·
    have e0 : pLf_c0 a w y = ((0 : Int)) := ((bif_t hq0 _ _).trans rfl); rw [e0]; have e1 : pLf_c1 a w y = (ckV a w y) := ((bif_t hq0 _ _).trans rfl); rw [e1]; exact pLf_p0 a w y hq0
  ·
    rcases Bool.eq_false_or_eq_true (y == (1 : Int)) with hq1 | hq1
    ·
      have e0 : pLf_c0 a w y = (IntKind.i64.wrap (w - a)) := ((bif_f hq0 _ _).trans ((bif_t hq1 _ _).trans rfl)); rw [e0]; have e1 : pLf_c1 a w y = ((0 : Int)) := ((bif_f hq0 _ _).trans rfl); rw [e1]; exact pLf_p1 a w y hq0 hq1
    ·
      rcases Bool.eq_false_or_eq_true (y == (-1 : Int)) with hq2 | hq2
      ·
        have e0 : pLf_c0 a w y = (a) := ((bif_f hq0 _ _).trans ((bif_f hq1 _ _).trans ((bif_t hq2 _ _).trans rfl))); rw [e0]; have e1 : pLf_c1 a w y = ((0 : Int)) := ((bif_f hq0 _ _).trans rfl); rw [e1]; exact pLf_p2 a w y hq0 hq1 hq2
      ·
        have e0 : pLf_c0 a w y = ((0 : Int)) := ((bif_f hq0 _ _).trans ((bif_f hq1 _ _).trans ((bif_f hq2 _ _).trans rfl))); rw [e0]; have e1 : pLf_c1 a w y = ((0 : Int)) := ((bif_f hq0 _ _).trans rfl); rw [e1]; exact pLf_p3 a w y hq0 hq1 hq2
noncomputable def pLf_k : List Value → Option Value
  | [.agg ⟨[.int .i64 a, .int .i64 w, .int .i64 y]⟩] => some (.tuple #[(.int .i64 (pLf_c0 a w y)), (.int .i64 (pLf_c1 a w y))])
  | _ => none
theorem pLf_ok : ∀ args v, pLf_k args = some v → Known Try.prog [] 19 args v := by
  intro args v h
  unfold pLf_k at h
  split at h
  · injection h with h; subst h; exact pLf _ _ _
  · cases h

noncomputable def pNw_c1 (n : Int) : Int := (bif (ckV (0 : Int) n (0 : Int) != (0 : Int)) then ((0 : Int)) else (n))
noncomputable def pNw_c3 (n : Int) : Int := (bif (ckV (0 : Int) n (0 : Int) != (0 : Int)) then (ckV (0 : Int) n (0 : Int)) else ((0 : Int)))
theorem pNw_p0 (n : Int)  (hq0 : (ckV (0 : Int) n (0 : Int) != (0 : Int)) = true) : Known Try.prog [] 9 [.int .i64 n] (.tuple #[(.agg #[(.int .i64 ((0 : Int))), (.int .i64 ((0 : Int))), (.int .i64 ((0 : Int)))]), (.int .i64 (ckV (0 : Int) n (0 : Int)))]) :=
  open_res mix tabB_ok (T := tabB) (fuel := 3000) (ans := [(1, .b 1)]) (log := [(ckV (0 : Int) n (0 : Int) != (0 : Int)) = true]) (by kernel_rfl) ⟨hq0, trivial⟩ (by kernel_rfl)
theorem pNw_p1 (n : Int)  (hq0 : (ckV (0 : Int) n (0 : Int) != (0 : Int)) = false) : Known Try.prog [] 9 [.int .i64 n] (.tuple #[(.agg #[(.int .i64 ((0 : Int))), (.int .i64 (n)), (.int .i64 ((0 : Int)))]), (.int .i64 ((0 : Int)))]) :=
  open_res mix tabB_ok (T := tabB) (fuel := 3000) (ans := [(1, .b 0)]) (log := [(ckV (0 : Int) n (0 : Int) != (0 : Int)) = false]) (by kernel_rfl) ⟨hq0, trivial⟩ (by kernel_rfl)
set_option maxHeartbeats 8000000 in
theorem pNw (n : Int)  : Known Try.prog [] 9 [.int .i64 n] (.tuple #[(.agg #[(.int .i64 ((0 : Int))), (.int .i64 (pNw_c1 n)), (.int .i64 ((0 : Int)))]), (.int .i64 (pNw_c3 n))]) := by
  rcases Bool.eq_false_or_eq_true (ckV (0 : Int) n (0 : Int) != (0 : Int)) with hq0 | hq0
  ·
    have e1 : pNw_c1 n = ((0 : Int)) := ((bif_t hq0 _ _).trans rfl); rw [e1]; have e3 : pNw_c3 n = (ckV (0 : Int) n (0 : Int)) := ((bif_t hq0 _ _).trans rfl); rw [e3]; exact pNw_p0 n hq0
  ·
    have e1 : pNw_c1 n = (n) := ((bif_f hq0 _ _).trans rfl); rw [e1]; have e3 : pNw_c3 n = ((0 : Int)) := ((bif_f hq0 _ _).trans rfl); rw [e3]; exact pNw_p1 n hq0
noncomputable def pNw_k : List Value → Option Value
  | [.int .i64 n] => some (.tuple #[(.agg #[(.int .i64 ((0 : Int))), (.int .i64 (pNw_c1 n)), (.int .i64 ((0 : Int)))]), (.int .i64 (pNw_c3 n))])
  | _ => none
theorem pNw_ok : ∀ args v, pNw_k args = some v → Known Try.prog [] 9 args v := by
  intro args v h
  unfold pNw_k at h
  split at h
  · injection h with h; subst h; exact pNw _
  · cases h

noncomputable def rNw_c1 (n : Int) : Int := (bif (decide (n < (1 : Int))) then ((0 : Int)) else (bif (decide (n > (20 : Int))) then ((0 : Int)) else (n)))
noncomputable def rNw_c3 (n : Int) : Int := (bif (decide (n < (1 : Int))) then ((2 : Int)) else (bif (decide (n > (20 : Int))) then ((2 : Int)) else ((0 : Int))))
theorem rNw_p0 (n : Int)  (hq0 : (decide (n < (1 : Int))) = true) : Known Try.prog [] 10 [.int .i64 n] (.tuple #[(.agg #[(.int .i64 ((0 : Int))), (.int .i64 ((0 : Int))), (.int .i64 ((0 : Int)))]), (.int .i64 ((2 : Int)))]) :=
  open_res mix tabB_ok (T := tabB) (fuel := 3000) (ans := [(0, .b 1)]) (log := [(decide (n < (1 : Int))) = true]) (by kernel_rfl) ⟨hq0, trivial⟩ (by kernel_rfl)
theorem rNw_p1 (n : Int)  (hq0 : (decide (n < (1 : Int))) = false) (hq1 : (decide (n > (20 : Int))) = true) : Known Try.prog [] 10 [.int .i64 n] (.tuple #[(.agg #[(.int .i64 ((0 : Int))), (.int .i64 ((0 : Int))), (.int .i64 ((0 : Int)))]), (.int .i64 ((2 : Int)))]) :=
  open_res mix tabB_ok (T := tabB) (fuel := 3000) (ans := [(0, .b 0), (3, .b 1)]) (log := [(decide (n > (20 : Int))) = true, (decide (n < (1 : Int))) = false]) (by kernel_rfl) ⟨hq1, hq0, trivial⟩ (by kernel_rfl)
theorem rNw_p2 (n : Int)  (hq0 : (decide (n < (1 : Int))) = false) (hq1 : (decide (n > (20 : Int))) = false) : Known Try.prog [] 10 [.int .i64 n] (.tuple #[(.agg #[(.int .i64 ((0 : Int))), (.int .i64 (n)), (.int .i64 ((0 : Int)))]), (.int .i64 ((0 : Int)))]) :=
  open_res mix tabB_ok (T := tabB) (fuel := 3000) (ans := [(0, .b 0), (3, .b 0)]) (log := [(decide (n > (20 : Int))) = false, (decide (n < (1 : Int))) = false]) (by kernel_rfl) ⟨hq1, hq0, trivial⟩ (by kernel_rfl)
set_option maxHeartbeats 8000000 in
theorem rNw (n : Int)  : Known Try.prog [] 10 [.int .i64 n] (.tuple #[(.agg #[(.int .i64 ((0 : Int))), (.int .i64 (rNw_c1 n)), (.int .i64 ((0 : Int)))]), (.int .i64 (rNw_c3 n))]) := by
  rcases Bool.eq_false_or_eq_true (decide (n < (1 : Int))) with hq0 | hq0
  ·
    have e1 : rNw_c1 n = ((0 : Int)) := ((bif_t hq0 _ _).trans rfl); rw [e1]; have e3 : rNw_c3 n = ((2 : Int)) := ((bif_t hq0 _ _).trans rfl); rw [e3]; exact rNw_p0 n hq0
  ·
    rcases Bool.eq_false_or_eq_true (decide (n > (20 : Int))) with hq1 | hq1
    ·
      have e1 : rNw_c1 n = ((0 : Int)) := ((bif_f hq0 _ _).trans ((bif_t hq1 _ _).trans rfl)); rw [e1]; have e3 : rNw_c3 n = ((2 : Int)) := ((bif_f hq0 _ _).trans ((bif_t hq1 _ _).trans rfl)); rw [e3]; exact rNw_p1 n hq0 hq1
    ·
      have e1 : rNw_c1 n = (n) := ((bif_f hq0 _ _).trans ((bif_f hq1 _ _).trans rfl)); rw [e1]; have e3 : rNw_c3 n = ((0 : Int)) := ((bif_f hq0 _ _).trans ((bif_f hq1 _ _).trans rfl)); rw [e3]; exact rNw_p2 n hq0 hq1
noncomputable def rNw_k : List Value → Option Value
  | [.int .i64 n] => some (.tuple #[(.agg #[(.int .i64 ((0 : Int))), (.int .i64 (rNw_c1 n)), (.int .i64 ((0 : Int)))]), (.int .i64 (rNw_c3 n))])
  | _ => none
theorem rNw_ok : ∀ args v, rNw_k args = some v → Known Try.prog [] 10 args v := by
  intro args v h
  unfold rNw_k at h
  split at h
  · injection h with h; subst h; exact rNw _
  · cases h

noncomputable def pOr_c0 (a w y o : Int) : Int := (bif (ckV a w y != (0 : Int)) then ((0 : Int)) else (bif (decide (o ≥ (0 : Int))) then (bif (!decide (o < (5 : Int))) then ((0 : Int)) else (a)) else ((0 : Int))))
noncomputable def pOr_c1 (a w y o : Int) : Int := (bif (ckV a w y != (0 : Int)) then ((0 : Int)) else (bif (decide (o ≥ (0 : Int))) then (bif (!decide (o < (5 : Int))) then ((0 : Int)) else (w)) else ((0 : Int))))
noncomputable def pOr_c2 (a w y o : Int) : Int := (bif (ckV a w y != (0 : Int)) then ((0 : Int)) else (bif (decide (o ≥ (0 : Int))) then (bif (!decide (o < (5 : Int))) then ((0 : Int)) else (obV a w y o)) else ((0 : Int))))
noncomputable def pOr_c3 (a w y o : Int) : Int := (bif (ckV a w y != (0 : Int)) then (ckV a w y) else (bif (decide (o ≥ (0 : Int))) then (bif (!decide (o < (5 : Int))) then ((11 : Int)) else ((0 : Int))) else ((11 : Int))))
theorem pOr_p0 (a w y o : Int)  (hq0 : (ckV a w y != (0 : Int)) = true) : Known Try.prog [] 13 [.agg #[.int .i64 a, .int .i64 w, .int .i64 y], .int .i64 o] (.tuple #[(.agg #[(.int .i64 ((0 : Int))), (.int .i64 ((0 : Int))), (.int .i64 ((0 : Int)))]), (.int .i64 (ckV a w y))]) :=
  open_res mix tabB_ok (T := tabB) (fuel := 3000) (ans := [(1, .b 1)]) (log := [(ckV a w y != (0 : Int)) = true]) (by kernel_rfl) ⟨hq0, trivial⟩ (by kernel_rfl)
theorem pOr_p1 (a w y o : Int)  (hq0 : (ckV a w y != (0 : Int)) = false) (hq1 : (decide (o ≥ (0 : Int))) = true) (hq2 : (!decide (o < (5 : Int))) = true) : Known Try.prog [] 13 [.agg #[.int .i64 a, .int .i64 w, .int .i64 y], .int .i64 o] (.tuple #[(.agg #[(.int .i64 ((0 : Int))), (.int .i64 ((0 : Int))), (.int .i64 ((0 : Int)))]), (.int .i64 ((11 : Int)))]) :=
  open_res mix tabB_ok (T := tabB) (fuel := 3000) (ans := [(1, .b 0), (2, .b 1), (5, .b 1)]) (log := [(!decide (o < (5 : Int))) = true, (decide (o ≥ (0 : Int))) = true, (ckV a w y != (0 : Int)) = false]) (by kernel_rfl) ⟨hq2, hq1, hq0, trivial⟩ (by kernel_rfl)
theorem pOr_p2 (a w y o : Int)  (hq0 : (ckV a w y != (0 : Int)) = false) (hq1 : (decide (o ≥ (0 : Int))) = true) (hq2 : (!decide (o < (5 : Int))) = false) (hq3 : (decide (ckV a w y = (0 : Int) ∧ (0 : Int) ≤ o ∧ o ≤ (4 : Int))) = true) : Known Try.prog [] 13 [.agg #[.int .i64 a, .int .i64 w, .int .i64 y], .int .i64 o] (.tuple #[(.agg #[(.int .i64 (a)), (.int .i64 (w)), (.int .i64 (obV a w y o))]), (.int .i64 ((0 : Int)))]) :=
  open_res mix tabB_ok (T := tabB) (fuel := 3000) (ans := [(1, .b 0), (2, .b 1), (5, .b 0), (6, .b 1)]) (log := [(decide (ckV a w y = (0 : Int) ∧ (0 : Int) ≤ o ∧ o ≤ (4 : Int))) = true, (!decide (o < (5 : Int))) = false, (decide (o ≥ (0 : Int))) = true, (ckV a w y != (0 : Int)) = false]) (by kernel_rfl) ⟨hq3, hq2, hq1, hq0, trivial⟩ (by kernel_rfl)
theorem pOr_p3 (a w y o : Int)  (hq0 : (ckV a w y != (0 : Int)) = false) (hq1 : (decide (o ≥ (0 : Int))) = false) : Known Try.prog [] 13 [.agg #[.int .i64 a, .int .i64 w, .int .i64 y], .int .i64 o] (.tuple #[(.agg #[(.int .i64 ((0 : Int))), (.int .i64 ((0 : Int))), (.int .i64 ((0 : Int)))]), (.int .i64 ((11 : Int)))]) :=
  open_res mix tabB_ok (T := tabB) (fuel := 3000) (ans := [(1, .b 0), (2, .b 0)]) (log := [(decide (o ≥ (0 : Int))) = false, (ckV a w y != (0 : Int)) = false]) (by kernel_rfl) ⟨hq1, hq0, trivial⟩ (by kernel_rfl)
set_option maxHeartbeats 8000000 in
theorem pOr (a w y o : Int)  : Known Try.prog [] 13 [.agg #[.int .i64 a, .int .i64 w, .int .i64 y], .int .i64 o] (.tuple #[(.agg #[(.int .i64 (pOr_c0 a w y o)), (.int .i64 (pOr_c1 a w y o)), (.int .i64 (pOr_c2 a w y o))]), (.int .i64 (pOr_c3 a w y o))]) := by
  rcases Bool.eq_false_or_eq_true (ckV a w y != (0 : Int)) with hq0 | hq0
  ·
    have e0 : pOr_c0 a w y o = ((0 : Int)) := ((bif_t hq0 _ _).trans rfl); rw [e0]; have e1 : pOr_c1 a w y o = ((0 : Int)) := ((bif_t hq0 _ _).trans rfl); rw [e1]; have e2 : pOr_c2 a w y o = ((0 : Int)) := ((bif_t hq0 _ _).trans rfl); rw [e2]; have e3 : pOr_c3 a w y o = (ckV a w y) := ((bif_t hq0 _ _).trans rfl); rw [e3]; exact pOr_p0 a w y o hq0
  ·
    rcases Bool.eq_false_or_eq_true (decide (o ≥ (0 : Int))) with hq1 | hq1
    ·
      rcases Bool.eq_false_or_eq_true (!decide (o < (5 : Int))) with hq2 | hq2
      ·
        have e0 : pOr_c0 a w y o = ((0 : Int)) := ((bif_f hq0 _ _).trans ((bif_t hq1 _ _).trans ((bif_t hq2 _ _).trans rfl))); rw [e0]; have e1 : pOr_c1 a w y o = ((0 : Int)) := ((bif_f hq0 _ _).trans ((bif_t hq1 _ _).trans ((bif_t hq2 _ _).trans rfl))); rw [e1]; have e2 : pOr_c2 a w y o = ((0 : Int)) := ((bif_f hq0 _ _).trans ((bif_t hq1 _ _).trans ((bif_t hq2 _ _).trans rfl))); rw [e2]; have e3 : pOr_c3 a w y o = ((11 : Int)) := ((bif_f hq0 _ _).trans ((bif_t hq1 _ _).trans ((bif_t hq2 _ _).trans rfl))); rw [e3]; exact pOr_p1 a w y o hq0 hq1 hq2
      ·
        have hq3 : (decide (ckV a w y = (0 : Int) ∧ (0 : Int) ≤ o ∧ o ≤ (4 : Int))) = true := by
          rcases Bool.eq_false_or_eq_true (decide (ckV a w y = (0 : Int) ∧ (0 : Int) ≤ o ∧ o ≤ (4 : Int))) with h | h
          · exact h
          · exfalso; (simp only [sx, sy, eq_self, ne_eq, IntKind.wrap_i64, wrapU64, Int.reduceLT] at * <;> first | contradiction | omega)
        have e0 : pOr_c0 a w y o = (a) := ((bif_f hq0 _ _).trans ((bif_t hq1 _ _).trans ((bif_f hq2 _ _).trans rfl))); rw [e0]; have e1 : pOr_c1 a w y o = (w) := ((bif_f hq0 _ _).trans ((bif_t hq1 _ _).trans ((bif_f hq2 _ _).trans rfl))); rw [e1]; have e2 : pOr_c2 a w y o = (obV a w y o) := ((bif_f hq0 _ _).trans ((bif_t hq1 _ _).trans ((bif_f hq2 _ _).trans rfl))); rw [e2]; have e3 : pOr_c3 a w y o = ((0 : Int)) := ((bif_f hq0 _ _).trans ((bif_t hq1 _ _).trans ((bif_f hq2 _ _).trans rfl))); rw [e3]; exact pOr_p2 a w y o hq0 hq1 hq2 hq3
    ·
      have e0 : pOr_c0 a w y o = ((0 : Int)) := ((bif_f hq0 _ _).trans ((bif_f hq1 _ _).trans rfl)); rw [e0]; have e1 : pOr_c1 a w y o = ((0 : Int)) := ((bif_f hq0 _ _).trans ((bif_f hq1 _ _).trans rfl)); rw [e1]; have e2 : pOr_c2 a w y o = ((0 : Int)) := ((bif_f hq0 _ _).trans ((bif_f hq1 _ _).trans rfl)); rw [e2]; have e3 : pOr_c3 a w y o = ((11 : Int)) := ((bif_f hq0 _ _).trans ((bif_f hq1 _ _).trans rfl)); rw [e3]; exact pOr_p3 a w y o hq0 hq1
noncomputable def pOr_k : List Value → Option Value
  | [.agg ⟨[.int .i64 a, .int .i64 w, .int .i64 y]⟩, .int .i64 o] => some (.tuple #[(.agg #[(.int .i64 (pOr_c0 a w y o)), (.int .i64 (pOr_c1 a w y o)), (.int .i64 (pOr_c2 a w y o))]), (.int .i64 (pOr_c3 a w y o))])
  | _ => none
theorem pOr_ok : ∀ args v, pOr_k args = some v → Known Try.prog [] 13 args v := by
  intro args v h
  unfold pOr_k at h
  split at h
  · injection h with h; subst h; exact pOr _ _ _ _
  · cases h

noncomputable def rOr_c0 (a w y o : Int) : Int := (bif (ckV a w y == (0 : Int)) then (bif (decide (o < (0 : Int))) then ((0 : Int)) else (bif (decide (o > (4 : Int))) then ((0 : Int)) else (a))) else ((0 : Int)))
noncomputable def rOr_c1 (a w y o : Int) : Int := (bif (ckV a w y == (0 : Int)) then (bif (decide (o < (0 : Int))) then ((0 : Int)) else (bif (decide (o > (4 : Int))) then ((0 : Int)) else (w))) else ((0 : Int)))
noncomputable def rOr_c2 (a w y o : Int) : Int := (bif (ckV a w y == (0 : Int)) then (bif (decide (o < (0 : Int))) then ((0 : Int)) else (bif (decide (o > (4 : Int))) then ((0 : Int)) else (obV a w y o))) else ((0 : Int)))
noncomputable def rOr_c3 (a w y o : Int) : Int := (bif (ckV a w y == (0 : Int)) then (bif (decide (o < (0 : Int))) then ((11 : Int)) else (bif (decide (o > (4 : Int))) then ((11 : Int)) else ((0 : Int)))) else (ckV a w y))
theorem rOr_p0 (a w y o : Int)  (hq0 : (ckV a w y == (0 : Int)) = true) (hq1 : (decide (o < (0 : Int))) = true) : Known Try.prog [] 14 [.agg #[.int .i64 a, .int .i64 w, .int .i64 y], .int .i64 o] (.tuple #[(.agg #[(.int .i64 ((0 : Int))), (.int .i64 ((0 : Int))), (.int .i64 ((0 : Int)))]), (.int .i64 ((11 : Int)))]) :=
  open_res mix tabB_ok (T := tabB) (fuel := 3000) (ans := [(1, .b 1), (4, .b 1)]) (log := [(decide (o < (0 : Int))) = true, (ckV a w y == (0 : Int)) = true]) (by kernel_rfl) ⟨hq1, hq0, trivial⟩ (by kernel_rfl)
theorem rOr_p1 (a w y o : Int)  (hq0 : (ckV a w y == (0 : Int)) = true) (hq1 : (decide (o < (0 : Int))) = false) (hq2 : (decide (o > (4 : Int))) = true) : Known Try.prog [] 14 [.agg #[.int .i64 a, .int .i64 w, .int .i64 y], .int .i64 o] (.tuple #[(.agg #[(.int .i64 ((0 : Int))), (.int .i64 ((0 : Int))), (.int .i64 ((0 : Int)))]), (.int .i64 ((11 : Int)))]) :=
  open_res mix tabB_ok (T := tabB) (fuel := 3000) (ans := [(1, .b 1), (4, .b 0), (9, .b 1)]) (log := [(decide (o > (4 : Int))) = true, (decide (o < (0 : Int))) = false, (ckV a w y == (0 : Int)) = true]) (by kernel_rfl) ⟨hq2, hq1, hq0, trivial⟩ (by kernel_rfl)
theorem rOr_p2 (a w y o : Int)  (hq0 : (ckV a w y == (0 : Int)) = true) (hq1 : (decide (o < (0 : Int))) = false) (hq2 : (decide (o > (4 : Int))) = false) (hq3 : (ckV a w y != (0 : Int)) = false) (hq4 : (decide (ckV a w y = (0 : Int) ∧ (0 : Int) ≤ o ∧ o ≤ (4 : Int))) = true) : Known Try.prog [] 14 [.agg #[.int .i64 a, .int .i64 w, .int .i64 y], .int .i64 o] (.tuple #[(.agg #[(.int .i64 (a)), (.int .i64 (w)), (.int .i64 (obV a w y o))]), (.int .i64 ((0 : Int)))]) :=
  open_res mix tabB_ok (T := tabB) (fuel := 3000) (ans := [(1, .b 1), (4, .b 0), (9, .b 0), (10, .b 0), (11, .b 1)]) (log := [(decide (ckV a w y = (0 : Int) ∧ (0 : Int) ≤ o ∧ o ≤ (4 : Int))) = true, (ckV a w y != (0 : Int)) = false, (decide (o > (4 : Int))) = false, (decide (o < (0 : Int))) = false, (ckV a w y == (0 : Int)) = true]) (by kernel_rfl) ⟨hq4, hq3, hq2, hq1, hq0, trivial⟩ (by kernel_rfl)
theorem rOr_p3 (a w y o : Int)  (hq0 : (ckV a w y == (0 : Int)) = false) (hq3 : (ckV a w y != (0 : Int)) = true) : Known Try.prog [] 14 [.agg #[.int .i64 a, .int .i64 w, .int .i64 y], .int .i64 o] (.tuple #[(.agg #[(.int .i64 ((0 : Int))), (.int .i64 ((0 : Int))), (.int .i64 ((0 : Int)))]), (.int .i64 (ckV a w y))]) :=
  open_res mix tabB_ok (T := tabB) (fuel := 3000) (ans := [(1, .b 0), (7, .b 1)]) (log := [(ckV a w y != (0 : Int)) = true, (ckV a w y == (0 : Int)) = false]) (by kernel_rfl) ⟨hq3, hq0, trivial⟩ (by kernel_rfl)
set_option maxHeartbeats 8000000 in
theorem rOr (a w y o : Int)  : Known Try.prog [] 14 [.agg #[.int .i64 a, .int .i64 w, .int .i64 y], .int .i64 o] (.tuple #[(.agg #[(.int .i64 (rOr_c0 a w y o)), (.int .i64 (rOr_c1 a w y o)), (.int .i64 (rOr_c2 a w y o))]), (.int .i64 (rOr_c3 a w y o))]) := by
  rcases Bool.eq_false_or_eq_true (ckV a w y == (0 : Int)) with hq0 | hq0
  ·
    rcases Bool.eq_false_or_eq_true (decide (o < (0 : Int))) with hq1 | hq1
    ·
      have e0 : rOr_c0 a w y o = ((0 : Int)) := ((bif_t hq0 _ _).trans ((bif_t hq1 _ _).trans rfl)); rw [e0]; have e1 : rOr_c1 a w y o = ((0 : Int)) := ((bif_t hq0 _ _).trans ((bif_t hq1 _ _).trans rfl)); rw [e1]; have e2 : rOr_c2 a w y o = ((0 : Int)) := ((bif_t hq0 _ _).trans ((bif_t hq1 _ _).trans rfl)); rw [e2]; have e3 : rOr_c3 a w y o = ((11 : Int)) := ((bif_t hq0 _ _).trans ((bif_t hq1 _ _).trans rfl)); rw [e3]; exact rOr_p0 a w y o hq0 hq1
    ·
      rcases Bool.eq_false_or_eq_true (decide (o > (4 : Int))) with hq2 | hq2
      ·
        have e0 : rOr_c0 a w y o = ((0 : Int)) := ((bif_t hq0 _ _).trans ((bif_f hq1 _ _).trans ((bif_t hq2 _ _).trans rfl))); rw [e0]; have e1 : rOr_c1 a w y o = ((0 : Int)) := ((bif_t hq0 _ _).trans ((bif_f hq1 _ _).trans ((bif_t hq2 _ _).trans rfl))); rw [e1]; have e2 : rOr_c2 a w y o = ((0 : Int)) := ((bif_t hq0 _ _).trans ((bif_f hq1 _ _).trans ((bif_t hq2 _ _).trans rfl))); rw [e2]; have e3 : rOr_c3 a w y o = ((11 : Int)) := ((bif_t hq0 _ _).trans ((bif_f hq1 _ _).trans ((bif_t hq2 _ _).trans rfl))); rw [e3]; exact rOr_p1 a w y o hq0 hq1 hq2
      ·
        have hq3 : (ckV a w y != (0 : Int)) = false := by
          rcases Bool.eq_false_or_eq_true (ckV a w y != (0 : Int)) with h | h
          · exfalso; (simp only [sx, sy, eq_self, ne_eq, IntKind.wrap_i64, wrapU64, Int.reduceLT] at * <;> first | contradiction | omega)
          · exact h
        have hq4 : (decide (ckV a w y = (0 : Int) ∧ (0 : Int) ≤ o ∧ o ≤ (4 : Int))) = true := by
          rcases Bool.eq_false_or_eq_true (decide (ckV a w y = (0 : Int) ∧ (0 : Int) ≤ o ∧ o ≤ (4 : Int))) with h | h
          · exact h
          · exfalso; (simp only [sx, sy, eq_self, ne_eq, IntKind.wrap_i64, wrapU64, Int.reduceLT] at * <;> first | contradiction | omega)
        have e0 : rOr_c0 a w y o = (a) := ((bif_t hq0 _ _).trans ((bif_f hq1 _ _).trans ((bif_f hq2 _ _).trans rfl))); rw [e0]; have e1 : rOr_c1 a w y o = (w) := ((bif_t hq0 _ _).trans ((bif_f hq1 _ _).trans ((bif_f hq2 _ _).trans rfl))); rw [e1]; have e2 : rOr_c2 a w y o = (obV a w y o) := ((bif_t hq0 _ _).trans ((bif_f hq1 _ _).trans ((bif_f hq2 _ _).trans rfl))); rw [e2]; have e3 : rOr_c3 a w y o = ((0 : Int)) := ((bif_t hq0 _ _).trans ((bif_f hq1 _ _).trans ((bif_f hq2 _ _).trans rfl))); rw [e3]; exact rOr_p2 a w y o hq0 hq1 hq2 hq3 hq4
  ·
    have hq3 : (ckV a w y != (0 : Int)) = true := by
      rcases Bool.eq_false_or_eq_true (ckV a w y != (0 : Int)) with h | h
      · exact h
      · exfalso; (simp only [sx, sy, eq_self, ne_eq, IntKind.wrap_i64, wrapU64, Int.reduceLT] at * <;> first | contradiction | omega)
    have e0 : rOr_c0 a w y o = ((0 : Int)) := ((bif_f hq0 _ _).trans rfl); rw [e0]; have e1 : rOr_c1 a w y o = ((0 : Int)) := ((bif_f hq0 _ _).trans rfl); rw [e1]; have e2 : rOr_c2 a w y o = ((0 : Int)) := ((bif_f hq0 _ _).trans rfl); rw [e2]; have e3 : rOr_c3 a w y o = (ckV a w y) := ((bif_f hq0 _ _).trans rfl); rw [e3]; exact rOr_p3 a w y o hq0 hq3
noncomputable def rOr_k : List Value → Option Value
  | [.agg ⟨[.int .i64 a, .int .i64 w, .int .i64 y]⟩, .int .i64 o] => some (.tuple #[(.agg #[(.int .i64 (rOr_c0 a w y o)), (.int .i64 (rOr_c1 a w y o)), (.int .i64 (rOr_c2 a w y o))]), (.int .i64 (rOr_c3 a w y o))])
  | _ => none
theorem rOr_ok : ∀ args v, rOr_k args = some v → Known Try.prog [] 14 args v := by
  intro args v h
  unfold rOr_k at h
  split at h
  · injection h with h; subst h; exact rOr _ _ _ _
  · cases h

noncomputable def pSt_c0 (a w y : Int) : Int := (bif (ckV a w y != (0 : Int)) then ((0 : Int)) else (a + y))
noncomputable def pSt_c1 (a w y : Int) : Int := (bif (ckV a w y != (0 : Int)) then ((0 : Int)) else (w))
noncomputable def pSt_c2 (a w y : Int) : Int := (bif (ckV a w y != (0 : Int)) then ((0 : Int)) else (tkY a w y))
noncomputable def pSt_c3 (a w y : Int) : Int := (bif (ckV a w y != (0 : Int)) then ((0 : Int)) else (tkB a w y))
noncomputable def pSt_c4 (a w y : Int) : Int := (bif (ckV a w y != (0 : Int)) then (ckV a w y) else ((0 : Int)))
theorem pSt_p0 (a w y : Int)  (hq0 : (ckV a w y != (0 : Int)) = true) : Known Try.prog [] 15 [.agg #[.int .i64 a, .int .i64 w, .int .i64 y]] (.tuple #[(.agg #[(.int .i64 ((0 : Int))), (.int .i64 ((0 : Int))), (.int .i64 ((0 : Int)))]), (.int .i64 ((0 : Int))), (.int .i64 (ckV a w y))]) :=
  open_res mix tabB_ok (T := tabB) (fuel := 3000) (ans := [(1, .b 1)]) (log := [(ckV a w y != (0 : Int)) = true]) (by kernel_rfl) ⟨hq0, trivial⟩ (by kernel_rfl)
theorem pSt_p1 (a w y : Int)  (hq0 : (ckV a w y != (0 : Int)) = false) (hq1 : (decide (ckV a w y = (0 : Int))) = true) : Known Try.prog [] 15 [.agg #[.int .i64 a, .int .i64 w, .int .i64 y]] (.tuple #[(.agg #[(.int .i64 (a + y)), (.int .i64 (w)), (.int .i64 (tkY a w y))]), (.int .i64 (tkB a w y)), (.int .i64 ((0 : Int)))]) :=
  open_res mix tabB_ok (T := tabB) (fuel := 3000) (ans := [(1, .b 0), (2, .b 1)]) (log := [(decide (ckV a w y = (0 : Int))) = true, (ckV a w y != (0 : Int)) = false]) (by kernel_rfl) ⟨hq1, hq0, trivial⟩ (by kernel_rfl)
set_option maxHeartbeats 8000000 in
theorem pSt (a w y : Int)  : Known Try.prog [] 15 [.agg #[.int .i64 a, .int .i64 w, .int .i64 y]] (.tuple #[(.agg #[(.int .i64 (pSt_c0 a w y)), (.int .i64 (pSt_c1 a w y)), (.int .i64 (pSt_c2 a w y))]), (.int .i64 (pSt_c3 a w y)), (.int .i64 (pSt_c4 a w y))]) := by
  rcases Bool.eq_false_or_eq_true (ckV a w y != (0 : Int)) with hq0 | hq0
  ·
    have e0 : pSt_c0 a w y = ((0 : Int)) := ((bif_t hq0 _ _).trans rfl); rw [e0]; have e1 : pSt_c1 a w y = ((0 : Int)) := ((bif_t hq0 _ _).trans rfl); rw [e1]; have e2 : pSt_c2 a w y = ((0 : Int)) := ((bif_t hq0 _ _).trans rfl); rw [e2]; have e3 : pSt_c3 a w y = ((0 : Int)) := ((bif_t hq0 _ _).trans rfl); rw [e3]; have e4 : pSt_c4 a w y = (ckV a w y) := ((bif_t hq0 _ _).trans rfl); rw [e4]; exact pSt_p0 a w y hq0
  ·
    have hq1 : (decide (ckV a w y = (0 : Int))) = true := by
      rcases Bool.eq_false_or_eq_true (decide (ckV a w y = (0 : Int))) with h | h
      · exact h
      · exfalso; (simp only [sx, sy, eq_self, ne_eq, IntKind.wrap_i64, wrapU64, Int.reduceLT] at * <;> first | contradiction | omega)
    have e0 : pSt_c0 a w y = (a + y) := ((bif_f hq0 _ _).trans rfl); rw [e0]; have e1 : pSt_c1 a w y = (w) := ((bif_f hq0 _ _).trans rfl); rw [e1]; have e2 : pSt_c2 a w y = (tkY a w y) := ((bif_f hq0 _ _).trans rfl); rw [e2]; have e3 : pSt_c3 a w y = (tkB a w y) := ((bif_f hq0 _ _).trans rfl); rw [e3]; have e4 : pSt_c4 a w y = ((0 : Int)) := ((bif_f hq0 _ _).trans rfl); rw [e4]; exact pSt_p1 a w y hq0 hq1
noncomputable def pSt_k : List Value → Option Value
  | [.agg ⟨[.int .i64 a, .int .i64 w, .int .i64 y]⟩] => some (.tuple #[(.agg #[(.int .i64 (pSt_c0 a w y)), (.int .i64 (pSt_c1 a w y)), (.int .i64 (pSt_c2 a w y))]), (.int .i64 (pSt_c3 a w y)), (.int .i64 (pSt_c4 a w y))])
  | _ => none
theorem pSt_ok : ∀ args v, pSt_k args = some v → Known Try.prog [] 15 args v := by
  intro args v h
  unfold pSt_k at h
  split at h
  · injection h with h; subst h; exact pSt _ _ _
  · cases h

noncomputable def rSt_c0 (a w y : Int) : Int := (bif (ckV a w y != (0 : Int)) then ((0 : Int)) else (a + y))
noncomputable def rSt_c1 (a w y : Int) : Int := (bif (ckV a w y != (0 : Int)) then ((0 : Int)) else (w))
noncomputable def rSt_c2 (a w y : Int) : Int := (bif (ckV a w y != (0 : Int)) then ((0 : Int)) else (tkY a w y))
noncomputable def rSt_c3 (a w y : Int) : Int := (bif (ckV a w y != (0 : Int)) then ((0 : Int)) else (tkB a w y))
noncomputable def rSt_c4 (a w y : Int) : Int := (bif (ckV a w y != (0 : Int)) then (ckV a w y) else ((0 : Int)))
theorem rSt_p0 (a w y : Int)  (hq0 : (ckV a w y != (0 : Int)) = true) : Known Try.prog [] 16 [.agg #[.int .i64 a, .int .i64 w, .int .i64 y]] (.tuple #[(.agg #[(.int .i64 ((0 : Int))), (.int .i64 ((0 : Int))), (.int .i64 ((0 : Int)))]), (.int .i64 ((0 : Int))), (.int .i64 (ckV a w y))]) :=
  open_res mix tabB_ok (T := tabB) (fuel := 3000) (ans := [(1, .b 1)]) (log := [(ckV a w y != (0 : Int)) = true]) (by kernel_rfl) ⟨hq0, trivial⟩ (by kernel_rfl)
theorem rSt_p1 (a w y : Int)  (hq0 : (ckV a w y != (0 : Int)) = false) (hq1 : (decide (ckV a w y = (0 : Int))) = true) : Known Try.prog [] 16 [.agg #[.int .i64 a, .int .i64 w, .int .i64 y]] (.tuple #[(.agg #[(.int .i64 (a + y)), (.int .i64 (w)), (.int .i64 (tkY a w y))]), (.int .i64 (tkB a w y)), (.int .i64 ((0 : Int)))]) :=
  open_res mix tabB_ok (T := tabB) (fuel := 3000) (ans := [(1, .b 0), (2, .b 1)]) (log := [(decide (ckV a w y = (0 : Int))) = true, (ckV a w y != (0 : Int)) = false]) (by kernel_rfl) ⟨hq1, hq0, trivial⟩ (by kernel_rfl)
set_option maxHeartbeats 8000000 in
theorem rSt (a w y : Int)  : Known Try.prog [] 16 [.agg #[.int .i64 a, .int .i64 w, .int .i64 y]] (.tuple #[(.agg #[(.int .i64 (rSt_c0 a w y)), (.int .i64 (rSt_c1 a w y)), (.int .i64 (rSt_c2 a w y))]), (.int .i64 (rSt_c3 a w y)), (.int .i64 (rSt_c4 a w y))]) := by
  rcases Bool.eq_false_or_eq_true (ckV a w y != (0 : Int)) with hq0 | hq0
  ·
    have e0 : rSt_c0 a w y = ((0 : Int)) := ((bif_t hq0 _ _).trans rfl); rw [e0]; have e1 : rSt_c1 a w y = ((0 : Int)) := ((bif_t hq0 _ _).trans rfl); rw [e1]; have e2 : rSt_c2 a w y = ((0 : Int)) := ((bif_t hq0 _ _).trans rfl); rw [e2]; have e3 : rSt_c3 a w y = ((0 : Int)) := ((bif_t hq0 _ _).trans rfl); rw [e3]; have e4 : rSt_c4 a w y = (ckV a w y) := ((bif_t hq0 _ _).trans rfl); rw [e4]; exact rSt_p0 a w y hq0
  ·
    have hq1 : (decide (ckV a w y = (0 : Int))) = true := by
      rcases Bool.eq_false_or_eq_true (decide (ckV a w y = (0 : Int))) with h | h
      · exact h
      · exfalso; (simp only [sx, sy, eq_self, ne_eq, IntKind.wrap_i64, wrapU64, Int.reduceLT] at * <;> first | contradiction | omega)
    have e0 : rSt_c0 a w y = (a + y) := ((bif_f hq0 _ _).trans rfl); rw [e0]; have e1 : rSt_c1 a w y = (w) := ((bif_f hq0 _ _).trans rfl); rw [e1]; have e2 : rSt_c2 a w y = (tkY a w y) := ((bif_f hq0 _ _).trans rfl); rw [e2]; have e3 : rSt_c3 a w y = (tkB a w y) := ((bif_f hq0 _ _).trans rfl); rw [e3]; have e4 : rSt_c4 a w y = ((0 : Int)) := ((bif_f hq0 _ _).trans rfl); rw [e4]; exact rSt_p1 a w y hq0 hq1
noncomputable def rSt_k : List Value → Option Value
  | [.agg ⟨[.int .i64 a, .int .i64 w, .int .i64 y]⟩] => some (.tuple #[(.agg #[(.int .i64 (rSt_c0 a w y)), (.int .i64 (rSt_c1 a w y)), (.int .i64 (rSt_c2 a w y))]), (.int .i64 (rSt_c3 a w y)), (.int .i64 (rSt_c4 a w y))])
  | _ => none
theorem rSt_ok : ∀ args v, rSt_k args = some v → Known Try.prog [] 16 args v := by
  intro args v h
  unfold rSt_k at h
  split at h
  · injection h with h; subst h; exact rSt _ _ _
  · cases h

end Go.Proofs.Ytpaojoahbmlolaa
