/- Layer 5: SameHeld. -/
import Derived.Test.YtpmcjjpgkoagoaaYN
import Derived.ProofKit
import Derived.IntWalk
namespace Go.Proofs.Ytpmcjjpgkoagoaa
open Go Go.RowKit
set_option linter.unusedVariables false
set_option linter.unusedSimpArgs false
set_option linter.unnecessarySimpa false
set_option maxHeartbeats 8000000
set_option maxRecDepth 100000
noncomputable def sgA_hd (x y : List Hel) : Hd := headD Try.prog [] GTab.none 3000 31 [.list (rowA gH x) x.length, .list (rowA gH y) y.length] [(0, .b 0), (1, .stop)]
noncomputable def sgA_S (x y : List Hel) (y0 : Int) : St := ((entryK 2 42 [15, 23, 11, 19, 17, 25, 13, 21, 16, 24, 12, 20, 18, 14, 22] 3 0 (sgA_hd x y).s).updF [(5, .int .i64 y0)] [])
theorem sgA_n (x y : List Hel) (hl : (x.length : Int) = (y.length : Int)) (hx : (x.length : Int) ≤ 100000) : 2 = (sgA_hd x y).s.hs.next := by kernel_rfl
theorem sgA_r (x y : List Hel) (hl : (x.length : Int) = (y.length : Int)) (hx : (x.length : Int) ≤ 100000) : (sgA_hd x y).s.hs.rd < bitOf 2 := by
  have e : (sgA_hd x y).s.hs.rd = 0 := by kernel_rfl
  rw [e]; exact blt_iff.1 (by kernel_rfl)
theorem sgA_w (x y : List Hel) (hl : (x.length : Int) = (y.length : Int)) (hx : (x.length : Int) ≤ 100000) : (sgA_hd x y).s.hs.wr < bitOf 2 := by
  have e : (sgA_hd x y).s.hs.wr = 0 := by kernel_rfl
  rw [e]; exact blt_iff.1 (by kernel_rfl)
theorem sgA_e0 (x y : List Hel) (hl : (x.length : Int) = (y.length : Int)) (hx : (x.length : Int) ≤ 100000) : canonS 2 42 [] [15, 23, 11, 19, 17, 25, 13, 21, 16, 24, 12, 20, 18, 14, 22] 2 3 0 (sgA_hd x y).s = some (sgA_S x y ((0 : Int))) := by kernel_rfl
theorem sgA_e1 (x y : List Hel) (hl : (x.length : Int) = (y.length : Int)) (hx : (x.length : Int) ≤ 100000) : canonOk 2 42 [] 2 (sgA_hd x y).s = true := canonOkF_eq.symm.trans (by kernel_rfl)
def sgA_X : Nat → VX
  | 0 => .ret
  | 1 => .exit 0
  | _ => .normal
noncomputable def sgA_E (kE : Nat) (x y : List Hel) (y0 : Int) : St := match kE with
  | 0 => ((bodySt (bodyK Try.prog ([] : Vars).length GTab.none 3000 (sgA_hd x y) (sgA_S x y y0 ) [(0, .b 1), (1, .b 1), (2, .b 1), (3, .vals ([Value.int IntKind.u64 (el x y0).fst, Value.int IntKind.i64 (el x y0).snd])), (4, .b 1), (5, .b 1), (6, .vals ([Value.int IntKind.u64 (el y y0).fst, Value.int IntKind.i64 (el y y0).snd])), (7, .b 1)] 2 42 [15, 23, 11, 19, 17, 25, 13, 21, 16, 24, 12, 20, 18, 14, 22] 42 3 0)).updF [(5, .int .i64 y0)] [])
  | 1 => ((bodySt (bodyK Try.prog ([] : Vars).length GTab.none 3000 (sgA_hd x y) (sgA_S x y y0 ) [(0, .b 0)] 2 42 [15, 23, 11, 19, 17, 25, 13, 21, 16, 24, 12, 20, 18, 14, 22] 42 3 0)).updF [(5, .int .i64 y0)] [])
  | _ => (sgA_hd x y).s
theorem sgA_p0 (x y : List Hel) (y0 : Int) : bodyK Try.prog ([] : Vars).length GTab.none 3000 (sgA_hd x y) (sgA_S x y y0 ) [(0, .b 1), (1, .b 1), (2, .b 1), (3, .vals ([Value.int IntKind.u64 (el x y0).fst, Value.int IntKind.i64 (el x y0).snd])), (4, .b 1), (5, .b 1), (6, .vals ([Value.int IntKind.u64 (el y y0).fst, Value.int IntKind.i64 (el y y0).snd])), (7, .b 1)] 2 42 [15, 23, 11, 19, 17, 25, 13, 21, 16, 24, 12, 20, 18, 14, 22] 42 3 0 = some (.ret, sgA_E 0 x y (y0), [(!((el x y0).fst == (el y y0).fst && (el x y0).snd == (el y y0).snd)) = true, segC (rowA (gH) (y)) (((y0).toNat) * 2 + 0) 2 = some ([Value.int IntKind.u64 (el y y0).fst, Value.int IntKind.i64 (el y y0).snd]), (decide (y0 < (↑y.length : Int))) = true, (decide ((0 : Int) ≤ y0)) = true, segC (rowA (gH) (x)) (((y0).toNat) * 2 + 0) 2 = some ([Value.int IntKind.u64 (el x y0).fst, Value.int IntKind.i64 (el x y0).snd]), (decide (y0 < (↑x.length : Int))) = true, (decide ((0 : Int) ≤ y0)) = true, (decide (y0 < (↑x.length : Int))) = true]) := by kernel_rfl
theorem sgA_q0 (x y : List Hel) (y0 : Int) : (sgA_E 0 x y (y0)).hs.next = 42 := by kernel_rfl
theorem sgA_p1 (x y : List Hel) (y0 : Int) : bodyK Try.prog ([] : Vars).length GTab.none 3000 (sgA_hd x y) (sgA_S x y y0 ) [(0, .b 1), (1, .b 1), (2, .b 1), (3, .vals ([Value.int IntKind.u64 (el x y0).fst, Value.int IntKind.i64 (el x y0).snd])), (4, .b 1), (5, .b 1), (6, .vals ([Value.int IntKind.u64 (el y y0).fst, Value.int IntKind.i64 (el y y0).snd])), (7, .b 0)] 2 42 [15, 23, 11, 19, 17, 25, 13, 21, 16, 24, 12, 20, 18, 14, 22] 2 3 0 = some (.normal, (sgA_S x y (IntKind.i64.wrap (y0 + (1 : Int)))), [(!((el x y0).fst == (el y y0).fst && (el x y0).snd == (el y y0).snd)) = false, segC (rowA (gH) (y)) (((y0).toNat) * 2 + 0) 2 = some ([Value.int IntKind.u64 (el y y0).fst, Value.int IntKind.i64 (el y y0).snd]), (decide (y0 < (↑y.length : Int))) = true, (decide ((0 : Int) ≤ y0)) = true, segC (rowA (gH) (x)) (((y0).toNat) * 2 + 0) 2 = some ([Value.int IntKind.u64 (el x y0).fst, Value.int IntKind.i64 (el x y0).snd]), (decide (y0 < (↑x.length : Int))) = true, (decide ((0 : Int) ≤ y0)) = true, (decide (y0 < (↑x.length : Int))) = true]) := by kernel_rfl
theorem sgA_p2 (x y : List Hel) (y0 : Int) : bodyK Try.prog ([] : Vars).length GTab.none 3000 (sgA_hd x y) (sgA_S x y y0 ) [(0, .b 0)] 2 42 [15, 23, 11, 19, 17, 25, 13, 21, 16, 24, 12, 20, 18, 14, 22] 42 3 0 = some (.exit 0, sgA_E 1 x y (y0), [(decide (y0 < (↑x.length : Int))) = false]) := by kernel_rfl
theorem sgA_q2 (x y : List Hel) (y0 : Int) : (sgA_E 1 x y (y0)).hs.next = 42 := by kernel_rfl
theorem sgA_d0 (x y : List Hel) (hl : (x.length : Int) = (y.length : Int)) (hx : (x.length : Int) ≤ 100000) (y0 : Int) (hi : (decide (0 ≤ y0 ∧ y0 ≤ (x.length : Int))) = true) (hq0 : (decide (y0 < (↑x.length : Int))) = true) : (decide ((0 : Int) ≤ y0)) = true := by
  rcases Bool.eq_false_or_eq_true (decide ((0 : Int) ≤ y0)) with h | h
  · exact h
  · exfalso; (first | (simp_all only [Bool.and_eq_true, Bool.not_eq_true', Bool.false_eq_true, Bool.true_eq_false, reduceCtorEq]; done) | (simp only [sx, sy, eq_self, ne_eq, IntKind.wrap_i64, wrapU64, Int.reduceLT] at * <;> first | contradiction | omega) | omega | ((try simp only [sx, sy, eq_self, ne_eq, IntKind.wrap_i64, wrapU64, Int.reduceLT] at *) <;> omega) | (simp_all; done))
theorem sgA_d1 (x y : List Hel) (hl : (x.length : Int) = (y.length : Int)) (hx : (x.length : Int) ≤ 100000) (y0 : Int) (hi : (decide (0 ≤ y0 ∧ y0 ≤ (x.length : Int))) = true) (hq0 : (decide (y0 < (↑x.length : Int))) = true) (hq1 : (decide ((0 : Int) ≤ y0)) = true) : (decide (y0 < (↑y.length : Int))) = true := by
  rcases Bool.eq_false_or_eq_true (decide (y0 < (↑y.length : Int))) with h | h
  · exact h
  · exfalso; (first | (simp_all only [Bool.and_eq_true, Bool.not_eq_true', Bool.false_eq_true, Bool.true_eq_false, reduceCtorEq]; done) | (simp only [sx, sy, eq_self, ne_eq, IntKind.wrap_i64, wrapU64, Int.reduceLT] at * <;> first | contradiction | omega) | omega | ((try simp only [sx, sy, eq_self, ne_eq, IntKind.wrap_i64, wrapU64, Int.reduceLT] at *) <;> omega) | (simp_all; done))
noncomputable def sgA_f (x y : List Hel) : Nat → Int → Option (Nat × (Int))
  | 0, _ => none
  | fu + 1, y0 => (bif (decide (0 ≤ y0 ∧ y0 ≤ (x.length : Int))) then (bif (decide (y0 < (↑x.length : Int))) then (bif (!((el x y0).fst == (el y y0).fst && (el x y0).snd == (el y y0).snd)) then some (0, (y0)) else sgA_f x y fu (IntKind.i64.wrap (y0 + (1 : Int)))) else some (1, (y0))) else none)
theorem sgA_fs (x y : List Hel) (fu : Nat) (y0 : Int) : sgA_f x y (fu + 1) y0 = (bif (decide (0 ≤ y0 ∧ y0 ≤ (x.length : Int))) then (bif (decide (y0 < (↑x.length : Int))) then (bif (!((el x y0).fst == (el y y0).fst && (el x y0).snd == (el y y0).snd)) then some (0, (y0)) else sgA_f x y fu (IntKind.i64.wrap (y0 + (1 : Int)))) else some (1, (y0))) else none) := rfl
theorem sgA_f0 (x y : List Hel) (y0 : Int) : sgA_f x y 0 y0 = none := rfl
theorem sgA_loop (x y : List Hel) (hl : (x.length : Int) = (y.length : Int)) (hx : (x.length : Int) ≤ 100000) : ∀ (fu : Nat) (y0 : Int) (kk : Nat) (zz : Int), sgA_f x y fu y0 = some (kk, zz) → VStep (sgA_hd x y).s.hs (sgA_S x y y0 ).hs → RoundsC Try.prog [] 2 42 (sgA_hd x y).s.hs (sgA_hd x y).ro (sgA_hd x y).a (sgA_S x y y0 ) (sgA_X kk) (sgA_E kk x y zz ) ∧ ((sgA_E kk x y zz )).hs.next = 42 := by
  intro fu
  induction fu with
  | zero =>
    intro y0 kk zz hf hSz
    have hf := (sgA_f0 x y y0 ).symm.trans hf
    simp at hf
  | succ fu ih =>
    intro y0 kk zz hf hSz
    have hf := (sgA_fs x y fu y0 ).symm.trans hf
    rcases bif_or hf with ⟨hi, hf⟩ | ⟨hi, hf⟩
    case inr => cases hf
    rcases bif_or hf with ⟨hq0, hf⟩ | ⟨hq0, hf⟩
    ·
      have hq1 := sgA_d0 x y hl hx y0 hi hq0 
      have hq2 := sgA_d1 x y hl hx y0 hi hq0 hq1 
      rcases bif_or hf with ⟨hq3, hf⟩ | ⟨hq3, hf⟩
      ·
        injection hf with hf; injection hf with e1 e2; subst e1; subst e2; have hb1 := sgA_p0 x y y0 ; have hb2 := body_canon hb1; have hb3 := hb2 ⟨hq3, (seg_row (g := (gH)) (k := 2) (fun _ => rfl) (by first | exact of_decide_eq_true hq1 | simpa using of_decide_eq_true hq1) (by first | exact of_decide_eq_true hq2 | (simpa using of_decide_eq_true hq2; done) | (have hx1 := of_decide_eq_true hq2; have hx2 := of_decide_eq_true hi; simp only [List.length_reverse, List.length_set] at *; omega)) (by decide) rfl), hq2, hq1, (seg_row (g := (gH)) (k := 2) (fun _ => rfl) (by first | exact of_decide_eq_true hq1 | simpa using of_decide_eq_true hq1) (by first | exact of_decide_eq_true hq0 | (simpa using of_decide_eq_true hq0; done) | (have hx1 := of_decide_eq_true hq0; have hx2 := of_decide_eq_true hi; simp only [List.length_reverse, List.length_set] at *; omega)) (by decide) rfl), hq0, hq1, hq0, trivial⟩; obtain ⟨sz1, kz1, kz2, kz3⟩ := hb3; exact ⟨rounds_end mix (T := GTab.none) GOk.none (sgA_n x y hl hx ) (sgA_r x y hl hx ) (sgA_w x y hl hx ) kz1 (fun h => by cases h) hSz kz2 kz3, sgA_q0 x y y0 ⟩
      ·
        have hb1 := sgA_p1 x y y0 ; have hb2 := body_canon hb1; have hb3 := hb2 ⟨hq3, (seg_row (g := (gH)) (k := 2) (fun _ => rfl) (by first | exact of_decide_eq_true hq1 | simpa using of_decide_eq_true hq1) (by first | exact of_decide_eq_true hq2 | (simpa using of_decide_eq_true hq2; done) | (have hx1 := of_decide_eq_true hq2; have hx2 := of_decide_eq_true hi; simp only [List.length_reverse, List.length_set] at *; omega)) (by decide) rfl), hq2, hq1, (seg_row (g := (gH)) (k := 2) (fun _ => rfl) (by first | exact of_decide_eq_true hq1 | simpa using of_decide_eq_true hq1) (by first | exact of_decide_eq_true hq0 | (simpa using of_decide_eq_true hq0; done) | (have hx1 := of_decide_eq_true hq0; have hx2 := of_decide_eq_true hi; simp only [List.length_reverse, List.length_set] at *; omega)) (by decide) rfl), hq0, hq1, hq0, trivial⟩; obtain ⟨sz1, kz1, kz2, kz3⟩ := hb3; obtain ⟨gz1, gz2⟩ := ih (IntKind.i64.wrap (y0 + (1 : Int))) kk zz hf (rounds_step mix (T := GTab.none) GOk.none (sgA_n x y hl hx ) (sgA_r x y hl hx ) (sgA_w x y hl hx ) kz1 hSz kz2 kz3); exact ⟨rounds_next mix (T := GTab.none) GOk.none (sgA_n x y hl hx ) (sgA_r x y hl hx ) (sgA_w x y hl hx ) kz1 hSz kz2 kz3 (fun _ => gz1), gz2⟩
    ·
      injection hf with hf; injection hf with e1 e2; subst e1; subst e2; have hb1 := sgA_p2 x y y0 ; have hb2 := body_canon hb1; have hb3 := hb2 ⟨hq0, trivial⟩; obtain ⟨sz1, kz1, kz2, kz3⟩ := hb3; exact ⟨rounds_end mix (T := GTab.none) GOk.none (sgA_n x y hl hx ) (sgA_r x y hl hx ) (sgA_w x y hl hx ) kz1 (fun h => by cases h) hSz kz2 kz3, sgA_q2 x y y0 ⟩
theorem sgA_ok (x y : List Hel) (hl : (x.length : Int) = (y.length : Int)) (hx : (x.length : Int) ≤ 100000) (fu kk : Nat) (zz : Int) (hf : sgA_f x y fu ((0 : Int)) = some (kk, zz)) : ∀ B : Bd, B.L = [] → LoopOk Try.prog B (sgA_hd x y).ro (sgA_hd x y).a (sgA_hd x y).s (sgA_X kk) (sgA_E kk x y zz ) := by
  have hSz := begin_step (sgA_n x y hl hx ) (sgA_r x y hl hx ) (sgA_w x y hl hx ) (sgA_e0 x y hl hx ) (sgA_e1 x y hl hx )
  obtain ⟨gz1, gz2⟩ := sgA_loop x y hl hx fu ((0 : Int)) kk zz hf hSz
  exact rounds_ok (sgA_n x y hl hx ) (Nat.le_of_ble_eq_true (by kernel_rfl)) gz2 (rounds_begin (sgA_n x y hl hx ) (sgA_r x y hl hx ) (sgA_w x y hl hx ) (sgA_e0 x y hl hx ) (sgA_e1 x y hl hx ) (fun _ => gz1))

theorem sg0_p0 (x y : List Hel) (sgA_z0 : Int)  (hl : (x.length : Int) = (y.length : Int)) (hx : (x.length : Int) ≤ 100000) (sgA_k0 : ((↑x.length : Int) != (↑y.length : Int)) = false) (sgA_l : ∀ B : Bd, B.L = [] → LoopOk Try.prog B (sgA_hd x y).ro (sgA_hd x y).a (sgA_hd x y).s (sgA_X 0) (sgA_E 0 x y sgA_z0 )) : KnownR Try.prog [] 31 [.list (rowA gH x) x.length, .list (rowA gH y) y.length] (.bool (false)) [] :=
  knownR_eq (v := Value.bool false) (bs := []) (open_resD mix (GOk.add GOk.none sgA_l) (T := (GTab.add GTab.none 5 (sgA_hd x y).ro (sgA_hd x y).a (sgA_hd x y).s (sgA_X 0) (sgA_E 0 x y sgA_z0 ) (by kernel_rfl))) (fuel := 3000) (es := []) (ans := [(0, .b 0), (1, .loop (sgA_X 0) (sgA_E 0 x y sgA_z0 )), ]) (log := [LoopRes Try.prog ([] : Vars).length (GTab.add GTab.none 5 (sgA_hd x y).ro (sgA_hd x y).a (sgA_hd x y).s (sgA_X 0) (sgA_E 0 x y sgA_z0 ) (by kernel_rfl)) (sgA_hd x y).ro (sgA_hd x y).a (sgA_hd x y).s (sgA_X 0) (sgA_E 0 x y sgA_z0 ), ((↑x.length : Int) != (↑y.length : Int)) = false]) (by kernel_rfl) ⟨(loop_known2 add_eq), sgA_k0, trivial⟩ (by kernel_rfl)) (by first | rfl | (simp; done) | (simp_all; done)) (by first | rfl | (simp [rowA_nil]; done) | (simp only [rowA_eq]; rfl) | (simp_all [rowA_nil]; done))
set_option maxHeartbeats 8000000 in
theorem sg0 (x y : List Hel) (sgA_z0 : Int)  (hl : (x.length : Int) = (y.length : Int)) (hx : (x.length : Int) ≤ 100000) (sgA_k0 : ((↑x.length : Int) != (↑y.length : Int)) = false) (sgA_l : ∀ B : Bd, B.L = [] → LoopOk Try.prog B (sgA_hd x y).ro (sgA_hd x y).a (sgA_hd x y).s (sgA_X 0) (sgA_E 0 x y sgA_z0 )) : KnownR Try.prog [] 31 [.list (rowA gH x) x.length, .list (rowA gH y) y.length] (.bool (false)) [] := by
  exact sg0_p0 x y sgA_z0 hl hx sgA_k0 sgA_l

theorem sg1_p0 (x y : List Hel) (sgA_z0 : Int)  (hl : (x.length : Int) = (y.length : Int)) (hx : (x.length : Int) ≤ 100000) (sgA_k0 : ((↑x.length : Int) != (↑y.length : Int)) = false) (sgA_l : ∀ B : Bd, B.L = [] → LoopOk Try.prog B (sgA_hd x y).ro (sgA_hd x y).a (sgA_hd x y).s (sgA_X 1) (sgA_E 1 x y sgA_z0 )) : KnownR Try.prog [] 31 [.list (rowA gH x) x.length, .list (rowA gH y) y.length] (.bool (true)) [] :=
  knownR_eq (v := Value.bool true) (bs := []) (open_resD mix (GOk.add GOk.none sgA_l) (T := (GTab.add GTab.none 5 (sgA_hd x y).ro (sgA_hd x y).a (sgA_hd x y).s (sgA_X 1) (sgA_E 1 x y sgA_z0 ) (by kernel_rfl))) (fuel := 3000) (es := []) (ans := [(0, .b 0), (1, .loop (sgA_X 1) (sgA_E 1 x y sgA_z0 )), ]) (log := [LoopRes Try.prog ([] : Vars).length (GTab.add GTab.none 5 (sgA_hd x y).ro (sgA_hd x y).a (sgA_hd x y).s (sgA_X 1) (sgA_E 1 x y sgA_z0 ) (by kernel_rfl)) (sgA_hd x y).ro (sgA_hd x y).a (sgA_hd x y).s (sgA_X 1) (sgA_E 1 x y sgA_z0 ), ((↑x.length : Int) != (↑y.length : Int)) = false]) (by kernel_rfl) ⟨(loop_known2 add_eq), sgA_k0, trivial⟩ (by kernel_rfl)) (by first | rfl | (simp; done) | (simp_all; done)) (by first | rfl | (simp [rowA_nil]; done) | (simp only [rowA_eq]; rfl) | (simp_all [rowA_nil]; done))
set_option maxHeartbeats 8000000 in
theorem sg1 (x y : List Hel) (sgA_z0 : Int)  (hl : (x.length : Int) = (y.length : Int)) (hx : (x.length : Int) ≤ 100000) (sgA_k0 : ((↑x.length : Int) != (↑y.length : Int)) = false) (sgA_l : ∀ B : Bd, B.L = [] → LoopOk Try.prog B (sgA_hd x y).ro (sgA_hd x y).a (sgA_hd x y).s (sgA_X 1) (sgA_E 1 x y sgA_z0 )) : KnownR Try.prog [] 31 [.list (rowA gH x) x.length, .list (rowA gH y) y.length] (.bool (true)) [] := by
  exact sg1_p0 x y sgA_z0 hl hx sgA_k0 sgA_l

theorem sgE_p0 (x y : List Hel) (hl : ¬ (x.length : Int) = (y.length : Int)) (hq0 : ((↑x.length : Int) != (↑y.length : Int)) = true) : KnownR Try.prog [] 31 [.list (rowA gH x) x.length, .list (rowA gH y) y.length] (.bool (false)) [] :=
  knownR_eq (v := Value.bool false) (bs := []) (open_resD mix GOk.none (T := GTab.none) (fuel := 3000) (es := []) (ans := [(0, .b 1)]) (log := [((↑x.length : Int) != (↑y.length : Int)) = true]) (by kernel_rfl) ⟨hq0, trivial⟩ (by kernel_rfl)) (by first | rfl | (simp; done) | (simp_all; done)) (by first | rfl | (simp [rowA_nil]; done) | (simp only [rowA_eq]; rfl) | (simp_all [rowA_nil]; done))
set_option maxHeartbeats 8000000 in
theorem sgE (x y : List Hel) (hl : ¬ (x.length : Int) = (y.length : Int)) : KnownR Try.prog [] 31 [.list (rowA gH x) x.length, .list (rowA gH y) y.length] (.bool (false)) [] := by
  have hq0 : ((↑x.length : Int) != (↑y.length : Int)) = true := by
    rcases Bool.eq_false_or_eq_true ((↑x.length : Int) != (↑y.length : Int)) with h | h
    · exact h
    · exfalso; (first | (simp_all only [Bool.and_eq_true, Bool.not_eq_true', Bool.false_eq_true, Bool.true_eq_false, reduceCtorEq]; done) | (simp only [sx, sy, eq_self, ne_eq, IntKind.wrap_i64, wrapU64, Int.reduceLT] at * <;> first | contradiction | omega) | omega | ((try simp only [sx, sy, eq_self, ne_eq, IntKind.wrap_i64, wrapU64, Int.reduceLT] at *) <;> omega) | (simp_all; done))
  exact sgE_p0 x y hl hq0

end Go.Proofs.Ytpmcjjpgkoagoaa
