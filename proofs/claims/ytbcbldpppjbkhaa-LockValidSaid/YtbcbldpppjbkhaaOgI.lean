/- Layer 17: Slam of a closed car door; two lists of locks are compared. -/
import Derived.Test.YtbcbldpppjbkhaaOgH
import Derived.ProofKit
import Derived.IntWalk
namespace Go.Proofs.Ytbcbldpppjbkhaa
open Go Go.RowKit
set_option linter.unusedVariables false
set_option linter.unusedSimpArgs false
set_option linter.unnecessarySimpa false
set_option maxHeartbeats 8000000
set_option maxRecDepth 100000
noncomputable def slB_hd (l : List Bool) : Hd := headD Try.prog [] tabH 3000 13 [.agg [.val (.bool true), .list (rowA gB l) l.length]] [(0, .outs (Value.int IntKind.i64 (ckC true l)) ([])), (1, .b 0), (7, .stop)]
noncomputable def slB_S (l : List Bool) (y0 : Int) : St := ((entryK 10 50 [3, 15, 23, 19, 17, 21, 4, 16, 24, 20, 18, 22] 1023 1022 (slB_hd l).s).updF [(14, .int .i64 y0)] [])
theorem slB_n (l : List Bool) (hl : 2 ≤ (l.length : Int) ∧ (l.length : Int) ≤ 64) (hc : ckC true l = 0) : 10 = (slB_hd l).s.hs.next := by kernel_rfl
theorem slB_r (l : List Bool) (hl : 2 ≤ (l.length : Int) ∧ (l.length : Int) ≤ 64) (hc : ckC true l = 0) : (slB_hd l).s.hs.rd < bitOf 10 := by
  have e : (slB_hd l).s.hs.rd = 739 := by kernel_rfl
  rw [e]; exact blt_iff.1 (by kernel_rfl)
theorem slB_w (l : List Bool) (hl : 2 ≤ (l.length : Int) ∧ (l.length : Int) ≤ 64) (hc : ckC true l = 0) : (slB_hd l).s.hs.wr < bitOf 10 := by
  have e : (slB_hd l).s.hs.wr = 1022 := by kernel_rfl
  rw [e]; exact blt_iff.1 (by kernel_rfl)
theorem slB_e0 (l : List Bool) (hl : 2 ≤ (l.length : Int) ∧ (l.length : Int) ≤ 64) (hc : ckC true l = 0) : canonS 10 50 [] [3, 15, 23, 19, 17, 21, 4, 16, 24, 20, 18, 22] 10 1023 1022 (slB_hd l).s = some (slB_S l ((0 : Int))) := by kernel_rfl
theorem slB_e1 (l : List Bool) (hl : 2 ≤ (l.length : Int) ∧ (l.length : Int) ≤ 64) (hc : ckC true l = 0) : canonOk 10 50 [] 10 (slB_hd l).s = true := canonOkF_eq.symm.trans (by kernel_rfl)
def slB_X : Nat → VX
  | 0 => .ret
  | 1 => .exit 0
  | _ => .normal
noncomputable def slB_E (kE : Nat) (l : List Bool) (y0 : Int) : St := match kE with
  | 0 => bodySt (bodyR Try.prog ([] : Vars).length tabH 3000 (slB_hd l) (slB_S l y0 ) [(0, .b 1), (1, .b 1), (2, .b 1), (3, .vals ([Value.bool (el l y0)])), (4, .b 1), (7, .b 1), (8, .vals (List.flatMap (gB) (l))), (9, .b 1), (10, .arr (rowA (gB) (l))), (11, .b 1), (12, .b 1), (13, .b 1), (14, .yes), (15, .arr (rowA (gB) (l.set y0.toNat true)))] 10 50 [(16, 10)] [3, 15, 23, 19, 17, 21, 4, 16, 24, 20, 18, 22] 50 1023 1022)
  | 1 => (((bodySt (bodyK Try.prog ([] : Vars).length tabH 3000 (slB_hd l) (slB_S l y0 ) [(0, .b 0)] 10 50 [3, 15, 23, 19, 17, 21, 4, 16, 24, 20, 18, 22] 50 1023 1022))).updF [(14, .int .i64 y0)] [])
  | _ => (slB_hd l).s
theorem slB_p0 (l : List Bool) (y0 : Int) : bodyR Try.prog ([] : Vars).length tabH 3000 (slB_hd l) (slB_S l y0 ) [(0, .b 1), (1, .b 1), (2, .b 1), (3, .vals ([Value.bool (el l y0)])), (4, .b 1), (7, .b 1), (8, .vals (List.flatMap (gB) (l))), (9, .b 1), (10, .arr (rowA (gB) (l))), (11, .b 1), (12, .b 1), (13, .b 1), (14, .yes), (15, .arr (rowA (gB) (l.set y0.toNat true)))] 10 50 [(16, 10)] [3, 15, 23, 19, 17, 21, 4, 16, 24, 20, 18, 22] 50 1023 1022 = some (.ret, bodySt (bodyR Try.prog ([] : Vars).length tabH 3000 (slB_hd l) (slB_S l y0 ) [(0, .b 1), (1, .b 1), (2, .b 1), (3, .vals ([Value.bool (el l y0)])), (4, .b 1), (7, .b 1), (8, .vals (List.flatMap (gB) (l))), (9, .b 1), (10, .arr (rowA (gB) (l))), (11, .b 1), (12, .b 1), (13, .b 1), (14, .yes), (15, .arr (rowA (gB) (l.set y0.toNat true)))] 10 50 [(16, 10)] [3, 15, 23, 19, 17, 21, 4, 16, 24, 20, 18, 22] 50 1023 1022), [spliceC (rowA (gB) (l)) (((y0).toNat) * 1 + 0) ([Value.bool true]) = rowA (gB) (l.set y0.toNat true), (Nat.ble (Nat.add (((y0).toNat) * 1 + 0) 1) (rowA (gB) (l)).size) = true, (decide (y0 < (↑l.length : Int))) = true, (decide ((0 : Int) ≤ y0)) = true, (y0 != (-1 : Int)) = true, (List.flatMap (gB) (l)).toArray = rowA (gB) (l), (decide (l.length * (1 : Nat) < (1000000000 : Nat))) = true, segC (rowA (gB) (l)) 0 ((l.length) * 1) = some (List.flatMap (gB) (l)), (y0 != (-1 : Int)) = true, (!el l y0) = true, segC (rowA (gB) (l)) (((y0).toNat) * 1 + 0) 1 = some ([Value.bool (el l y0)]), (decide (y0 < (↑l.length : Int))) = true, (decide ((0 : Int) ≤ y0)) = true, (decide (y0 < (↑l.length : Int))) = true]) := by kernel_rfl
theorem slB_q0 (l : List Bool) (y0 : Int) : (bodySt (bodyR Try.prog ([] : Vars).length tabH 3000 (slB_hd l) (slB_S l y0 ) [(0, .b 1), (1, .b 1), (2, .b 1), (3, .vals ([Value.bool (el l y0)])), (4, .b 1), (7, .b 1), (8, .vals (List.flatMap (gB) (l))), (9, .b 1), (10, .arr (rowA (gB) (l))), (11, .b 1), (12, .b 1), (13, .b 1), (14, .yes), (15, .arr (rowA (gB) (l.set y0.toNat true)))] 10 50 [(16, 10)] [3, 15, 23, 19, 17, 21, 4, 16, 24, 20, 18, 22] 50 1023 1022)).hs.next = 50 := by kernel_rfl
theorem slB_p1 (l : List Bool) (y0 : Int) : bodyK Try.prog ([] : Vars).length tabH 3000 (slB_hd l) (slB_S l y0 ) [(0, .b 1), (1, .b 1), (2, .b 1), (3, .vals ([Value.bool (el l y0)])), (4, .b 0)] 10 50 [3, 15, 23, 19, 17, 21, 4, 16, 24, 20, 18, 22] 10 1023 1022 = some (.normal, (slB_S l (IntKind.i64.wrap (y0 + (1 : Int)))), [(!el l y0) = false, segC (rowA (gB) (l)) (((y0).toNat) * 1 + 0) 1 = some ([Value.bool (el l y0)]), (decide (y0 < (↑l.length : Int))) = true, (decide ((0 : Int) ≤ y0)) = true, (decide (y0 < (↑l.length : Int))) = true]) := by kernel_rfl
theorem slB_p2 (l : List Bool) (y0 : Int) : bodyK Try.prog ([] : Vars).length tabH 3000 (slB_hd l) (slB_S l y0 ) [(0, .b 0)] 10 50 [3, 15, 23, 19, 17, 21, 4, 16, 24, 20, 18, 22] 50 1023 1022 = some (.exit 0, slB_E 1 l (y0), [(decide (y0 < (↑l.length : Int))) = false]) := by kernel_rfl
theorem slB_q2 (l : List Bool) (y0 : Int) : (slB_E 1 l (y0)).hs.next = 50 := by kernel_rfl
theorem slB_d0 (l : List Bool) (hl : 2 ≤ (l.length : Int) ∧ (l.length : Int) ≤ 64) (hc : ckC true l = 0) (y0 : Int) (hi : (decide (0 ≤ y0 ∧ y0 ≤ (l.length : Int))) = true) (hq0 : (decide (y0 < (↑l.length : Int))) = true) : (decide ((0 : Int) ≤ y0)) = true := by
  rcases Bool.eq_false_or_eq_true (decide ((0 : Int) ≤ y0)) with h | h
  · exact h
  · exfalso; (first | (simp_all only [Bool.and_eq_true, Bool.not_eq_true', Bool.false_eq_true, Bool.true_eq_false, reduceCtorEq]; done) | (simp only [sx, sy, eq_self, ne_eq, IntKind.wrap_i64, wrapU64, Int.reduceLT] at * <;> first | contradiction | omega) | omega | ((try simp only [sx, sy, eq_self, ne_eq, IntKind.wrap_i64, wrapU64, Int.reduceLT] at *) <;> omega) | (simp_all; done))
theorem slB_d1 (l : List Bool) (hl : 2 ≤ (l.length : Int) ∧ (l.length : Int) ≤ 64) (hc : ckC true l = 0) (y0 : Int) (hi : (decide (0 ≤ y0 ∧ y0 ≤ (l.length : Int))) = true) (hq0 : (decide (y0 < (↑l.length : Int))) = true) (hq1 : (decide ((0 : Int) ≤ y0)) = true) (hq2 : (!el l y0) = true) : (y0 != (-1 : Int)) = true := by
  rcases Bool.eq_false_or_eq_true (y0 != (-1 : Int)) with h | h
  · exact h
  · exfalso; (first | (simp_all only [Bool.and_eq_true, Bool.not_eq_true', Bool.false_eq_true, Bool.true_eq_false, reduceCtorEq]; done) | (simp only [sx, sy, eq_self, ne_eq, IntKind.wrap_i64, wrapU64, Int.reduceLT] at * <;> first | contradiction | omega) | omega | ((try simp only [sx, sy, eq_self, ne_eq, IntKind.wrap_i64, wrapU64, Int.reduceLT] at *) <;> omega) | (simp_all; done))
theorem slB_d2 (l : List Bool) (hl : 2 ≤ (l.length : Int) ∧ (l.length : Int) ≤ 64) (hc : ckC true l = 0) (y0 : Int) (hi : (decide (0 ≤ y0 ∧ y0 ≤ (l.length : Int))) = true) (hq0 : (decide (y0 < (↑l.length : Int))) = true) (hq1 : (decide ((0 : Int) ≤ y0)) = true) (hq2 : (!el l y0) = true) (hq3 : (y0 != (-1 : Int)) = true) : (decide (l.length * (1 : Nat) < (1000000000 : Nat))) = true := by
  rcases Bool.eq_false_or_eq_true (decide (l.length * (1 : Nat) < (1000000000 : Nat))) with h | h
  · exact h
  · exfalso; (first | (simp_all only [Bool.and_eq_true, Bool.not_eq_true', Bool.false_eq_true, Bool.true_eq_false, reduceCtorEq]; done) | (simp only [sx, sy, eq_self, ne_eq, IntKind.wrap_i64, wrapU64, Int.reduceLT] at * <;> first | contradiction | omega) | omega | ((try simp only [sx, sy, eq_self, ne_eq, IntKind.wrap_i64, wrapU64, Int.reduceLT] at *) <;> omega) | (simp_all; done))
noncomputable def slB_f (l : List Bool) : Nat → Int → Option (Nat × (Int))
  | 0, _ => none
  | fu + 1, y0 => (bif (decide (0 ≤ y0 ∧ y0 ≤ (l.length : Int))) then (bif (decide (y0 < (↑l.length : Int))) then (bif (!el l y0) then some (0, y0) else slB_f l fu (IntKind.i64.wrap (y0 + (1 : Int)))) else some (1, (y0))) else none)
theorem slB_fs (l : List Bool) (fu : Nat) (y0 : Int) : slB_f l (fu + 1) y0 = (bif (decide (0 ≤ y0 ∧ y0 ≤ (l.length : Int))) then (bif (decide (y0 < (↑l.length : Int))) then (bif (!el l y0) then some (0, y0) else slB_f l fu (IntKind.i64.wrap (y0 + (1 : Int)))) else some (1, (y0))) else none) := rfl
theorem slB_f0 (l : List Bool) (y0 : Int) : slB_f l 0 y0 = none := rfl
theorem slB_loop (l : List Bool) (hl : 2 ≤ (l.length : Int) ∧ (l.length : Int) ≤ 64) (hc : ckC true l = 0) : ∀ (fu : Nat) (y0 : Int) (kk : Nat) (zz : Int), slB_f l fu y0 = some (kk, zz) → VStep (slB_hd l).s.hs (slB_S l y0 ).hs → RoundsC Try.prog [] 10 50 (slB_hd l).s.hs (slB_hd l).ro (slB_hd l).a (slB_S l y0 ) (slB_X kk) (slB_E kk l zz ) ∧ ((slB_E kk l zz )).hs.next = 50 := by
  intro fu
  induction fu with
  | zero =>
    intro y0 kk zz hf hSz
    have hf := (slB_f0 l y0 ).symm.trans hf
    simp at hf
  | succ fu ih =>
    intro y0 kk zz hf hSz
    have hf := (slB_fs l fu y0 ).symm.trans hf
    rcases bif_or hf with ⟨hi, hf⟩ | ⟨hi, hf⟩
    case inr => cases hf
    rcases bif_or hf with ⟨hq0, hf⟩ | ⟨hq0, hf⟩
    ·
      have hq1 := slB_d0 l hl hc y0 hi hq0 
      rcases bif_or hf with ⟨hq2, hf⟩ | ⟨hq2, hf⟩
      ·
        have hq3 := slB_d1 l hl hc y0 hi hq0 hq1 hq2 
        have hq4 := slB_d2 l hl hc y0 hi hq0 hq1 hq2 hq3 
        injection hf with hf; injection hf with e1 e2; subst e1; subst e2; have hb1 := slB_p0 l y0 ; have hb2 := body_canonR hb1; have hb3 := hb2 ⟨(row_set (g := (gB)) (k := 1) (fun _ => rfl) (by first | exact of_decide_eq_true hq1 | simpa using of_decide_eq_true hq1) (by first | exact of_decide_eq_true hq0 | (simpa using of_decide_eq_true hq0; done) | (have hx1 := of_decide_eq_true hq0; have hx2 := of_decide_eq_true hi; simp only [List.length_reverse, List.length_set] at *; omega)) (by decide) rfl), (fact_room (g := (gB)) (fun _ => rfl) (by first | exact of_decide_eq_true hq1 | simpa using of_decide_eq_true hq1) (by first | exact of_decide_eq_true hq0 | (simpa using of_decide_eq_true hq0; done) | (have hx1 := of_decide_eq_true hq0; have hx2 := of_decide_eq_true hi; simp only [List.length_reverse, List.length_set] at *; omega)) (by decide)), hq0, hq1, hq3, (row_new (g := (gB)) rfl), hq4, (seg_all2 (g := (gB)) (k := 1) (fun _ => rfl) (by first | rfl | simp)), hq3, hq2, (seg_row (g := (gB)) (k := 1) (fun _ => rfl) (by first | exact of_decide_eq_true hq1 | simpa using of_decide_eq_true hq1) (by first | exact of_decide_eq_true hq0 | (simpa using of_decide_eq_true hq0; done) | (have hx1 := of_decide_eq_true hq0; have hx2 := of_decide_eq_true hi; simp only [List.length_reverse, List.length_set] at *; omega)) (by decide) rfl), hq0, hq1, hq0, trivial⟩; obtain ⟨sz1, kz1, kz2, kz3⟩ := hb3; exact ⟨rounds_end mix (T := tabH) tabH_ok (slB_n l hl hc ) (slB_r l hl hc ) (slB_w l hl hc ) kz1 (fun h => by cases h) hSz kz2 kz3, slB_q0 l y0 ⟩
      ·
        have hb1 := slB_p1 l y0 ; have hb2 := body_canon hb1; have hb3 := hb2 ⟨hq2, (seg_row (g := (gB)) (k := 1) (fun _ => rfl) (by first | exact of_decide_eq_true hq1 | simpa using of_decide_eq_true hq1) (by first | exact of_decide_eq_true hq0 | (simpa using of_decide_eq_true hq0; done) | (have hx1 := of_decide_eq_true hq0; have hx2 := of_decide_eq_true hi; simp only [List.length_reverse, List.length_set] at *; omega)) (by decide) rfl), hq0, hq1, hq0, trivial⟩; obtain ⟨sz1, kz1, kz2, kz3⟩ := hb3; obtain ⟨gz1, gz2⟩ := ih (IntKind.i64.wrap (y0 + (1 : Int))) kk zz hf (rounds_step mix (T := tabH) tabH_ok (slB_n l hl hc ) (slB_r l hl hc ) (slB_w l hl hc ) kz1 hSz kz2 kz3); exact ⟨rounds_next mix (T := tabH) tabH_ok (slB_n l hl hc ) (slB_r l hl hc ) (slB_w l hl hc ) kz1 hSz kz2 kz3 (fun _ => gz1), gz2⟩
    ·
      injection hf with hf; injection hf with e1 e2; subst e1; subst e2; have hb1 := slB_p2 l y0 ; have hb2 := body_canon hb1; have hb3 := hb2 ⟨hq0, trivial⟩; obtain ⟨sz1, kz1, kz2, kz3⟩ := hb3; exact ⟨rounds_end mix (T := tabH) tabH_ok (slB_n l hl hc ) (slB_r l hl hc ) (slB_w l hl hc ) kz1 (fun h => by cases h) hSz kz2 kz3, slB_q2 l y0 ⟩
theorem slB_ok (l : List Bool) (hl : 2 ≤ (l.length : Int) ∧ (l.length : Int) ≤ 64) (hc : ckC true l = 0) (fu kk : Nat) (zz : Int) (hf : slB_f l fu ((0 : Int)) = some (kk, zz)) : ∀ B : Bd, B.L = [] → LoopOk Try.prog B (slB_hd l).ro (slB_hd l).a (slB_hd l).s (slB_X kk) (slB_E kk l zz ) := by
  have hSz := begin_step (slB_n l hl hc ) (slB_r l hl hc ) (slB_w l hl hc ) (slB_e0 l hl hc ) (slB_e1 l hl hc )
  obtain ⟨gz1, gz2⟩ := slB_loop l hl hc fu ((0 : Int)) kk zz hf hSz
  exact rounds_ok (slB_n l hl hc ) (Nat.le_of_ble_eq_true (by kernel_rfl)) gz2 (rounds_begin (slB_n l hl hc ) (slB_r l hl hc ) (slB_w l hl hc ) (slB_e0 l hl hc ) (slB_e1 l hl hc ) (fun _ => gz1))

theorem slBL_p0 (l : List Bool) (slB_z0 : Int)  (hl : 2 ≤ (l.length : Int) ∧ (l.length : Int) ≤ 64) (hc : ckC true l = 0) (slB_k1 : (ckC true l != (0 : Int)) = false) (slB_l : ∀ B : Bd, B.L = [] → LoopOk Try.prog B (slB_hd l).ro (slB_hd l).a (slB_hd l).s (slB_X 1) (slB_E 1 l slB_z0 )) : KnownR Try.prog [] 13 [.agg [.val (.bool true), .list (rowA gB l) l.length]] (.tuple #[(.agg #[(.bool (false)), (.complex .f64 0 ((([] : List Bool))).length)]), (.int .i64 ((0 : Int))), (.int .i64 ((6 : Int)))]) [(rowA gB ((([] : List Bool))), 4)] :=
  knownR_eq (v := Value.tuple { toList := [Value.agg { toList := [Value.bool false, Value.complex FloatKind.f64 (nat_lit 0) (nat_lit 0)] }, Value.int IntKind.i64 (0 : Int), Value.int IntKind.i64 (6 : Int)] }) (bs := [({ toList := [] }, nat_lit 4)]) (open_resD mix (GOk.add tabH_ok slB_l) (T := (GTab.add tabH 3 (slB_hd l).ro (slB_hd l).a (slB_hd l).s (slB_X 1) (slB_E 1 l slB_z0 ) (by kernel_rfl))) (fuel := 3000) (es := [4]) (ans := [(0, .outs (Value.int IntKind.i64 (ckC true l)) ([])), (1, .b 0), (7, .loop (slB_X 1) (slB_E 1 l slB_z0 )), ]) (log := [LoopRes Try.prog ([] : Vars).length (GTab.add tabH 3 (slB_hd l).ro (slB_hd l).a (slB_hd l).s (slB_X 1) (slB_E 1 l slB_z0 ) (by kernel_rfl)) (slB_hd l).ro (slB_hd l).a (slB_hd l).s (slB_X 1) (slB_E 1 l slB_z0 ), (ckC true l != (0 : Int)) = false, (GTab.lookD (tabH) ((25 : Nat)) ([D.agg [D.val (Value.bool true), D.list (rowA gB l) l.length]])) = some (Value.int IntKind.i64 (ckC true l), [])]) (by kernel_rfl) ⟨(loop_known2 add_eq), slB_k1, (ckD_at (true) (l) (l.length) (by first | rfl | assumption | omega | (simp; done) | (simp_all; done) | (simp_all; omega))), trivial⟩ (by kernel_rfl)) (by first | rfl | (simp; done) | (simp_all; done)) (by first | rfl | (simp [rowA_nil]; done) | (simp only [rowA_eq]; rfl) | (simp_all [rowA_nil]; done))
set_option maxHeartbeats 8000000 in
theorem slBL (l : List Bool) (slB_z0 : Int)  (hl : 2 ≤ (l.length : Int) ∧ (l.length : Int) ≤ 64) (hc : ckC true l = 0) (slB_k1 : (ckC true l != (0 : Int)) = false) (slB_l : ∀ B : Bd, B.L = [] → LoopOk Try.prog B (slB_hd l).ro (slB_hd l).a (slB_hd l).s (slB_X 1) (slB_E 1 l slB_z0 )) : KnownR Try.prog [] 13 [.agg [.val (.bool true), .list (rowA gB l) l.length]] (.tuple #[(.agg #[(.bool (false)), (.complex .f64 0 ((([] : List Bool))).length)]), (.int .i64 ((0 : Int))), (.int .i64 ((6 : Int)))]) [(rowA gB ((([] : List Bool))), 4)] := by
  exact slBL_p0 l slB_z0 hl hc slB_k1 slB_l

noncomputable def sbA_hd (l : List Bool) : Hd := headD Try.prog [] GTab.none 3000 45 [.list (rowA gB l) l.length, .list (rowA gB l) l.length] [(0, .b 0), (1, .stop)]
noncomputable def sbA_S (l : List Bool) (y0 : Int) : St := ((entryK 2 42 [15, 23, 11, 19, 17, 25, 13, 21, 16, 24, 12, 20, 18, 14, 22] 3 0 (sbA_hd l).s).updF [(5, .int .i64 y0)] [])
theorem sbA_n (l : List Bool) (hl : (l.length : Int) ≤ 70) : 2 = (sbA_hd l).s.hs.next := by kernel_rfl
theorem sbA_r (l : List Bool) (hl : (l.length : Int) ≤ 70) : (sbA_hd l).s.hs.rd < bitOf 2 := by
  have e : (sbA_hd l).s.hs.rd = 0 := by kernel_rfl
  rw [e]; exact blt_iff.1 (by kernel_rfl)
theorem sbA_w (l : List Bool) (hl : (l.length : Int) ≤ 70) : (sbA_hd l).s.hs.wr < bitOf 2 := by
  have e : (sbA_hd l).s.hs.wr = 0 := by kernel_rfl
  rw [e]; exact blt_iff.1 (by kernel_rfl)
theorem sbA_e0 (l : List Bool) (hl : (l.length : Int) ≤ 70) : canonS 2 42 [] [15, 23, 11, 19, 17, 25, 13, 21, 16, 24, 12, 20, 18, 14, 22] 2 3 0 (sbA_hd l).s = some (sbA_S l ((0 : Int))) := by kernel_rfl
theorem sbA_e1 (l : List Bool) (hl : (l.length : Int) ≤ 70) : canonOk 2 42 [] 2 (sbA_hd l).s = true := canonOkF_eq.symm.trans (by kernel_rfl)
def sbA_X : Nat → VX
  | 0 => .exit 0
  | _ => .normal
noncomputable def sbA_E (kE : Nat) (l : List Bool) (y0 : Int) : St := match kE with
  | 0 => (((bodySt (bodyK Try.prog ([] : Vars).length GTab.none 3000 (sbA_hd l) (sbA_S l y0 ) [(0, .b 0)] 2 42 [15, 23, 11, 19, 17, 25, 13, 21, 16, 24, 12, 20, 18, 14, 22] 42 3 0))).updF [(5, .int .i64 y0)] [])
  | _ => (sbA_hd l).s
theorem sbA_p0 (l : List Bool) (y0 : Int) : bodyK Try.prog ([] : Vars).length GTab.none 3000 (sbA_hd l) (sbA_S l y0 ) [(0, .b 1), (1, .b 1), (2, .b 1), (3, .vals ([Value.bool (el l y0)])), (4, .b 1), (5, .b 1), (6, .vals ([Value.bool (el l y0)])), (7, .b 0)] 2 42 [15, 23, 11, 19, 17, 25, 13, 21, 16, 24, 12, 20, 18, 14, 22] 2 3 0 = some (.normal, (sbA_S l (IntKind.i64.wrap (y0 + (1 : Int)))), [(!el l y0 == el l y0) = false, segC (rowA (gB) (l)) (((y0).toNat) * 1 + 0) 1 = some ([Value.bool (el l y0)]), (decide (y0 < (↑l.length : Int))) = true, (decide ((0 : Int) ≤ y0)) = true, segC (rowA (gB) (l)) (((y0).toNat) * 1 + 0) 1 = some ([Value.bool (el l y0)]), (decide (y0 < (↑l.length : Int))) = true, (decide ((0 : Int) ≤ y0)) = true, (decide (y0 < (↑l.length : Int))) = true]) := by kernel_rfl
theorem sbA_p1 (l : List Bool) (y0 : Int) : bodyK Try.prog ([] : Vars).length GTab.none 3000 (sbA_hd l) (sbA_S l y0 ) [(0, .b 0)] 2 42 [15, 23, 11, 19, 17, 25, 13, 21, 16, 24, 12, 20, 18, 14, 22] 42 3 0 = some (.exit 0, sbA_E 0 l (y0), [(decide (y0 < (↑l.length : Int))) = false]) := by kernel_rfl
theorem sbA_q1 (l : List Bool) (y0 : Int) : (sbA_E 0 l (y0)).hs.next = 42 := by kernel_rfl
theorem sbA_d0 (l : List Bool) (hl : (l.length : Int) ≤ 70) (y0 : Int) (hi : (decide (0 ≤ y0 ∧ y0 ≤ (l.length : Int))) = true) (hq0 : (decide (y0 < (↑l.length : Int))) = true) : (decide ((0 : Int) ≤ y0)) = true := by
  rcases Bool.eq_false_or_eq_true (decide ((0 : Int) ≤ y0)) with h | h
  · exact h
  · exfalso; (first | (simp_all only [Bool.and_eq_true, Bool.not_eq_true', Bool.false_eq_true, Bool.true_eq_false, reduceCtorEq]; done) | (simp only [sx, sy, eq_self, ne_eq, IntKind.wrap_i64, wrapU64, Int.reduceLT] at * <;> first | contradiction | omega) | omega | ((try simp only [sx, sy, eq_self, ne_eq, IntKind.wrap_i64, wrapU64, Int.reduceLT] at *) <;> omega) | (simp_all; done))
theorem sbA_d1 (l : List Bool) (hl : (l.length : Int) ≤ 70) (y0 : Int) (hi : (decide (0 ≤ y0 ∧ y0 ≤ (l.length : Int))) = true) (hq0 : (decide (y0 < (↑l.length : Int))) = true) (hq1 : (decide ((0 : Int) ≤ y0)) = true) : (!el l y0 == el l y0) = false := by
  rcases Bool.eq_false_or_eq_true (!el l y0 == el l y0) with h | h
  · exfalso; (first | (simp_all only [Bool.and_eq_true, Bool.not_eq_true', Bool.false_eq_true, Bool.true_eq_false, reduceCtorEq]; done) | (simp only [sx, sy, eq_self, ne_eq, IntKind.wrap_i64, wrapU64, Int.reduceLT] at * <;> first | contradiction | omega) | omega | ((try simp only [sx, sy, eq_self, ne_eq, IntKind.wrap_i64, wrapU64, Int.reduceLT] at *) <;> omega) | (simp_all; done))
  · exact h
noncomputable def sbA_f (l : List Bool) : Nat → Int → Option (Nat × (Int))
  | 0, _ => none
  | fu + 1, y0 => (bif (decide (0 ≤ y0 ∧ y0 ≤ (l.length : Int))) then (bif (decide (y0 < (↑l.length : Int))) then sbA_f l fu (IntKind.i64.wrap (y0 + (1 : Int))) else some (0, (y0))) else none)
theorem sbA_fs (l : List Bool) (fu : Nat) (y0 : Int) : sbA_f l (fu + 1) y0 = (bif (decide (0 ≤ y0 ∧ y0 ≤ (l.length : Int))) then (bif (decide (y0 < (↑l.length : Int))) then sbA_f l fu (IntKind.i64.wrap (y0 + (1 : Int))) else some (0, (y0))) else none) := rfl
theorem sbA_f0 (l : List Bool) (y0 : Int) : sbA_f l 0 y0 = none := rfl
theorem sbA_loop (l : List Bool) (hl : (l.length : Int) ≤ 70) : ∀ (fu : Nat) (y0 : Int) (kk : Nat) (zz : Int), sbA_f l fu y0 = some (kk, zz) → VStep (sbA_hd l).s.hs (sbA_S l y0 ).hs → RoundsC Try.prog [] 2 42 (sbA_hd l).s.hs (sbA_hd l).ro (sbA_hd l).a (sbA_S l y0 ) (sbA_X kk) (sbA_E kk l zz ) ∧ ((sbA_E kk l zz )).hs.next = 42 := by
  intro fu
  induction fu with
  | zero =>
    intro y0 kk zz hf hSz
    have hf := (sbA_f0 l y0 ).symm.trans hf
    simp at hf
  | succ fu ih =>
    intro y0 kk zz hf hSz
    have hf := (sbA_fs l fu y0 ).symm.trans hf
    rcases bif_or hf with ⟨hi, hf⟩ | ⟨hi, hf⟩
    case inr => cases hf
    rcases bif_or hf with ⟨hq0, hf⟩ | ⟨hq0, hf⟩
    ·
      have hq1 := sbA_d0 l hl y0 hi hq0 
      have hq2 := sbA_d1 l hl y0 hi hq0 hq1 
      have hb1 := sbA_p0 l y0 ; have hb2 := body_canon hb1; have hb3 := hb2 ⟨hq2, (seg_row (g := (gB)) (k := 1) (fun _ => rfl) (by first | exact of_decide_eq_true hq1 | simpa using of_decide_eq_true hq1) (by first | exact of_decide_eq_true hq0 | (simpa using of_decide_eq_true hq0; done) | (have hx1 := of_decide_eq_true hq0; have hx2 := of_decide_eq_true hi; simp only [List.length_reverse, List.length_set] at *; omega)) (by decide) rfl), hq0, hq1, (seg_row (g := (gB)) (k := 1) (fun _ => rfl) (by first | exact of_decide_eq_true hq1 | simpa using of_decide_eq_true hq1) (by first | exact of_decide_eq_true hq0 | (simpa using of_decide_eq_true hq0; done) | (have hx1 := of_decide_eq_true hq0; have hx2 := of_decide_eq_true hi; simp only [List.length_reverse, List.length_set] at *; omega)) (by decide) rfl), hq0, hq1, hq0, trivial⟩; obtain ⟨sz1, kz1, kz2, kz3⟩ := hb3; obtain ⟨gz1, gz2⟩ := ih (IntKind.i64.wrap (y0 + (1 : Int))) kk zz hf (rounds_step mix (T := GTab.none) GOk.none (sbA_n l hl ) (sbA_r l hl ) (sbA_w l hl ) kz1 hSz kz2 kz3); exact ⟨rounds_next mix (T := GTab.none) GOk.none (sbA_n l hl ) (sbA_r l hl ) (sbA_w l hl ) kz1 hSz kz2 kz3 (fun _ => gz1), gz2⟩
    ·
      injection hf with hf; injection hf with e1 e2; subst e1; subst e2; have hb1 := sbA_p1 l y0 ; have hb2 := body_canon hb1; have hb3 := hb2 ⟨hq0, trivial⟩; obtain ⟨sz1, kz1, kz2, kz3⟩ := hb3; exact ⟨rounds_end mix (T := GTab.none) GOk.none (sbA_n l hl ) (sbA_r l hl ) (sbA_w l hl ) kz1 (fun h => by cases h) hSz kz2 kz3, sbA_q1 l y0 ⟩
theorem sbA_ok (l : List Bool) (hl : (l.length : Int) ≤ 70) (fu kk : Nat) (zz : Int) (hf : sbA_f l fu ((0 : Int)) = some (kk, zz)) : ∀ B : Bd, B.L = [] → LoopOk Try.prog B (sbA_hd l).ro (sbA_hd l).a (sbA_hd l).s (sbA_X kk) (sbA_E kk l zz ) := by
  have hSz := begin_step (sbA_n l hl ) (sbA_r l hl ) (sbA_w l hl ) (sbA_e0 l hl ) (sbA_e1 l hl )
  obtain ⟨gz1, gz2⟩ := sbA_loop l hl fu ((0 : Int)) kk zz hf hSz
  exact rounds_ok (sbA_n l hl ) (Nat.le_of_ble_eq_true (by kernel_rfl)) gz2 (rounds_begin (sbA_n l hl ) (sbA_r l hl ) (sbA_w l hl ) (sbA_e0 l hl ) (sbA_e1 l hl ) (fun _ => gz1))

theorem sbK_p0 (l : List Bool) (sbA_z0 : Int)  (hl : (l.length : Int) ≤ 70) (sbA_k0 : ((↑l.length : Int) != (↑l.length : Int)) = false) (sbA_l : ∀ B : Bd, B.L = [] → LoopOk Try.prog B (sbA_hd l).ro (sbA_hd l).a (sbA_hd l).s (sbA_X 0) (sbA_E 0 l sbA_z0 )) : KnownR Try.prog [] 45 [.list (rowA gB l) l.length, .list (rowA gB l) l.length] (.bool (true)) [] :=
  knownR_eq (v := Value.bool true) (bs := []) (open_resD mix (GOk.add GOk.none sbA_l) (T := (GTab.add GTab.none 5 (sbA_hd l).ro (sbA_hd l).a (sbA_hd l).s (sbA_X 0) (sbA_E 0 l sbA_z0 ) (by kernel_rfl))) (fuel := 3000) (es := []) (ans := [(0, .b 0), (1, .loop (sbA_X 0) (sbA_E 0 l sbA_z0 )), ]) (log := [LoopRes Try.prog ([] : Vars).length (GTab.add GTab.none 5 (sbA_hd l).ro (sbA_hd l).a (sbA_hd l).s (sbA_X 0) (sbA_E 0 l sbA_z0 ) (by kernel_rfl)) (sbA_hd l).ro (sbA_hd l).a (sbA_hd l).s (sbA_X 0) (sbA_E 0 l sbA_z0 ), ((↑l.length : Int) != (↑l.length : Int)) = false]) (by kernel_rfl) ⟨(loop_known2 add_eq), sbA_k0, trivial⟩ (by kernel_rfl)) (by first | rfl | (simp; done) | (simp_all; done)) (by first | rfl | (simp [rowA_nil]; done) | (simp only [rowA_eq]; rfl) | (simp_all [rowA_nil]; done))
set_option maxHeartbeats 8000000 in
theorem sbK (l : List Bool) (sbA_z0 : Int)  (hl : (l.length : Int) ≤ 70) (sbA_k0 : ((↑l.length : Int) != (↑l.length : Int)) = false) (sbA_l : ∀ B : Bd, B.L = [] → LoopOk Try.prog B (sbA_hd l).ro (sbA_hd l).a (sbA_hd l).s (sbA_X 0) (sbA_E 0 l sbA_z0 )) : KnownR Try.prog [] 45 [.list (rowA gB l) l.length, .list (rowA gB l) l.length] (.bool (true)) [] := by
  exact sbK_p0 l sbA_z0 hl sbA_k0 sbA_l

end Go.Proofs.Ytbcbldpppjbkhaa
