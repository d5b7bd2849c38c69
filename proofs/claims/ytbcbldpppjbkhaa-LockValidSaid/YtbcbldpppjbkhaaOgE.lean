/- Layer 17: Slam. -/
import Derived.Test.YtbcbldpppjbkhaaOgD
import Derived.ProofKit
import Derived.IntWalk
namespace Go.Proofs.Ytbcbldpppjbkhaa
open Go Go.RowKit
set_option linter.unusedVariables false
set_option linter.unusedSimpArgs false
set_option linter.unnecessarySimpa false
set_option maxHeartbeats 8000000
set_option maxRecDepth 100000
noncomputable def slA_hd (c : Bool) (l : List Bool) : Hd := headD Try.prog [] tabA 3000 13 [.agg [.val (.bool c), .list (rowA gB l) l.length]] [(0, .outs (Value.int IntKind.i64 (ckC c l)) ([])), (1, .b 0), (2, .b 1), (7, .stop)]
noncomputable def slA_S (c : Bool) (l : List Bool) (y0 : Int) : St := ((entryK 10 50 [3, 15, 23, 19, 17, 21, 4, 16, 24, 20, 18, 22] 1023 1022 (slA_hd c l).s).updF [(14, .int .i64 y0)] [])
theorem slA_n (c : Bool) (l : List Bool) (hl : 2 ≤ (l.length : Int) ∧ (l.length : Int) ≤ 64) (hc : ckC c l = 0) : 10 = (slA_hd c l).s.hs.next := by kernel_rfl
theorem slA_r (c : Bool) (l : List Bool) (hl : 2 ≤ (l.length : Int) ∧ (l.length : Int) ≤ 64) (hc : ckC c l = 0) : (slA_hd c l).s.hs.rd < bitOf 10 := by
  have e : (slA_hd c l).s.hs.rd = 739 := by kernel_rfl
  rw [e]; exact blt_iff.1 (by kernel_rfl)
theorem slA_w (c : Bool) (l : List Bool) (hl : 2 ≤ (l.length : Int) ∧ (l.length : Int) ≤ 64) (hc : ckC c l = 0) : (slA_hd c l).s.hs.wr < bitOf 10 := by
  have e : (slA_hd c l).s.hs.wr = 1022 := by kernel_rfl
  rw [e]; exact blt_iff.1 (by kernel_rfl)
theorem slA_e0 (c : Bool) (l : List Bool) (hl : 2 ≤ (l.length : Int) ∧ (l.length : Int) ≤ 64) (hc : ckC c l = 0) : canonS 10 50 [] [3, 15, 23, 19, 17, 21, 4, 16, 24, 20, 18, 22] 10 1023 1022 (slA_hd c l).s = some (slA_S c l ((0 : Int))) := by kernel_rfl
theorem slA_e1 (c : Bool) (l : List Bool) (hl : 2 ≤ (l.length : Int) ∧ (l.length : Int) ≤ 64) (hc : ckC c l = 0) : canonOk 10 50 [] 10 (slA_hd c l).s = true := canonOkF_eq.symm.trans (by kernel_rfl)
def slA_X : Nat → VX
  | 0 => .ret
  | 1 => .exit 0
  | _ => .normal
noncomputable def slA_E (kE : Nat) (c : Bool) (l : List Bool) (y0 : Int) : St := match kE with
  | 0 => bodySt (bodyR Try.prog ([] : Vars).length tabA 3000 (slA_hd c l) (slA_S c l y0 ) [(0, .b 1), (1, .b 1), (2, .b 1), (3, .vals ([Value.bool (el l y0)])), (4, .b 1), (7, .b 1), (8, .vals (List.flatMap (gB) (l))), (9, .b 1), (10, .arr (rowA (gB) (l))), (11, .b 1), (12, .b 1), (13, .b 1), (14, .yes), (15, .arr (rowA (gB) (l.set y0.toNat true)))] 10 50 [(16, 10)] [3, 15, 23, 19, 17, 21, 4, 16, 24, 20, 18, 22] 50 1023 1022)
  | 1 => ((bodySt (bodyK Try.prog ([] : Vars).length tabA 3000 (slA_hd c l) (slA_S c l y0 ) [(0, .b 0)] 10 50 [3, 15, 23, 19, 17, 21, 4, 16, 24, 20, 18, 22] 50 1023 1022)).updF [(14, .int .i64 y0)] [])
  | _ => (slA_hd c l).s
theorem slA_p0 (c : Bool) (l : List Bool) (y0 : Int) : bodyR Try.prog ([] : Vars).length tabA 3000 (slA_hd c l) (slA_S c l y0 ) [(0, .b 1), (1, .b 1), (2, .b 1), (3, .vals ([Value.bool (el l y0)])), (4, .b 1), (7, .b 1), (8, .vals (List.flatMap (gB) (l))), (9, .b 1), (10, .arr (rowA (gB) (l))), (11, .b 1), (12, .b 1), (13, .b 1), (14, .yes), (15, .arr (rowA (gB) (l.set y0.toNat true)))] 10 50 [(16, 10)] [3, 15, 23, 19, 17, 21, 4, 16, 24, 20, 18, 22] 50 1023 1022 = some (.ret, bodySt (bodyR Try.prog ([] : Vars).length tabA 3000 (slA_hd c l) (slA_S c l y0 ) [(0, .b 1), (1, .b 1), (2, .b 1), (3, .vals ([Value.bool (el l y0)])), (4, .b 1), (7, .b 1), (8, .vals (List.flatMap (gB) (l))), (9, .b 1), (10, .arr (rowA (gB) (l))), (11, .b 1), (12, .b 1), (13, .b 1), (14, .yes), (15, .arr (rowA (gB) (l.set y0.toNat true)))] 10 50 [(16, 10)] [3, 15, 23, 19, 17, 21, 4, 16, 24, 20, 18, 22] 50 1023 1022), [spliceC (rowA (gB) (l)) (((y0).toNat) * 1 + 0) ([Value.bool true]) = rowA (gB) (l.set y0.toNat true), (Nat.ble (Nat.add (((y0).toNat) * 1 + 0) 1) (rowA (gB) (l)).size) = true, (decide (y0 < (↑l.length : Int))) = true, (decide ((0 : Int) ≤ y0)) = true, (y0 != (-1 : Int)) = true, (List.flatMap (gB) (l)).toArray = rowA (gB) (l), (decide (l.length * (1 : Nat) < (1000000000 : Nat))) = true, segC (rowA (gB) (l)) 0 ((l.length) * 1) = some (List.flatMap (gB) (l)), (y0 != (-1 : Int)) = true, (!el l y0) = true, segC (rowA (gB) (l)) (((y0).toNat) * 1 + 0) 1 = some ([Value.bool (el l y0)]), (decide (y0 < (↑l.length : Int))) = true, (decide ((0 : Int) ≤ y0)) = true, (decide (y0 < (↑l.length : Int))) = true]) := by kernel_rfl
theorem slA_q0 (c : Bool) (l : List Bool) (y0 : Int) : (bodySt (bodyR Try.prog ([] : Vars).length tabA 3000 (slA_hd c l) (slA_S c l y0 ) [(0, .b 1), (1, .b 1), (2, .b 1), (3, .vals ([Value.bool (el l y0)])), (4, .b 1), (7, .b 1), (8, .vals (List.flatMap (gB) (l))), (9, .b 1), (10, .arr (rowA (gB) (l))), (11, .b 1), (12, .b 1), (13, .b 1), (14, .yes), (15, .arr (rowA (gB) (l.set y0.toNat true)))] 10 50 [(16, 10)] [3, 15, 23, 19, 17, 21, 4, 16, 24, 20, 18, 22] 50 1023 1022)).hs.next = 50 := by kernel_rfl
theorem slA_p1 (c : Bool) (l : List Bool) (y0 : Int) : bodyK Try.prog ([] : Vars).length tabA 3000 (slA_hd c l) (slA_S c l y0 ) [(0, .b 1), (1, .b 1), (2, .b 1), (3, .vals ([Value.bool (el l y0)])), (4, .b 0)] 10 50 [3, 15, 23, 19, 17, 21, 4, 16, 24, 20, 18, 22] 10 1023 1022 = some (.normal, (slA_S c l (IntKind.i64.wrap (y0 + (1 : Int)))), [(!el l y0) = false, segC (rowA (gB) (l)) (((y0).toNat) * 1 + 0) 1 = some ([Value.bool (el l y0)]), (decide (y0 < (↑l.length : Int))) = true, (decide ((0 : Int) ≤ y0)) = true, (decide (y0 < (↑l.length : Int))) = true]) := by kernel_rfl
theorem slA_p2 (c : Bool) (l : List Bool) (y0 : Int) : bodyK Try.prog ([] : Vars).length tabA 3000 (slA_hd c l) (slA_S c l y0 ) [(0, .b 0)] 10 50 [3, 15, 23, 19, 17, 21, 4, 16, 24, 20, 18, 22] 50 1023 1022 = some (.exit 0, slA_E 1 c l (y0), [(decide (y0 < (↑l.length : Int))) = false]) := by kernel_rfl
theorem slA_q2 (c : Bool) (l : List Bool) (y0 : Int) : (slA_E 1 c l (y0)).hs.next = 50 := by kernel_rfl
theorem slA_d0 (c : Bool) (l : List Bool) (hl : 2 ≤ (l.length : Int) ∧ (l.length : Int) ≤ 64) (hc : ckC c l = 0) (y0 : Int) (hi : (decide (0 ≤ y0 ∧ y0 ≤ (l.length : Int))) = true) (hq0 : (decide (y0 < (↑l.length : Int))) = true) : (decide ((0 : Int) ≤ y0)) = true := by
  rcases Bool.eq_false_or_eq_true (decide ((0 : Int) ≤ y0)) with h | h
  · exact h
  · exfalso; (first | (simp_all only [Bool.and_eq_true, Bool.not_eq_true', Bool.false_eq_true, Bool.true_eq_false, reduceCtorEq]; done) | (simp only [sx, sy, eq_self, ne_eq, IntKind.wrap_i64, wrapU64, Int.reduceLT] at * <;> first | contradiction | omega) | (simp_all; done))
theorem slA_d1 (c : Bool) (l : List Bool) (hl : 2 ≤ (l.length : Int) ∧ (l.length : Int) ≤ 64) (hc : ckC c l = 0) (y0 : Int) (hi : (decide (0 ≤ y0 ∧ y0 ≤ (l.length : Int))) = true) (hq0 : (decide (y0 < (↑l.length : Int))) = true) (hq1 : (decide ((0 : Int) ≤ y0)) = true) (hq2 : (!el l y0) = true) : (y0 != (-1 : Int)) = true := by
  rcases Bool.eq_false_or_eq_true (y0 != (-1 : Int)) with h | h
  · exact h
  · exfalso; (first | (simp_all only [Bool.and_eq_true, Bool.not_eq_true', Bool.false_eq_true, Bool.true_eq_false, reduceCtorEq]; done) | (simp only [sx, sy, eq_self, ne_eq, IntKind.wrap_i64, wrapU64, Int.reduceLT] at * <;> first | contradiction | omega) | (simp_all; done))
theorem slA_d2 (c : Bool) (l : List Bool) (hl : 2 ≤ (l.length : Int) ∧ (l.length : Int) ≤ 64) (hc : ckC c l = 0) (y0 : Int) (hi : (decide (0 ≤ y0 ∧ y0 ≤ (l.length : Int))) = true) (hq0 : (decide (y0 < (↑l.length : Int))) = true) (hq1 : (decide ((0 : Int) ≤ y0)) = true) (hq2 : (!el l y0) = true) (hq3 : (y0 != (-1 : Int)) = true) : (decide (l.length * (1 : Nat) < (1000000000 : Nat))) = true := by
  rcases Bool.eq_false_or_eq_true (decide (l.length * (1 : Nat) < (1000000000 : Nat))) with h | h
  · exact h
  · exfalso; (first | (simp_all only [Bool.and_eq_true, Bool.not_eq_true', Bool.false_eq_true, Bool.true_eq_false, reduceCtorEq]; done) | (simp only [sx, sy, eq_self, ne_eq, IntKind.wrap_i64, wrapU64, Int.reduceLT] at * <;> first | contradiction | omega) | (simp_all; done))
noncomputable def slA_f (c : Bool) (l : List Bool) : Nat → Int → Option (Nat × (Int))
  | 0, _ => none
  | fu + 1, y0 => (bif (decide (0 ≤ y0 ∧ y0 ≤ (l.length : Int))) then (bif (decide (y0 < (↑l.length : Int))) then (bif (!el l y0) then some (0, y0) else slA_f c l fu (IntKind.i64.wrap (y0 + (1 : Int)))) else some (1, (y0))) else none)
theorem slA_fs (c : Bool) (l : List Bool) (fu : Nat) (y0 : Int) : slA_f c l (fu + 1) y0 = (bif (decide (0 ≤ y0 ∧ y0 ≤ (l.length : Int))) then (bif (decide (y0 < (↑l.length : Int))) then (bif (!el l y0) then some (0, y0) else slA_f c l fu (IntKind.i64.wrap (y0 + (1 : Int)))) else some (1, (y0))) else none) := rfl
theorem slA_f0 (c : Bool) (l : List Bool) (y0 : Int) : slA_f c l 0 y0 = none := rfl
theorem slA_loop (c : Bool) (l : List Bool) (hl : 2 ≤ (l.length : Int) ∧ (l.length : Int) ≤ 64) (hc : ckC c l = 0) : ∀ (fu : Nat) (y0 : Int) (kk : Nat) (zz : Int), slA_f c l fu y0 = some (kk, zz) → VStep (slA_hd c l).s.hs (slA_S c l y0 ).hs → RoundsC Try.prog [] 10 50 (slA_hd c l).s.hs (slA_hd c l).ro (slA_hd c l).a (slA_S c l y0 ) (slA_X kk) (slA_E kk c l zz ) ∧ ((slA_E kk c l zz )).hs.next = 50 := by
  intro fu
  induction fu with
  | zero =>
    intro y0 kk zz hf hSz
    have hf := (slA_f0 c l y0 ).symm.trans hf
    simp at hf
  | succ fu ih =>
    intro y0 kk zz hf hSz
    have hf := (slA_fs c l fu y0 ).symm.trans hf
    rcases bif_or hf with ⟨hi, hf⟩ | ⟨hi, hf⟩
    case inr => cases hf
    rcases bif_or hf with ⟨hq0, hf⟩ | ⟨hq0, hf⟩
    ·
      have hq1 := slA_d0 c l hl hc y0 hi hq0 
      rcases bif_or hf with ⟨hq2, hf⟩ | ⟨hq2, hf⟩
      ·
        have hq3 := slA_d1 c l hl hc y0 hi hq0 hq1 hq2 
        have hq4 := slA_d2 c l hl hc y0 hi hq0 hq1 hq2 hq3 
        injection hf with hf; injection hf with e1 e2; subst e1; subst e2; have hb1 := slA_p0 c l y0 ; have hb2 := body_canonR hb1; have hb3 := hb2 ⟨(row_set (g := (gB)) (k := 1) (fun _ => rfl) (by first | exact of_decide_eq_true hq1 | simpa using of_decide_eq_true hq1) (by first | exact of_decide_eq_true hq0 | (simpa using of_decide_eq_true hq0; done) | (have hx1 := of_decide_eq_true hq0; have hx2 := of_decide_eq_true hi; simp only [List.length_reverse, List.length_set] at *; omega)) (by decide) rfl), (fact_room (g := (gB)) (fun _ => rfl) (by first | exact of_decide_eq_true hq1 | simpa using of_decide_eq_true hq1) (by first | exact of_decide_eq_true hq0 | (simpa using of_decide_eq_true hq0; done) | (have hx1 := of_decide_eq_true hq0; have hx2 := of_decide_eq_true hi; simp only [List.length_reverse, List.length_set] at *; omega)) (by decide)), hq0, hq1, hq3, (row_new (g := (gB)) rfl), hq4, (seg_all2 (g := (gB)) (k := 1) (fun _ => rfl) (by first | rfl | simp)), hq3, hq2, (seg_row (g := (gB)) (k := 1) (fun _ => rfl) (by first | exact of_decide_eq_true hq1 | simpa using of_decide_eq_true hq1) (by first | exact of_decide_eq_true hq0 | (simpa using of_decide_eq_true hq0; done) | (have hx1 := of_decide_eq_true hq0; have hx2 := of_decide_eq_true hi; simp only [List.length_reverse, List.length_set] at *; omega)) (by decide) rfl), hq0, hq1, hq0, trivial⟩; obtain ⟨sz1, kz1, kz2, kz3⟩ := hb3; exact ⟨rounds_end mix (T := tabA) tabA_ok (slA_n c l hl hc ) (slA_r c l hl hc ) (slA_w c l hl hc ) kz1 (fun h => by cases h) hSz kz2 kz3, slA_q0 c l y0 ⟩
      ·
        have hb1 := slA_p1 c l y0 ; have hb2 := body_canon hb1; have hb3 := hb2 ⟨hq2, (seg_row (g := (gB)) (k := 1) (fun _ => rfl) (by first | exact of_decide_eq_true hq1 | simpa using of_decide_eq_true hq1) (by first | exact of_decide_eq_true hq0 | (simpa using of_decide_eq_true hq0; done) | (have hx1 := of_decide_eq_true hq0; have hx2 := of_decide_eq_true hi; simp only [List.length_reverse, List.length_set] at *; omega)) (by decide) rfl), hq0, hq1, hq0, trivial⟩; obtain ⟨sz1, kz1, kz2, kz3⟩ := hb3; obtain ⟨gz1, gz2⟩ := ih (IntKind.i64.wrap (y0 + (1 : Int))) kk zz hf (rounds_step mix (T := tabA) tabA_ok (slA_n c l hl hc ) (slA_r c l hl hc ) (slA_w c l hl hc ) kz1 hSz kz2 kz3); exact ⟨rounds_next mix (T := tabA) tabA_ok (slA_n c l hl hc ) (slA_r c l hl hc ) (slA_w c l hl hc ) kz1 hSz kz2 kz3 (fun _ => gz1), gz2⟩
    ·
      injection hf with hf; injection hf with e1 e2; subst e1; subst e2; have hb1 := slA_p2 c l y0 ; have hb2 := body_canon hb1; have hb3 := hb2 ⟨hq0, trivial⟩; obtain ⟨sz1, kz1, kz2, kz3⟩ := hb3; exact ⟨rounds_end mix (T := tabA) tabA_ok (slA_n c l hl hc ) (slA_r c l hl hc ) (slA_w c l hl hc ) kz1 (fun h => by cases h) hSz kz2 kz3, slA_q2 c l y0 ⟩
theorem slA_ok (c : Bool) (l : List Bool) (hl : 2 ≤ (l.length : Int) ∧ (l.length : Int) ≤ 64) (hc : ckC c l = 0) (fu kk : Nat) (zz : Int) (hf : slA_f c l fu ((0 : Int)) = some (kk, zz)) : ∀ B : Bd, B.L = [] → LoopOk Try.prog B (slA_hd c l).ro (slA_hd c l).a (slA_hd c l).s (slA_X kk) (slA_E kk c l zz ) := by
  have hSz := begin_step (slA_n c l hl hc ) (slA_r c l hl hc ) (slA_w c l hl hc ) (slA_e0 c l hl hc ) (slA_e1 c l hl hc )
  obtain ⟨gz1, gz2⟩ := slA_loop c l hl hc fu ((0 : Int)) kk zz hf hSz
  exact rounds_ok (slA_n c l hl hc ) (Nat.le_of_ble_eq_true (by kernel_rfl)) gz2 (rounds_begin (slA_n c l hl hc ) (slA_r c l hl hc ) (slA_w c l hl hc ) (slA_e0 c l hl hc ) (slA_e1 c l hl hc ) (fun _ => gz1))

noncomputable def slK_c0 (c : Bool) (l : List Bool) (slA_z0 : Int)  : Bool := (c)
noncomputable def slK_c1 (c : Bool) (l : List Bool) (slA_z0 : Int)  : List Bool := (l.set slA_z0.toNat true)
noncomputable def slK_c2 (c : Bool) (l : List Bool) (slA_z0 : Int)  : Int := (slA_z0)
theorem slK_p0 (c : Bool) (l : List Bool) (slA_z0 : Int)  (hl : 2 ≤ (l.length : Int) ∧ (l.length : Int) ≤ 64) (hc : ckC c l = 0) (slA_k1 : (ckC c l != (0 : Int)) = false) (slA_k2 : (!c) = true) (slA_l : ∀ B : Bd, B.L = [] → LoopOk Try.prog B (slA_hd c l).ro (slA_hd c l).a (slA_hd c l).s (slA_X 0) (slA_E 0 c l slA_z0 )) : KnownR Try.prog [] 13 [.agg [.val (.bool c), .list (rowA gB l) l.length]] (.tuple #[(.agg #[(.bool (c)), (.complex .f64 0 ((l.set slA_z0.toNat true)).length)]), (.int .i64 (slA_z0)), (.int .i64 ((0 : Int)))]) [(rowA gB ((l.set slA_z0.toNat true)), 4)] :=
  knownR_eq (v := Value.tuple { toList := [Value.agg { toList := [Value.bool c, Value.complex FloatKind.f64 (nat_lit 0) l.length] }, Value.int IntKind.i64 slA_z0, Value.int IntKind.i64 (0 : Int)] }) (bs := [(rowA gB (l.set slA_z0.toNat true), nat_lit 4)]) (open_resD mix (GOk.add tabA_ok slA_l) (T := (GTab.add tabA 3 (slA_hd c l).ro (slA_hd c l).a (slA_hd c l).s (slA_X 0) (slA_E 0 c l slA_z0 ) (by kernel_rfl))) (fuel := 3000) (es := [4]) (ans := [(0, .outs (Value.int IntKind.i64 (ckC c l)) ([])), (1, .b 0), (2, .b 1), (7, .loop (slA_X 0) (slA_E 0 c l slA_z0 )), ]) (log := [LoopRes Try.prog ([] : Vars).length (GTab.add tabA 3 (slA_hd c l).ro (slA_hd c l).a (slA_hd c l).s (slA_X 0) (slA_E 0 c l slA_z0 ) (by kernel_rfl)) (slA_hd c l).ro (slA_hd c l).a (slA_hd c l).s (slA_X 0) (slA_E 0 c l slA_z0 ), (!c) = true, (ckC c l != (0 : Int)) = false, (GTab.lookD (tabA) ((25 : Nat)) ([D.agg [D.val (Value.bool c), D.list (rowA gB l) l.length]])) = some (Value.int IntKind.i64 (ckC c l), [])]) (by kernel_rfl) ⟨(loop_known2 add_eq), slA_k2, slA_k1, (ckD_at (c) (l) (l.length) (by first | rfl | assumption | omega | (simp; done) | (simp_all; done) | (simp_all; omega))), trivial⟩ (by kernel_rfl)) (by first | rfl | (simp; done) | (simp_all; done)) (by first | rfl | (simp [rowA_nil]; done) | (simp only [rowA_eq]; rfl) | (simp_all [rowA_nil]; done))
set_option maxHeartbeats 8000000 in
theorem slK (c : Bool) (l : List Bool) (slA_z0 : Int)  (hl : 2 ≤ (l.length : Int) ∧ (l.length : Int) ≤ 64) (hc : ckC c l = 0) (slA_k1 : (ckC c l != (0 : Int)) = false) (slA_k2 : (!c) = true) (slA_l : ∀ B : Bd, B.L = [] → LoopOk Try.prog B (slA_hd c l).ro (slA_hd c l).a (slA_hd c l).s (slA_X 0) (slA_E 0 c l slA_z0 )) : KnownR Try.prog [] 13 [.agg [.val (.bool c), .list (rowA gB l) l.length]] (.tuple #[(.agg #[(.bool (slK_c0 c l slA_z0)), (.complex .f64 0 ((slK_c1 c l slA_z0)).length)]), (.int .i64 (slK_c2 c l slA_z0)), (.int .i64 ((0 : Int)))]) [(rowA gB ((slK_c1 c l slA_z0)), 4)] := by
  have e0 : slK_c0 c l slA_z0 = (c) := rfl; rw [e0]; have e1 : slK_c1 c l slA_z0 = (l.set slA_z0.toNat true) := rfl; rw [e1]; have e2 : slK_c2 c l slA_z0 = (slA_z0) := rfl; rw [e2]; exact slK_p0 c l slA_z0 hl hc slA_k1 slA_k2 slA_l

theorem slL_p0 (c : Bool) (l : List Bool) (slA_z0 : Int)  (hl : 2 ≤ (l.length : Int) ∧ (l.length : Int) ≤ 64) (hc : ckC c l = 0) (slA_k1 : (ckC c l != (0 : Int)) = false) (slA_k2 : (!c) = true) (slA_l : ∀ B : Bd, B.L = [] → LoopOk Try.prog B (slA_hd c l).ro (slA_hd c l).a (slA_hd c l).s (slA_X 1) (slA_E 1 c l slA_z0 )) : KnownR Try.prog [] 13 [.agg [.val (.bool c), .list (rowA gB l) l.length]] (.tuple #[(.agg #[(.bool (false)), (.complex .f64 0 ((([] : List Bool))).length)]), (.int .i64 ((0 : Int))), (.int .i64 ((6 : Int)))]) [(rowA gB ((([] : List Bool))), 4)] :=
  knownR_eq (v := Value.tuple { toList := [Value.agg { toList := [Value.bool false, Value.complex FloatKind.f64 (nat_lit 0) (nat_lit 0)] }, Value.int IntKind.i64 (0 : Int), Value.int IntKind.i64 (6 : Int)] }) (bs := [({ toList := [] }, nat_lit 4)]) (open_resD mix (GOk.add tabA_ok slA_l) (T := (GTab.add tabA 3 (slA_hd c l).ro (slA_hd c l).a (slA_hd c l).s (slA_X 1) (slA_E 1 c l slA_z0 ) (by kernel_rfl))) (fuel := 3000) (es := [4]) (ans := [(0, .outs (Value.int IntKind.i64 (ckC c l)) ([])), (1, .b 0), (2, .b 1), (7, .loop (slA_X 1) (slA_E 1 c l slA_z0 )), ]) (log := [LoopRes Try.prog ([] : Vars).length (GTab.add tabA 3 (slA_hd c l).ro (slA_hd c l).a (slA_hd c l).s (slA_X 1) (slA_E 1 c l slA_z0 ) (by kernel_rfl)) (slA_hd c l).ro (slA_hd c l).a (slA_hd c l).s (slA_X 1) (slA_E 1 c l slA_z0 ), (!c) = true, (ckC c l != (0 : Int)) = false, (GTab.lookD (tabA) ((25 : Nat)) ([D.agg [D.val (Value.bool c), D.list (rowA gB l) l.length]])) = some (Value.int IntKind.i64 (ckC c l), [])]) (by kernel_rfl) ⟨(loop_known2 add_eq), slA_k2, slA_k1, (ckD_at (c) (l) (l.length) (by first | rfl | assumption | omega | (simp; done) | (simp_all; done) | (simp_all; omega))), trivial⟩ (by kernel_rfl)) (by first | rfl | (simp; done) | (simp_all; done)) (by first | rfl | (simp [rowA_nil]; done) | (simp only [rowA_eq]; rfl) | (simp_all [rowA_nil]; done))
set_option maxHeartbeats 8000000 in
theorem slL (c : Bool) (l : List Bool) (slA_z0 : Int)  (hl : 2 ≤ (l.length : Int) ∧ (l.length : Int) ≤ 64) (hc : ckC c l = 0) (slA_k1 : (ckC c l != (0 : Int)) = false) (slA_k2 : (!c) = true) (slA_l : ∀ B : Bd, B.L = [] → LoopOk Try.prog B (slA_hd c l).ro (slA_hd c l).a (slA_hd c l).s (slA_X 1) (slA_E 1 c l slA_z0 )) : KnownR Try.prog [] 13 [.agg [.val (.bool c), .list (rowA gB l) l.length]] (.tuple #[(.agg #[(.bool (false)), (.complex .f64 0 ((([] : List Bool))).length)]), (.int .i64 ((0 : Int))), (.int .i64 ((6 : Int)))]) [(rowA gB ((([] : List Bool))), 4)] := by
  exact slL_p0 c l slA_z0 hl hc slA_k1 slA_k2 slA_l

end Go.Proofs.Ytbcbldpppjbkhaa
