/- Layer 17: the reference's loops. -/
import Derived.Test.YtbcbldpppjbkhaaQB
import Derived.ProofKit
import Derived.IntWalk
namespace Go.Proofs.Ytbcbldpppjbkhaa
open Go Go.RowKit
set_option linter.unusedVariables false
set_option linter.unusedSimpArgs false
set_option linter.unnecessarySimpa false
set_option maxHeartbeats 8000000
set_option maxRecDepth 100000
noncomputable def rnA_hd (n : Int) : Hd := headD Try.prog [] GTab.none 3000 23 [.val (.int .i64 n)] [(0, .b 0), (3, .b 0), (4, .b 1), (5, .b 1), (6, .arr (rowA (gB) (List.replicate n.toNat false))), (7, .stop)]
noncomputable def rnA_R (n : Int) (rc0 : Array Value) (rn0 : Nat) (y1 : Int) : St := (((entryR Try.prog [(.cell 2 1, 4)] 3 43 [23, 19, 17, 21, 16, 24, 20, 18, 22] 7 7 (rnA_hd n).s).rows [(3, rc0, 4)]).updF [(5, .int .i64 y1)] [(2, 1, .complex .f64 3 rn0)])
noncomputable def rnA_S (n : Int) (y0 : List Bool) (y1 : Int) : St := (((entryR Try.prog [(.cell 2 1, 4)] 3 43 [23, 19, 17, 21, 16, 24, 20, 18, 22] 7 7 (rnA_hd n).s).rows [(3, (rowA gB y0.reverse), 4)]).updF [(5, .int .i64 y1)] [(2, 1, .complex .f64 3 (n.toNat))])
theorem rnA_n (n : Int) (hn : 2 ≤ n ∧ n ≤ 64) : 3 = (rnA_hd n).s.hs.next := by kernel_rfl
theorem rnA_r (n : Int) (hn : 2 ≤ n ∧ n ≤ 64) : (rnA_hd n).s.hs.rd < bitOf 3 := by
  have e : (rnA_hd n).s.hs.rd = 4 := by kernel_rfl
  rw [e]; exact blt_iff.1 (by kernel_rfl)
theorem rnA_w (n : Int) (hn : 2 ≤ n ∧ n ≤ 64) : (rnA_hd n).s.hs.wr < bitOf 3 := by
  have e : (rnA_hd n).s.hs.wr = 7 := by kernel_rfl
  rw [e]; exact blt_iff.1 (by kernel_rfl)
theorem rnA_e0 (n : Int) (hn : 2 ≤ n ∧ n ≤ 64) : beginS Try.prog [(.cell 2 1, 4)] 3 43 (sameB 3 1) [23, 19, 17, 21, 16, 24, 20, 18, 22] 4 7 7 (rnA_hd n).s = some (rnA_S n (List.replicate n.toNat false).reverse ((0 : Int))) := by
  have h : beginS Try.prog [(.cell 2 1, 4)] 3 43 (sameB 3 1) [23, 19, 17, 21, 16, 24, 20, 18, 22] 4 7 7 (rnA_hd n).s = some (rnA_R n (rowA gB (List.replicate n.toNat false)) (n.toNat) ((0 : Int))) := by kernel_rfl
  refine h.trans (congrArg some ?_)
  show rnA_R n (rowA gB (List.replicate n.toNat false)) (n.toNat) ((0 : Int)) = rnA_R n (rowA gB ((List.replicate n.toNat false).reverse : List Bool).reverse) (n.toNat) ((0 : Int))
  first | (simp only [List.reverse_nil, rowA_nil, List.length_nil, List.reverse_reverse, List.length_reverse]; done) | rfl | (simp only [List.reverse_nil, rowA_nil, List.length_nil, List.reverse_reverse, List.length_reverse]; rfl)
theorem rnA_e1 (n : Int) (hn : 2 ≤ n ∧ n ≤ 64) : beginOk Try.prog [(.cell 2 1, 4)] 3 43 (sameB 3 1) 4 (rnA_hd n).s = true := by kernel_rfl
def rnA_X : Nat → VX
  | 0 => .exit 0
  | _ => .normal
noncomputable def rnA_E (kE : Nat) (n : Int) (y0 : List Bool) (y1 : Int) : St := match kE with
  | 0 => (((bodySt (bodyR Try.prog ([] : Vars).length GTab.none 3000 (rnA_hd n) (rnA_S n y0 y1 ) [(0, .b 0)] 3 43 [(3, 3)] [23, 19, 17, 21, 16, 24, 20, 18, 22] 43 7 7)).rows [(3, rowA gB y0.reverse, 4)]).updF [(5, .int .i64 y1)] [(2, 1, .complex .f64 3 (n.toNat))])
  | _ => (rnA_hd n).s
theorem rnA_p0 (n : Int) (y0 : List Bool) (y1 : Int) : bodyR Try.prog ([] : Vars).length GTab.none 3000 (rnA_hd n) (rnA_S n y0 y1 ) [(0, .b 1), (1, .b 1), (2, .b 1), (3, .yes), (4, .arr (rowA (gB) ((y0.reverse.set y1.toNat true).reverse.reverse)))] 3 43 [(3, 3)] [23, 19, 17, 21, 16, 24, 20, 18, 22] 4 7 7 = some (.normal, (rnA_S n ((y0.reverse.set y1.toNat true).reverse) (IntKind.i64.wrap (y1 + (1 : Int)))), [spliceC (rowA (gB) (y0.reverse)) (((y1).toNat) * 1 + 0) ([Value.bool true]) = rowA (gB) ((y0.reverse.set y1.toNat true).reverse.reverse), (Nat.ble (Nat.add (((y1).toNat) * 1 + 0) 1) (rowA (gB) (y0.reverse)).size) = true, (decide (y1 < (↑n.toNat : Int))) = true, (decide ((0 : Int) ≤ y1)) = true, (decide (y1 < n)) = true]) := by kernel_rfl
theorem rnA_p1 (n : Int) (y0 : List Bool) (y1 : Int) : bodyR Try.prog ([] : Vars).length GTab.none 3000 (rnA_hd n) (rnA_S n y0 y1 ) [(0, .b 0)] 3 43 [(3, 3)] [23, 19, 17, 21, 16, 24, 20, 18, 22] 43 7 7 = some (.exit 0, rnA_E 0 n (y0) (y1), [(decide (y1 < n)) = false]) := by kernel_rfl
theorem rnA_q1 (n : Int) (y0 : List Bool) (y1 : Int) : (rnA_E 0 n (y0) (y1)).hs.next = 43 := by kernel_rfl
theorem rnA_d0 (n : Int) (hn : 2 ≤ n ∧ n ≤ 64) (y0 : List Bool) (y1 : Int) (hi : (decide (0 ≤ y1 ∧ y1 ≤ n ∧ (y0.length : Int) = n)) = true) (hq0 : (decide (y1 < n)) = true) : (decide ((0 : Int) ≤ y1)) = true := by
  rcases Bool.eq_false_or_eq_true (decide ((0 : Int) ≤ y1)) with h | h
  · exact h
  · exfalso; (first | (simp_all only [Bool.and_eq_true, Bool.not_eq_true', Bool.false_eq_true, Bool.true_eq_false, reduceCtorEq]; done) | (simp only [sx, sy, eq_self, ne_eq, IntKind.wrap_i64, wrapU64, Int.reduceLT] at * <;> first | contradiction | omega) | omega | ((try simp only [sx, sy, eq_self, ne_eq, IntKind.wrap_i64, wrapU64, Int.reduceLT] at *) <;> omega) | (simp_all; done))
theorem rnA_d1 (n : Int) (hn : 2 ≤ n ∧ n ≤ 64) (y0 : List Bool) (y1 : Int) (hi : (decide (0 ≤ y1 ∧ y1 ≤ n ∧ (y0.length : Int) = n)) = true) (hq0 : (decide (y1 < n)) = true) (hq1 : (decide ((0 : Int) ≤ y1)) = true) : (decide (y1 < (↑n.toNat : Int))) = true := by
  rcases Bool.eq_false_or_eq_true (decide (y1 < (↑n.toNat : Int))) with h | h
  · exact h
  · exfalso; (first | (simp_all only [Bool.and_eq_true, Bool.not_eq_true', Bool.false_eq_true, Bool.true_eq_false, reduceCtorEq]; done) | (simp only [sx, sy, eq_self, ne_eq, IntKind.wrap_i64, wrapU64, Int.reduceLT] at * <;> first | contradiction | omega) | omega | ((try simp only [sx, sy, eq_self, ne_eq, IntKind.wrap_i64, wrapU64, Int.reduceLT] at *) <;> omega) | (simp_all; done))
noncomputable def rnA_f (n : Int) : Nat → List Bool → Int → Option (Nat × (List Bool × Int))
  | 0, _, _ => none
  | fu + 1, y0, y1 => (bif (decide (0 ≤ y1 ∧ y1 ≤ n ∧ (y0.length : Int) = n)) then (bif (decide (y1 < n)) then rnA_f n fu ((y0.reverse.set y1.toNat true).reverse) (IntKind.i64.wrap (y1 + (1 : Int))) else some (0, ((y0), (y1)))) else none)
theorem rnA_fs (n : Int) (fu : Nat) (y0 : List Bool) (y1 : Int) : rnA_f n (fu + 1) y0 y1 = (bif (decide (0 ≤ y1 ∧ y1 ≤ n ∧ (y0.length : Int) = n)) then (bif (decide (y1 < n)) then rnA_f n fu ((y0.reverse.set y1.toNat true).reverse) (IntKind.i64.wrap (y1 + (1 : Int))) else some (0, ((y0), (y1)))) else none) := rfl
theorem rnA_f0 (n : Int) (y0 : List Bool) (y1 : Int) : rnA_f n 0 y0 y1 = none := rfl
theorem rnA_loop (n : Int) (hn : 2 ≤ n ∧ n ≤ 64) : ∀ (fu : Nat) (y0 : List Bool) (y1 : Int) (kk : Nat) (zz : List Bool × Int), rnA_f n fu y0 y1 = some (kk, zz) → VStep (rnA_hd n).s.hs (rnA_S n y0 y1 ).hs → RoundsC Try.prog [] 3 43 (rnA_hd n).s.hs (rnA_hd n).ro (rnA_hd n).a (rnA_S n y0 y1 ) (rnA_X kk) (rnA_E kk n zz.1 zz.2 ) ∧ ((rnA_E kk n zz.1 zz.2 )).hs.next = 43 := by
  intro fu
  induction fu with
  | zero =>
    intro y0 y1 kk zz hf hSz
    have hf := (rnA_f0 n y0 y1 ).symm.trans hf
    simp at hf
  | succ fu ih =>
    intro y0 y1 kk zz hf hSz
    have hf := (rnA_fs n fu y0 y1 ).symm.trans hf
    rcases bif_or hf with ⟨hi, hf⟩ | ⟨hi, hf⟩
    case inr => cases hf
    rcases bif_or hf with ⟨hq0, hf⟩ | ⟨hq0, hf⟩
    ·
      have hq1 := rnA_d0 n hn y0 y1 hi hq0 
      have hq2 := rnA_d1 n hn y0 y1 hi hq0 hq1 
      have hb1 := rnA_p0 n y0 y1 ; have hb2 := body_canonR hb1; have hb3 := hb2 ⟨((row_set (g := (gB)) (k := 1) (fun _ => rfl) (by first | exact of_decide_eq_true hq1 | simpa using of_decide_eq_true hq1) (by first | exact of_decide_eq_true hq2 | (simpa using of_decide_eq_true hq2; done) | (have hx1 := of_decide_eq_true hq2; have hx2 := of_decide_eq_true hi; simp only [List.length_reverse, List.length_set] at *; omega)) (by decide) rfl).trans (by simp only [List.reverse_reverse])), (fact_room (g := (gB)) (fun _ => rfl) (by first | exact of_decide_eq_true hq1 | simpa using of_decide_eq_true hq1) (by first | exact of_decide_eq_true hq2 | (simpa using of_decide_eq_true hq2; done) | (have hx1 := of_decide_eq_true hq2; have hx2 := of_decide_eq_true hi; simp only [List.length_reverse, List.length_set] at *; omega)) (by decide)), hq2, hq1, hq0, trivial⟩; obtain ⟨sz1, kz1, kz2, kz3⟩ := hb3; obtain ⟨gz1, gz2⟩ := ih ((y0.reverse.set y1.toNat true).reverse) (IntKind.i64.wrap (y1 + (1 : Int))) kk zz hf (rounds_step mix (T := GTab.none) GOk.none (rnA_n n hn ) (rnA_r n hn ) (rnA_w n hn ) kz1 hSz kz2 kz3); exact ⟨rounds_next mix (T := GTab.none) GOk.none (rnA_n n hn ) (rnA_r n hn ) (rnA_w n hn ) kz1 hSz kz2 kz3 (fun _ => gz1), gz2⟩
    ·
      injection hf with hf; injection hf with e1 e2; subst e1; subst e2; have hb1 := rnA_p1 n y0 y1 ; have hb2 := body_canonR hb1; have hb3 := hb2 ⟨hq0, trivial⟩; obtain ⟨sz1, kz1, kz2, kz3⟩ := hb3; exact ⟨rounds_end mix (T := GTab.none) GOk.none (rnA_n n hn ) (rnA_r n hn ) (rnA_w n hn ) kz1 (fun h => by cases h) hSz kz2 kz3, rnA_q1 n y0 y1 ⟩
theorem rnA_ok (n : Int) (hn : 2 ≤ n ∧ n ≤ 64) (fu kk : Nat) (zz : List Bool × Int) (hf : rnA_f n fu (List.replicate n.toNat false).reverse ((0 : Int)) = some (kk, zz)) : ∀ B : Bd, B.L = [] → LoopOk Try.prog B (rnA_hd n).ro (rnA_hd n).a (rnA_hd n).s (rnA_X kk) (rnA_E kk n zz.1 zz.2 ) := by
  obtain ⟨sb1, sb2, sb3, sb4⟩ := begin_open (rnA_e0 n hn ) (rnA_e1 n hn )
  have hSz := begin_step2 (rnA_n n hn ) (rnA_r n hn ) (rnA_w n hn ) sb2 sb3 sb4
  obtain ⟨gz1, gz2⟩ := rnA_loop n hn fu (List.replicate n.toNat false).reverse ((0 : Int)) kk zz hf hSz
  exact rounds_ok (rnA_n n hn ) (Nat.le_of_ble_eq_true (by kernel_rfl)) gz2 (rounds_begin2 (rnA_n n hn ) (rnA_r n hn ) (rnA_w n hn ) sb2 sb3 sb4 (fun _ => gz1))

noncomputable def rnK_c1 (n : Int) (rnA_z0 : List Bool) (rnA_z1 : Int)  : List Bool := (rnA_z0.reverse)
theorem rnK_p0 (n : Int) (rnA_z0 : List Bool) (rnA_z1 : Int)  (hn : 2 ≤ n ∧ n ≤ 64) (hz : rnA_z0.length = n.toNat) (rnA_k0 : (decide (n < (2 : Int))) = false) (rnA_k3 : (decide (n > (64 : Int))) = false) (rnA_k4 : (decide ((0 : Int) ≤ n)) = true) (rnA_k5 : (decide (n.toNat * (1 : Nat) < (1000000000 : Nat))) = true) (rnA_l : ∀ B : Bd, B.L = [] → LoopOk Try.prog B (rnA_hd n).ro (rnA_hd n).a (rnA_hd n).s (rnA_X 0) (rnA_E 0 n rnA_z0 rnA_z1 )) : KnownR Try.prog [] 23 [.val (.int .i64 n)] (.tuple #[(.agg #[(.bool (true)), (.complex .f64 0 ((rnA_z0.reverse)).length)]), (.int .i64 ((0 : Int)))]) [(rowA gB ((rnA_z0.reverse)), 4)] :=
  knownR_eq (v := Value.tuple { toList := [Value.agg { toList := [Value.bool true, Value.complex FloatKind.f64 (nat_lit 0) n.toNat] }, Value.int IntKind.i64 (0 : Int)] }) (bs := [(rowA gB rnA_z0.reverse, nat_lit 4)]) (open_resD mix (GOk.add GOk.none rnA_l) (T := (GTab.add GTab.none 6 (rnA_hd n).ro (rnA_hd n).a (rnA_hd n).s (rnA_X 0) (rnA_E 0 n rnA_z0 rnA_z1 ) (by kernel_rfl))) (fuel := 3000) (es := [4]) (ans := [(0, .b 0), (3, .b 0), (4, .b 1), (5, .b 1), (6, .arr (rowA (gB) (List.replicate n.toNat false))), (7, .loop (rnA_X 0) (rnA_E 0 n rnA_z0 rnA_z1 )), ]) (log := [LoopRes Try.prog ([] : Vars).length (GTab.add GTab.none 6 (rnA_hd n).ro (rnA_hd n).a (rnA_hd n).s (rnA_X 0) (rnA_E 0 n rnA_z0 rnA_z1 ) (by kernel_rfl)) (rnA_hd n).ro (rnA_hd n).a (rnA_hd n).s (rnA_X 0) (rnA_E 0 n rnA_z0 rnA_z1 ), (zerosC (Value.bool false) (n.toNat)).toArray = rowA (gB) (List.replicate n.toNat false), (decide (n.toNat * (1 : Nat) < (1000000000 : Nat))) = true, (decide ((0 : Int) ≤ n)) = true, (decide (n > (64 : Int))) = false, (decide (n < (2 : Int))) = false]) (by kernel_rfl) ⟨(loop_known2 add_eq), (row_zero (g := (gB)) rfl), rnA_k5, rnA_k4, rnA_k3, rnA_k0, trivial⟩ (by kernel_rfl)) (by first | rfl | (simp; done) | (simp_all; done)) (by first | rfl | (simp [rowA_nil]; done) | (simp only [rowA_eq]; rfl) | (simp_all [rowA_nil]; done))
set_option maxHeartbeats 8000000 in
theorem rnK (n : Int) (rnA_z0 : List Bool) (rnA_z1 : Int)  (hn : 2 ≤ n ∧ n ≤ 64) (hz : rnA_z0.length = n.toNat) (rnA_k0 : (decide (n < (2 : Int))) = false) (rnA_k3 : (decide (n > (64 : Int))) = false) (rnA_k4 : (decide ((0 : Int) ≤ n)) = true) (rnA_k5 : (decide (n.toNat * (1 : Nat) < (1000000000 : Nat))) = true) (rnA_l : ∀ B : Bd, B.L = [] → LoopOk Try.prog B (rnA_hd n).ro (rnA_hd n).a (rnA_hd n).s (rnA_X 0) (rnA_E 0 n rnA_z0 rnA_z1 )) : KnownR Try.prog [] 23 [.val (.int .i64 n)] (.tuple #[(.agg #[(.bool (true)), (.complex .f64 0 ((rnK_c1 n rnA_z0 rnA_z1)).length)]), (.int .i64 ((0 : Int)))]) [(rowA gB ((rnK_c1 n rnA_z0 rnA_z1)), 4)] := by
  have e1 : rnK_c1 n rnA_z0 rnA_z1 = (rnA_z0.reverse) := rfl; rw [e1]; exact rnK_p0 n rnA_z0 rnA_z1 hn hz rnA_k0 rnA_k3 rnA_k4 rnA_k5 rnA_l

theorem rnE_p0 (n : Int) (hn : ¬(2 ≤ n ∧ n ≤ 64)) (hq0 : (decide (n < (2 : Int))) = true) : KnownR Try.prog [] 23 [.val (.int .i64 n)] (.tuple #[(.agg #[(.bool (false)), (.complex .f64 0 ((([] : List Bool))).length)]), (.int .i64 ((2 : Int)))]) [(rowA gB ((([] : List Bool))), 4)] :=
  knownR_eq (v := Value.tuple { toList := [Value.agg { toList := [Value.bool false, Value.complex FloatKind.f64 (nat_lit 0) (nat_lit 0)] }, Value.int IntKind.i64 (2 : Int)] }) (bs := [({ toList := [] }, nat_lit 4)]) (open_resD mix GOk.none (T := GTab.none) (fuel := 3000) (es := [4]) (ans := [(0, .b 1)]) (log := [(decide (n < (2 : Int))) = true]) (by kernel_rfl) ⟨hq0, trivial⟩ (by kernel_rfl)) (by first | rfl | (simp; done) | (simp_all; done)) (by first | rfl | (simp [rowA_nil]; done) | (simp only [rowA_eq]; rfl) | (simp_all [rowA_nil]; done))
theorem rnE_p1 (n : Int) (hn : ¬(2 ≤ n ∧ n ≤ 64)) (hq0 : (decide (n < (2 : Int))) = false) (hq1 : (decide (n > (64 : Int))) = true) : KnownR Try.prog [] 23 [.val (.int .i64 n)] (.tuple #[(.agg #[(.bool (false)), (.complex .f64 0 ((([] : List Bool))).length)]), (.int .i64 ((2 : Int)))]) [(rowA gB ((([] : List Bool))), 4)] :=
  knownR_eq (v := Value.tuple { toList := [Value.agg { toList := [Value.bool false, Value.complex FloatKind.f64 (nat_lit 0) (nat_lit 0)] }, Value.int IntKind.i64 (2 : Int)] }) (bs := [({ toList := [] }, nat_lit 4)]) (open_resD mix GOk.none (T := GTab.none) (fuel := 3000) (es := [4]) (ans := [(0, .b 0), (3, .b 1)]) (log := [(decide (n > (64 : Int))) = true, (decide (n < (2 : Int))) = false]) (by kernel_rfl) ⟨hq1, hq0, trivial⟩ (by kernel_rfl)) (by first | rfl | (simp; done) | (simp_all; done)) (by first | rfl | (simp [rowA_nil]; done) | (simp only [rowA_eq]; rfl) | (simp_all [rowA_nil]; done))
set_option maxHeartbeats 8000000 in
theorem rnE (n : Int) (hn : ¬(2 ≤ n ∧ n ≤ 64)) : KnownR Try.prog [] 23 [.val (.int .i64 n)] (.tuple #[(.agg #[(.bool (false)), (.complex .f64 0 ((([] : List Bool))).length)]), (.int .i64 ((2 : Int)))]) [(rowA gB ((([] : List Bool))), 4)] := by
  rcases Bool.eq_false_or_eq_true (decide (n < (2 : Int))) with hq0 | hq0
  ·
    exact rnE_p0 n hn hq0
  ·
    have hq1 : (decide (n > (64 : Int))) = true := by
      rcases Bool.eq_false_or_eq_true (decide (n > (64 : Int))) with h | h
      · exact h
      · exfalso; (first | (simp_all only [Bool.and_eq_true, Bool.not_eq_true', Bool.false_eq_true, Bool.true_eq_false, reduceCtorEq]; done) | (simp only [sx, sy, eq_self, ne_eq, IntKind.wrap_i64, wrapU64, Int.reduceLT] at * <;> first | contradiction | omega) | omega | ((try simp only [sx, sy, eq_self, ne_eq, IntKind.wrap_i64, wrapU64, Int.reduceLT] at *) <;> omega) | (simp_all; done))
    exact rnE_p1 n hn hq0 hq1

noncomputable def roA_hd (c : Bool) (l : List Bool) : Hd := headD Try.prog [] GTab.none 3000 46 [.agg [.val (.bool c), .list (rowA gB l) l.length]] [(0, .stop)]
noncomputable def roA_R (c : Bool) (l : List Bool) (rc0 : Array Value) (rn0 : Nat) (y1 : Int) : St := (((entryR Try.prog [(.slot 3, 3)] 2 42 [7, 15, 11, 19, 5, 9, 17, 13, 21, 8, 16, 12, 20, 6, 10, 18, 14] 3 2 (roA_hd c l).s).rows [(2, rc0, 3)]).updF [(3, .complex .f64 2 rn0), (4, .int .i64 y1)] [])
noncomputable def roA_S (c : Bool) (l : List Bool) (y0 : List Int) (y1 : Int) : St := (((entryR Try.prog [(.slot 3, 3)] 2 42 [7, 15, 11, 19, 5, 9, 17, 13, 21, 8, 16, 12, 20, 6, 10, 18, 14] 3 2 (roA_hd c l).s).rows [(2, (rowA gI y0.reverse), 3)]).updF [(3, .complex .f64 2 y0.length), (4, .int .i64 y1)] [])
theorem roA_n (c : Bool) (l : List Bool) (hl : (l.length : Int) ≤ 70) : 2 = (roA_hd c l).s.hs.next := by kernel_rfl
theorem roA_r (c : Bool) (l : List Bool) (hl : (l.length : Int) ≤ 70) : (roA_hd c l).s.hs.rd < bitOf 2 := by
  have e : (roA_hd c l).s.hs.rd = 0 := by kernel_rfl
  rw [e]; exact blt_iff.1 (by kernel_rfl)
theorem roA_w (c : Bool) (l : List Bool) (hl : (l.length : Int) ≤ 70) : (roA_hd c l).s.hs.wr < bitOf 2 := by
  have e : (roA_hd c l).s.hs.wr = 2 := by kernel_rfl
  rw [e]; exact blt_iff.1 (by kernel_rfl)
theorem roA_e0 (c : Bool) (l : List Bool) (hl : (l.length : Int) ≤ 70) : beginS Try.prog [(.slot 3, 3)] 2 42 (sameB 2 1) [7, 15, 11, 19, 5, 9, 17, 13, 21, 8, 16, 12, 20, 6, 10, 18, 14] 3 3 2 (roA_hd c l).s = some (roA_S c l [] ((0 : Int))) := by
  have h : beginS Try.prog [(.slot 3, 3)] 2 42 (sameB 2 1) [7, 15, 11, 19, 5, 9, 17, 13, 21, 8, 16, 12, 20, 6, 10, 18, 14] 3 3 2 (roA_hd c l).s = some (roA_R c l #[] 0 ((0 : Int))) := by kernel_rfl
  refine h.trans (congrArg some ?_)
  show roA_R c l #[] 0 ((0 : Int)) = roA_R c l (rowA gI ([] : List Int).reverse) ([] : List Int).length ((0 : Int))
  first | (simp only [List.reverse_nil, rowA_nil, List.length_nil, List.reverse_reverse, List.length_reverse]; done) | rfl | (simp only [List.reverse_nil, rowA_nil, List.length_nil, List.reverse_reverse, List.length_reverse]; rfl)
theorem roA_e1 (c : Bool) (l : List Bool) (hl : (l.length : Int) ≤ 70) : beginOk Try.prog [(.slot 3, 3)] 2 42 (sameB 2 1) 3 (roA_hd c l).s = true := by kernel_rfl
def roA_X : Nat → VX
  | 0 => .exit 0
  | _ => .normal
noncomputable def roA_E (kE : Nat) (c : Bool) (l : List Bool) (y0 : List Int) (y1 : Int) : St := match kE with
  | 0 => (((bodySt (bodyR Try.prog ([] : Vars).length GTab.none 3000 (roA_hd c l) (roA_S c l y0 y1 ) [(0, .b 0)] 2 42 [(2, 2)] [7, 15, 11, 19, 5, 9, 17, 13, 21, 8, 16, 12, 20, 6, 10, 18, 14] 42 3 2)).rows [(2, rowA gI y0.reverse, 3)]).updF [(3, .complex .f64 2 y0.length), (4, .int .i64 y1)] [])
  | _ => (roA_hd c l).s
theorem roA_p0 (c : Bool) (l : List Bool) (y0 : List Int) (y1 : Int) : bodyR Try.prog ([] : Vars).length GTab.none 3000 (roA_hd c l) (roA_S c l y0 y1 ) [(0, .b 1), (1, .b 1), (2, .b 1), (3, .vals ([Value.bool (el l y1)])), (4, .b 1), (5, .b 1), (6, .yes), (7, .arr (rowA (gI) ((y1 :: y0).reverse)))] 2 42 [(4, 2)] [7, 15, 11, 19, 5, 9, 17, 13, 21, 8, 16, 12, 20, 6, 10, 18, 14] 3 3 2 = some (.normal, (roA_S c l (y1 :: y0) (IntKind.i64.wrap (y1 + (1 : Int)))), [((rowA (gI) (y0.reverse)).toList ++ ([Value.int IntKind.i64 y1])).toArray = rowA (gI) ((y1 :: y0).reverse), ((rowA gI y0.reverse).size.beq (y0.length.mul Try.prog.types[(3 : Nat)].size)) = true, (decide ((y0.length + (1 : Nat)) * (8 : Nat) < (1000000000 : Nat))) = true, (!el l y1) = true, segC (rowA (gB) (l)) (((y1).toNat) * 1 + 0) 1 = some ([Value.bool (el l y1)]), (decide (y1 < (↑l.length : Int))) = true, (decide ((0 : Int) ≤ y1)) = true, (decide (y1 < (↑l.length : Int))) = true]) := by kernel_rfl
theorem roA_p1 (c : Bool) (l : List Bool) (y0 : List Int) (y1 : Int) : bodyR Try.prog ([] : Vars).length GTab.none 3000 (roA_hd c l) (roA_S c l y0 y1 ) [(0, .b 1), (1, .b 1), (2, .b 1), (3, .vals ([Value.bool (el l y1)])), (4, .b 0)] 2 42 [(2, 2)] [7, 15, 11, 19, 5, 9, 17, 13, 21, 8, 16, 12, 20, 6, 10, 18, 14] 3 3 2 = some (.normal, (roA_S c l (y0) (IntKind.i64.wrap (y1 + (1 : Int)))), [(!el l y1) = false, segC (rowA (gB) (l)) (((y1).toNat) * 1 + 0) 1 = some ([Value.bool (el l y1)]), (decide (y1 < (↑l.length : Int))) = true, (decide ((0 : Int) ≤ y1)) = true, (decide (y1 < (↑l.length : Int))) = true]) := by kernel_rfl
theorem roA_p2 (c : Bool) (l : List Bool) (y0 : List Int) (y1 : Int) : bodyR Try.prog ([] : Vars).length GTab.none 3000 (roA_hd c l) (roA_S c l y0 y1 ) [(0, .b 0)] 2 42 [(2, 2)] [7, 15, 11, 19, 5, 9, 17, 13, 21, 8, 16, 12, 20, 6, 10, 18, 14] 42 3 2 = some (.exit 0, roA_E 0 c l (y0) (y1), [(decide (y1 < (↑l.length : Int))) = false]) := by kernel_rfl
theorem roA_q2 (c : Bool) (l : List Bool) (y0 : List Int) (y1 : Int) : (roA_E 0 c l (y0) (y1)).hs.next = 42 := by kernel_rfl
theorem roA_d0 (c : Bool) (l : List Bool) (hl : (l.length : Int) ≤ 70) (y0 : List Int) (y1 : Int) (hi : (decide (0 ≤ y1 ∧ y1 ≤ (l.length : Int) ∧ (y0.length : Int) ≤ y1)) = true) (hq0 : (decide (y1 < (↑l.length : Int))) = true) : (decide ((0 : Int) ≤ y1)) = true := by
  rcases Bool.eq_false_or_eq_true (decide ((0 : Int) ≤ y1)) with h | h
  · exact h
  · exfalso; (first | (simp_all only [Bool.and_eq_true, Bool.not_eq_true', Bool.false_eq_true, Bool.true_eq_false, reduceCtorEq]; done) | (simp only [sx, sy, eq_self, ne_eq, IntKind.wrap_i64, wrapU64, Int.reduceLT] at * <;> first | contradiction | omega) | omega | ((try simp only [sx, sy, eq_self, ne_eq, IntKind.wrap_i64, wrapU64, Int.reduceLT] at *) <;> omega) | (simp_all; done))
theorem roA_d1 (c : Bool) (l : List Bool) (hl : (l.length : Int) ≤ 70) (y0 : List Int) (y1 : Int) (hi : (decide (0 ≤ y1 ∧ y1 ≤ (l.length : Int) ∧ (y0.length : Int) ≤ y1)) = true) (hq0 : (decide (y1 < (↑l.length : Int))) = true) (hq1 : (decide ((0 : Int) ≤ y1)) = true) (hq2 : (!el l y1) = true) : (decide ((y0.length + (1 : Nat)) * (8 : Nat) < (1000000000 : Nat))) = true := by
  rcases Bool.eq_false_or_eq_true (decide ((y0.length + (1 : Nat)) * (8 : Nat) < (1000000000 : Nat))) with h | h
  · exact h
  · exfalso; (first | (simp_all only [Bool.and_eq_true, Bool.not_eq_true', Bool.false_eq_true, Bool.true_eq_false, reduceCtorEq]; done) | (simp only [sx, sy, eq_self, ne_eq, IntKind.wrap_i64, wrapU64, Int.reduceLT] at * <;> first | contradiction | omega) | omega | ((try simp only [sx, sy, eq_self, ne_eq, IntKind.wrap_i64, wrapU64, Int.reduceLT] at *) <;> omega) | (simp_all; done))
noncomputable def roA_f (c : Bool) (l : List Bool) : Nat → List Int → Int → Option (Nat × (List Int × Int))
  | 0, _, _ => none
  | fu + 1, y0, y1 => (bif (decide (0 ≤ y1 ∧ y1 ≤ (l.length : Int) ∧ (y0.length : Int) ≤ y1)) then (bif (decide (y1 < (↑l.length : Int))) then (bif (!el l y1) then roA_f c l fu (y1 :: y0) (IntKind.i64.wrap (y1 + (1 : Int))) else roA_f c l fu (y0) (IntKind.i64.wrap (y1 + (1 : Int)))) else some (0, ((y0), (y1)))) else none)
theorem roA_fs (c : Bool) (l : List Bool) (fu : Nat) (y0 : List Int) (y1 : Int) : roA_f c l (fu + 1) y0 y1 = (bif (decide (0 ≤ y1 ∧ y1 ≤ (l.length : Int) ∧ (y0.length : Int) ≤ y1)) then (bif (decide (y1 < (↑l.length : Int))) then (bif (!el l y1) then roA_f c l fu (y1 :: y0) (IntKind.i64.wrap (y1 + (1 : Int))) else roA_f c l fu (y0) (IntKind.i64.wrap (y1 + (1 : Int)))) else some (0, ((y0), (y1)))) else none) := rfl
theorem roA_f0 (c : Bool) (l : List Bool) (y0 : List Int) (y1 : Int) : roA_f c l 0 y0 y1 = none := rfl
theorem roA_loop (c : Bool) (l : List Bool) (hl : (l.length : Int) ≤ 70) : ∀ (fu : Nat) (y0 : List Int) (y1 : Int) (kk : Nat) (zz : List Int × Int), roA_f c l fu y0 y1 = some (kk, zz) → VStep (roA_hd c l).s.hs (roA_S c l y0 y1 ).hs → RoundsC Try.prog [] 2 42 (roA_hd c l).s.hs (roA_hd c l).ro (roA_hd c l).a (roA_S c l y0 y1 ) (roA_X kk) (roA_E kk c l zz.1 zz.2 ) ∧ ((roA_E kk c l zz.1 zz.2 )).hs.next = 42 := by
  intro fu
  induction fu with
  | zero =>
    intro y0 y1 kk zz hf hSz
    have hf := (roA_f0 c l y0 y1 ).symm.trans hf
    simp at hf
  | succ fu ih =>
    intro y0 y1 kk zz hf hSz
    have hf := (roA_fs c l fu y0 y1 ).symm.trans hf
    rcases bif_or hf with ⟨hi, hf⟩ | ⟨hi, hf⟩
    case inr => cases hf
    rcases bif_or hf with ⟨hq0, hf⟩ | ⟨hq0, hf⟩
    ·
      have hq1 := roA_d0 c l hl y0 y1 hi hq0 
      rcases bif_or hf with ⟨hq2, hf⟩ | ⟨hq2, hf⟩
      ·
        have hq3 := roA_d1 c l hl y0 y1 hi hq0 hq1 hq2 
        have hb1 := roA_p0 c l y0 y1 ; have hb2 := body_canonR hb1; have hb3 := hb2 ⟨(row_snoc (g := (gI)) rfl), (fact_size (g := (gI)) (k := 1) (fun _ => rfl) (by simp)), hq3, hq2, (seg_row (g := (gB)) (k := 1) (fun _ => rfl) (by first | exact of_decide_eq_true hq1 | simpa using of_decide_eq_true hq1) (by first | exact of_decide_eq_true hq0 | (simpa using of_decide_eq_true hq0; done) | (have hx1 := of_decide_eq_true hq0; have hx2 := of_decide_eq_true hi; simp only [List.length_reverse, List.length_set] at *; omega)) (by decide) rfl), hq0, hq1, hq0, trivial⟩; obtain ⟨sz1, kz1, kz2, kz3⟩ := hb3; obtain ⟨gz1, gz2⟩ := ih (y1 :: y0) (IntKind.i64.wrap (y1 + (1 : Int))) kk zz hf (rounds_step mix (T := GTab.none) GOk.none (roA_n c l hl ) (roA_r c l hl ) (roA_w c l hl ) kz1 hSz kz2 kz3); exact ⟨rounds_next mix (T := GTab.none) GOk.none (roA_n c l hl ) (roA_r c l hl ) (roA_w c l hl ) kz1 hSz kz2 kz3 (fun _ => gz1), gz2⟩
      ·
        have hb1 := roA_p1 c l y0 y1 ; have hb2 := body_canonR hb1; have hb3 := hb2 ⟨hq2, (seg_row (g := (gB)) (k := 1) (fun _ => rfl) (by first | exact of_decide_eq_true hq1 | simpa using of_decide_eq_true hq1) (by first | exact of_decide_eq_true hq0 | (simpa using of_decide_eq_true hq0; done) | (have hx1 := of_decide_eq_true hq0; have hx2 := of_decide_eq_true hi; simp only [List.length_reverse, List.length_set] at *; omega)) (by decide) rfl), hq0, hq1, hq0, trivial⟩; obtain ⟨sz1, kz1, kz2, kz3⟩ := hb3; obtain ⟨gz1, gz2⟩ := ih (y0) (IntKind.i64.wrap (y1 + (1 : Int))) kk zz hf (rounds_step mix (T := GTab.none) GOk.none (roA_n c l hl ) (roA_r c l hl ) (roA_w c l hl ) kz1 hSz kz2 kz3); exact ⟨rounds_next mix (T := GTab.none) GOk.none (roA_n c l hl ) (roA_r c l hl ) (roA_w c l hl ) kz1 hSz kz2 kz3 (fun _ => gz1), gz2⟩
    ·
      injection hf with hf; injection hf with e1 e2; subst e1; subst e2; have hb1 := roA_p2 c l y0 y1 ; have hb2 := body_canonR hb1; have hb3 := hb2 ⟨hq0, trivial⟩; obtain ⟨sz1, kz1, kz2, kz3⟩ := hb3; exact ⟨rounds_end mix (T := GTab.none) GOk.none (roA_n c l hl ) (roA_r c l hl ) (roA_w c l hl ) kz1 (fun h => by cases h) hSz kz2 kz3, roA_q2 c l y0 y1 ⟩
theorem roA_ok (c : Bool) (l : List Bool) (hl : (l.length : Int) ≤ 70) (fu kk : Nat) (zz : List Int × Int) (hf : roA_f c l fu [] ((0 : Int)) = some (kk, zz)) : ∀ B : Bd, B.L = [] → LoopOk Try.prog B (roA_hd c l).ro (roA_hd c l).a (roA_hd c l).s (roA_X kk) (roA_E kk c l zz.1 zz.2 ) := by
  obtain ⟨sb1, sb2, sb3, sb4⟩ := begin_open (roA_e0 c l hl ) (roA_e1 c l hl )
  have hSz := begin_step2 (roA_n c l hl ) (roA_r c l hl ) (roA_w c l hl ) sb2 sb3 sb4
  obtain ⟨gz1, gz2⟩ := roA_loop c l hl fu [] ((0 : Int)) kk zz hf hSz
  exact rounds_ok (roA_n c l hl ) (Nat.le_of_ble_eq_true (by kernel_rfl)) gz2 (rounds_begin2 (roA_n c l hl ) (roA_r c l hl ) (roA_w c l hl ) sb2 sb3 sb4 (fun _ => gz1))

noncomputable def roK_c0 (c : Bool) (l : List Bool) (roA_z0 : List Int) (roA_z1 : Int)  : List Int := (roA_z0.reverse)
theorem roK_p0 (c : Bool) (l : List Bool) (roA_z0 : List Int) (roA_z1 : Int)  (hl : (l.length : Int) ≤ 70) (roA_l : ∀ B : Bd, B.L = [] → LoopOk Try.prog B (roA_hd c l).ro (roA_hd c l).a (roA_hd c l).s (roA_X 0) (roA_E 0 c l roA_z0 roA_z1 )) : KnownR Try.prog [] 46 [.agg [.val (.bool c), .list (rowA gB l) l.length]] (.complex .f64 0 ((roA_z0.reverse)).length) [(rowA gI ((roA_z0.reverse)), 3)] :=
  knownR_eq (v := Value.complex FloatKind.f64 (nat_lit 0) roA_z0.length) (bs := [(rowA gI roA_z0.reverse, nat_lit 3)]) (open_resD mix (GOk.add GOk.none roA_l) (T := (GTab.add GTab.none 4 (roA_hd c l).ro (roA_hd c l).a (roA_hd c l).s (roA_X 0) (roA_E 0 c l roA_z0 roA_z1 ) (by kernel_rfl))) (fuel := 3000) (es := [3]) (ans := [(0, .loop (roA_X 0) (roA_E 0 c l roA_z0 roA_z1 )), ]) (log := [LoopRes Try.prog ([] : Vars).length (GTab.add GTab.none 4 (roA_hd c l).ro (roA_hd c l).a (roA_hd c l).s (roA_X 0) (roA_E 0 c l roA_z0 roA_z1 ) (by kernel_rfl)) (roA_hd c l).ro (roA_hd c l).a (roA_hd c l).s (roA_X 0) (roA_E 0 c l roA_z0 roA_z1 )]) (by kernel_rfl) ⟨(loop_known2 add_eq), trivial⟩ (by kernel_rfl)) (by first | rfl | (simp; done) | (simp_all; done)) (by first | rfl | (simp [rowA_nil]; done) | (simp only [rowA_eq]; rfl) | (simp_all [rowA_nil]; done))
set_option maxHeartbeats 8000000 in
theorem roK (c : Bool) (l : List Bool) (roA_z0 : List Int) (roA_z1 : Int)  (hl : (l.length : Int) ≤ 70) (roA_l : ∀ B : Bd, B.L = [] → LoopOk Try.prog B (roA_hd c l).ro (roA_hd c l).a (roA_hd c l).s (roA_X 0) (roA_E 0 c l roA_z0 roA_z1 )) : KnownR Try.prog [] 46 [.agg [.val (.bool c), .list (rowA gB l) l.length]] (.complex .f64 0 ((roK_c0 c l roA_z0 roA_z1)).length) [(rowA gI ((roK_c0 c l roA_z0 roA_z1)), 3)] := by
  have e0 : roK_c0 c l roA_z0 roA_z1 = (roA_z0.reverse) := rfl; rw [e0]; exact roK_p0 c l roA_z0 roA_z1 hl roA_l

noncomputable def owG_c0 (c : Bool) (l : List Bool) : Bool := (c)
noncomputable def owG_c1 (c : Bool) (l : List Bool) : List Bool := (l)
theorem owG_p0 (c : Bool) (l : List Bool) (hl : (l.length : Int) ≤ 70) (hq0 : (decide (l.length * (1 : Nat) < (1000000000 : Nat))) = true) : KnownR Try.prog [] 47 [.agg [.val (.bool c), .list (rowA gB l) l.length]] (.agg #[(.bool (c)), (.complex .f64 0 ((l)).length)]) [(rowA gB ((l)), 4)] :=
  knownR_eq (v := Value.agg { toList := [Value.bool c, Value.complex FloatKind.f64 (nat_lit 0) l.length] }) (bs := [(rowA gB l, nat_lit 4)]) (open_resD mix GOk.none (T := GTab.none) (fuel := 3000) (es := [4]) (ans := [(0, .vals (List.flatMap (gB) (l))), (1, .b 1), (2, .arr (rowA (gB) (l)))]) (log := [(List.flatMap (gB) (l)).toArray = rowA (gB) (l), (decide (l.length * (1 : Nat) < (1000000000 : Nat))) = true, segC (rowA (gB) (l)) 0 ((l.length) * 1) = some (List.flatMap (gB) (l))]) (by kernel_rfl) ⟨(row_new (g := (gB)) rfl), hq0, (seg_all2 (g := (gB)) (k := 1) (fun _ => rfl) (by first | rfl | simp)), trivial⟩ (by kernel_rfl)) (by first | rfl | (simp; done) | (simp_all; done)) (by first | rfl | (simp [rowA_nil]; done) | (simp only [rowA_eq]; rfl) | (simp_all [rowA_nil]; done))
set_option maxHeartbeats 8000000 in
theorem owG (c : Bool) (l : List Bool) (hl : (l.length : Int) ≤ 70) : KnownR Try.prog [] 47 [.agg [.val (.bool c), .list (rowA gB l) l.length]] (.agg #[(.bool (owG_c0 c l)), (.complex .f64 0 ((owG_c1 c l)).length)]) [(rowA gB ((owG_c1 c l)), 4)] := by
  have hq0 : (decide (l.length * (1 : Nat) < (1000000000 : Nat))) = true := by
    rcases Bool.eq_false_or_eq_true (decide (l.length * (1 : Nat) < (1000000000 : Nat))) with h | h
    · exact h
    · exfalso; (first | (simp_all only [Bool.and_eq_true, Bool.not_eq_true', Bool.false_eq_true, Bool.true_eq_false, reduceCtorEq]; done) | (simp only [sx, sy, eq_self, ne_eq, IntKind.wrap_i64, wrapU64, Int.reduceLT] at * <;> first | contradiction | omega) | omega | ((try simp only [sx, sy, eq_self, ne_eq, IntKind.wrap_i64, wrapU64, Int.reduceLT] at *) <;> omega) | (simp_all; done))
  have e0 : owG_c0 c l = (c) := rfl; rw [e0]; have e1 : owG_c1 c l = (l) := rfl; rw [e1]; exact owG_p0 c l hl hq0

noncomputable def ocG_c0 (c : Bool) (l : List Bool) : Bool := (c)
noncomputable def ocG_c1 (c : Bool) (l : List Bool) : List Bool := (l)
theorem ocG_p0 (c : Bool) (l : List Bool) (hl : (l.length : Int) ≤ 70) (hq0 : (decide (l.length * (1 : Nat) < (1000000000 : Nat))) = true) : KnownR Try.prog [] 22 [.agg [.val (.bool c), .list (rowA gB l) l.length]] (.agg #[(.bool (c)), (.complex .f64 0 ((l)).length)]) [(rowA gB ((l)), 4)] :=
  knownR_eq (v := Value.agg { toList := [Value.bool c, Value.complex FloatKind.f64 (nat_lit 0) l.length] }) (bs := [(rowA gB l, nat_lit 4)]) (open_resD mix GOk.none (T := GTab.none) (fuel := 3000) (es := [4]) (ans := [(0, .vals (List.flatMap (gB) (l))), (1, .b 1), (2, .arr (rowA (gB) (l)))]) (log := [(List.flatMap (gB) (l)).toArray = rowA (gB) (l), (decide (l.length * (1 : Nat) < (1000000000 : Nat))) = true, segC (rowA (gB) (l)) 0 ((l.length) * 1) = some (List.flatMap (gB) (l))]) (by kernel_rfl) ⟨(row_new (g := (gB)) rfl), hq0, (seg_all2 (g := (gB)) (k := 1) (fun _ => rfl) (by first | rfl | simp)), trivial⟩ (by kernel_rfl)) (by first | rfl | (simp; done) | (simp_all; done)) (by first | rfl | (simp [rowA_nil]; done) | (simp only [rowA_eq]; rfl) | (simp_all [rowA_nil]; done))
set_option maxHeartbeats 8000000 in
theorem ocG (c : Bool) (l : List Bool) (hl : (l.length : Int) ≤ 70) : KnownR Try.prog [] 22 [.agg [.val (.bool c), .list (rowA gB l) l.length]] (.agg #[(.bool (ocG_c0 c l)), (.complex .f64 0 ((ocG_c1 c l)).length)]) [(rowA gB ((ocG_c1 c l)), 4)] := by
  have hq0 : (decide (l.length * (1 : Nat) < (1000000000 : Nat))) = true := by
    rcases Bool.eq_false_or_eq_true (decide (l.length * (1 : Nat) < (1000000000 : Nat))) with h | h
    · exact h
    · exfalso; (first | (simp_all only [Bool.and_eq_true, Bool.not_eq_true', Bool.false_eq_true, Bool.true_eq_false, reduceCtorEq]; done) | (simp only [sx, sy, eq_self, ne_eq, IntKind.wrap_i64, wrapU64, Int.reduceLT] at * <;> first | contradiction | omega) | omega | ((try simp only [sx, sy, eq_self, ne_eq, IntKind.wrap_i64, wrapU64, Int.reduceLT] at *) <;> omega) | (simp_all; done))
  have e0 : ocG_c0 c l = (c) := rfl; rw [e0]; have e1 : ocG_c1 c l = (l) := rfl; rw [e1]; exact ocG_p0 c l hl hq0

end Go.Proofs.Ytbcbldpppjbkhaa
