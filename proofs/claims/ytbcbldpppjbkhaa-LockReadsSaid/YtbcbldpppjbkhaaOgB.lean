/- Layer 17: chains: New, Check, missing. -/
import Derived.Test.YtbcbldpppjbkhaaLU
import Derived.Test.YtbcbldpppjbkhaaProg
import Derived.ProofKit
import Derived.IntWalk
namespace Go.Proofs.Ytbcbldpppjbkhaa
open Go Go.RowKit
set_option linter.unusedVariables false
set_option linter.unusedSimpArgs false
set_option linter.unnecessarySimpa false
set_option maxHeartbeats 8000000
set_option maxRecDepth 100000
noncomputable def nwA_hd (n : Int) : Hd := headD Try.prog [] GTab.none 3000 17 [.val (.int .i64 n)] [(0, .b 1), (3, .b 0), (4, .b 1), (5, .b 1), (6, .arr (rowA (gB) (List.replicate n.toNat false))), (7, .stop)]
noncomputable def nwA_R (n : Int) (rc0 : Array Value) (rn0 : Nat) (y1 : Int) : St := (((entryR Try.prog [(.cell 2 1, 4)] 3 43 [23, 19, 5, 17, 21, 20, 18, 22] 7 7 (nwA_hd n).s).rows [(3, rc0, 4)]).updF [(16, .int .i64 y1)] [(2, 1, .complex .f64 3 rn0)])
noncomputable def nwA_S (n : Int) (y0 : List Bool) (y1 : Int) : St := (((entryR Try.prog [(.cell 2 1, 4)] 3 43 [23, 19, 5, 17, 21, 20, 18, 22] 7 7 (nwA_hd n).s).rows [(3, (rowA gB y0.reverse), 4)]).updF [(16, .int .i64 y1)] [(2, 1, .complex .f64 3 (n.toNat))])
theorem nwA_n (n : Int) (hn : 2 ≤ n ∧ n ≤ 64) : 3 = (nwA_hd n).s.hs.next := by kernel_rfl
theorem nwA_r (n : Int) (hn : 2 ≤ n ∧ n ≤ 64) : (nwA_hd n).s.hs.rd < bitOf 3 := by
  have e : (nwA_hd n).s.hs.rd = 4 := by kernel_rfl
  rw [e]; exact blt_iff.1 (by kernel_rfl)
theorem nwA_w (n : Int) (hn : 2 ≤ n ∧ n ≤ 64) : (nwA_hd n).s.hs.wr < bitOf 3 := by
  have e : (nwA_hd n).s.hs.wr = 7 := by kernel_rfl
  rw [e]; exact blt_iff.1 (by kernel_rfl)
theorem nwA_e0 (n : Int) (hn : 2 ≤ n ∧ n ≤ 64) : beginS Try.prog [(.cell 2 1, 4)] 3 43 (sameB 3 1) [23, 19, 5, 17, 21, 20, 18, 22] 4 7 7 (nwA_hd n).s = some (nwA_S n (List.replicate n.toNat false).reverse ((0 : Int))) := by
  have h : beginS Try.prog [(.cell 2 1, 4)] 3 43 (sameB 3 1) [23, 19, 5, 17, 21, 20, 18, 22] 4 7 7 (nwA_hd n).s = some (nwA_R n (rowA gB (List.replicate n.toNat false)) (n.toNat) ((0 : Int))) := by kernel_rfl
  refine h.trans (congrArg some ?_)
  show nwA_R n (rowA gB (List.replicate n.toNat false)) (n.toNat) ((0 : Int)) = nwA_R n (rowA gB ((List.replicate n.toNat false).reverse : List Bool).reverse) (n.toNat) ((0 : Int))
  first | (simp only [List.reverse_nil, rowA_nil, List.length_nil, List.reverse_reverse, List.length_reverse]; done) | rfl | (simp only [List.reverse_nil, rowA_nil, List.length_nil, List.reverse_reverse, List.length_reverse]; rfl)
theorem nwA_e1 (n : Int) (hn : 2 ≤ n ∧ n ≤ 64) : beginOk Try.prog [(.cell 2 1, 4)] 3 43 (sameB 3 1) 4 (nwA_hd n).s = true := by kernel_rfl
def nwA_X : Nat → VX
  | 0 => .exit 0
  | _ => .normal
noncomputable def nwA_E (kE : Nat) (n : Int) (y0 : List Bool) (y1 : Int) : St := match kE with
  | 0 => bodySt (bodyR Try.prog ([] : Vars).length GTab.none 3000 (nwA_hd n) (nwA_S n y0 y1 ) [(0, .b 0)] 3 43 [(3, 3)] [23, 19, 5, 17, 21, 20, 18, 22] 43 7 7)
  | _ => (nwA_hd n).s
theorem nwA_p0 (n : Int) (y0 : List Bool) (y1 : Int) : bodyR Try.prog ([] : Vars).length GTab.none 3000 (nwA_hd n) (nwA_S n y0 y1 ) [(0, .b 1), (1, .b 1), (2, .b 1), (3, .yes), (4, .arr (rowA (gB) ((y0.reverse.set y1.toNat true).reverse.reverse)))] 3 43 [(3, 3)] [23, 19, 5, 17, 21, 20, 18, 22] 4 7 7 = some (.normal, (nwA_S n ((y0.reverse.set y1.toNat true).reverse) (IntKind.i64.wrap (y1 + (1 : Int)))), [spliceC (rowA (gB) (y0.reverse)) (((y1).toNat) * 1 + 0) ([Value.bool true]) = rowA (gB) ((y0.reverse.set y1.toNat true).reverse.reverse), (Nat.ble (Nat.add (((y1).toNat) * 1 + 0) 1) (rowA (gB) (y0.reverse)).size) = true, (decide (y1 < (↑n.toNat : Int))) = true, (decide ((0 : Int) ≤ y1)) = true, (decide (y1 < (↑n.toNat : Int))) = true]) := by kernel_rfl
theorem nwA_p1 (n : Int) (y0 : List Bool) (y1 : Int) : bodyR Try.prog ([] : Vars).length GTab.none 3000 (nwA_hd n) (nwA_S n y0 y1 ) [(0, .b 0)] 3 43 [(3, 3)] [23, 19, 5, 17, 21, 20, 18, 22] 43 7 7 = some (.exit 0, bodySt (bodyR Try.prog ([] : Vars).length GTab.none 3000 (nwA_hd n) (nwA_S n y0 y1 ) [(0, .b 0)] 3 43 [(3, 3)] [23, 19, 5, 17, 21, 20, 18, 22] 43 7 7), [(decide (y1 < (↑n.toNat : Int))) = false]) := by kernel_rfl
theorem nwA_q1 (n : Int) (y0 : List Bool) (y1 : Int) : (bodySt (bodyR Try.prog ([] : Vars).length GTab.none 3000 (nwA_hd n) (nwA_S n y0 y1 ) [(0, .b 0)] 3 43 [(3, 3)] [23, 19, 5, 17, 21, 20, 18, 22] 43 7 7)).hs.next = 43 := by kernel_rfl
theorem nwA_d0 (n : Int) (hn : 2 ≤ n ∧ n ≤ 64) (y0 : List Bool) (y1 : Int) (hi : (decide (0 ≤ y1 ∧ y1 ≤ n ∧ (y0.length : Int) = n)) = true) (hq0 : (decide (y1 < (↑n.toNat : Int))) = true) : (decide ((0 : Int) ≤ y1)) = true := by
  rcases Bool.eq_false_or_eq_true (decide ((0 : Int) ≤ y1)) with h | h
  · exact h
  · exfalso; (first | (simp_all only [Bool.and_eq_true, Bool.not_eq_true', Bool.false_eq_true, Bool.true_eq_false, reduceCtorEq]; done) | (simp only [sx, sy, eq_self, ne_eq, IntKind.wrap_i64, wrapU64, Int.reduceLT] at * <;> first | contradiction | omega) | (simp_all; done))
noncomputable def nwA_f (n : Int) : Nat → List Bool → Int → Option (Nat × (List Bool × Int))
  | 0, _, _ => none
  | fu + 1, y0, y1 => (bif (decide (0 ≤ y1 ∧ y1 ≤ n ∧ (y0.length : Int) = n)) then (bif (decide (y1 < (↑n.toNat : Int))) then nwA_f n fu ((y0.reverse.set y1.toNat true).reverse) (IntKind.i64.wrap (y1 + (1 : Int))) else some (0, (y0, y1))) else none)
theorem nwA_fs (n : Int) (fu : Nat) (y0 : List Bool) (y1 : Int) : nwA_f n (fu + 1) y0 y1 = (bif (decide (0 ≤ y1 ∧ y1 ≤ n ∧ (y0.length : Int) = n)) then (bif (decide (y1 < (↑n.toNat : Int))) then nwA_f n fu ((y0.reverse.set y1.toNat true).reverse) (IntKind.i64.wrap (y1 + (1 : Int))) else some (0, (y0, y1))) else none) := rfl
theorem nwA_f0 (n : Int) (y0 : List Bool) (y1 : Int) : nwA_f n 0 y0 y1 = none := rfl
theorem nwA_loop (n : Int) (hn : 2 ≤ n ∧ n ≤ 64) : ∀ (fu : Nat) (y0 : List Bool) (y1 : Int) (kk : Nat) (zz : List Bool × Int), nwA_f n fu y0 y1 = some (kk, zz) → VStep (nwA_hd n).s.hs (nwA_S n y0 y1 ).hs → RoundsC Try.prog [] 3 43 (nwA_hd n).s.hs (nwA_hd n).ro (nwA_hd n).a (nwA_S n y0 y1 ) (nwA_X kk) (nwA_E kk n zz.1 zz.2 ) ∧ ((nwA_E kk n zz.1 zz.2 )).hs.next = 43 := by
  intro fu
  induction fu with
  | zero =>
    intro y0 y1 kk zz hf hSz
    have hf := (nwA_f0 n y0 y1 ).symm.trans hf
    simp at hf
  | succ fu ih =>
    intro y0 y1 kk zz hf hSz
    have hf := (nwA_fs n fu y0 y1 ).symm.trans hf
    rcases bif_or hf with ⟨hi, hf⟩ | ⟨hi, hf⟩
    case inr => cases hf
    rcases bif_or hf with ⟨hq0, hf⟩ | ⟨hq0, hf⟩
    ·
      have hq1 := nwA_d0 n hn y0 y1 hi hq0 
      have hb1 := nwA_p0 n y0 y1 ; have hb2 := body_canonR hb1; have hb3 := hb2 ⟨((row_set (g := (gB)) (k := 1) (fun _ => rfl) (by first | exact of_decide_eq_true hq1 | simpa using of_decide_eq_true hq1) (by first | exact of_decide_eq_true hq0 | (simpa using of_decide_eq_true hq0; done) | (have hx1 := of_decide_eq_true hq0; have hx2 := of_decide_eq_true hi; simp only [List.length_reverse, List.length_set] at *; omega)) (by decide) rfl).trans (by simp only [List.reverse_reverse])), (fact_room (g := (gB)) (fun _ => rfl) (by first | exact of_decide_eq_true hq1 | simpa using of_decide_eq_true hq1) (by first | exact of_decide_eq_true hq0 | (simpa using of_decide_eq_true hq0; done) | (have hx1 := of_decide_eq_true hq0; have hx2 := of_decide_eq_true hi; simp only [List.length_reverse, List.length_set] at *; omega)) (by decide)), hq0, hq1, hq0, trivial⟩; obtain ⟨sz1, kz1, kz2, kz3⟩ := hb3; obtain ⟨gz1, gz2⟩ := ih ((y0.reverse.set y1.toNat true).reverse) (IntKind.i64.wrap (y1 + (1 : Int))) kk zz hf (rounds_step mix (T := GTab.none) GOk.none (nwA_n n hn ) (nwA_r n hn ) (nwA_w n hn ) kz1 hSz kz2 kz3); exact ⟨rounds_next mix (T := GTab.none) GOk.none (nwA_n n hn ) (nwA_r n hn ) (nwA_w n hn ) kz1 hSz kz2 kz3 (fun _ => gz1), gz2⟩
    ·
      injection hf with hf; injection hf with e1 e2; subst e1; subst e2; have hb1 := nwA_p1 n y0 y1 ; have hb2 := body_canonR hb1; have hb3 := hb2 ⟨hq0, trivial⟩; obtain ⟨sz1, kz1, kz2, kz3⟩ := hb3; exact ⟨rounds_end mix (T := GTab.none) GOk.none (nwA_n n hn ) (nwA_r n hn ) (nwA_w n hn ) kz1 (fun h => by cases h) hSz kz2 kz3, nwA_q1 n y0 y1 ⟩
theorem nwA_ok (n : Int) (hn : 2 ≤ n ∧ n ≤ 64) (fu kk : Nat) (zz : List Bool × Int) (hf : nwA_f n fu (List.replicate n.toNat false).reverse ((0 : Int)) = some (kk, zz)) : ∀ B : Bd, B.L = [] → LoopOk Try.prog B (nwA_hd n).ro (nwA_hd n).a (nwA_hd n).s (nwA_X kk) (nwA_E kk n zz.1 zz.2 ) := by
  obtain ⟨sb1, sb2, sb3, sb4⟩ := begin_open (nwA_e0 n hn ) (nwA_e1 n hn )
  have hSz := begin_step2 (nwA_n n hn ) (nwA_r n hn ) (nwA_w n hn ) sb2 sb3 sb4
  obtain ⟨gz1, gz2⟩ := nwA_loop n hn fu (List.replicate n.toNat false).reverse ((0 : Int)) kk zz hf hSz
  exact rounds_ok (nwA_n n hn ) (Nat.le_of_ble_eq_true (by kernel_rfl)) gz2 (rounds_begin2 (nwA_n n hn ) (nwA_r n hn ) (nwA_w n hn ) sb2 sb3 sb4 (fun _ => gz1))

noncomputable def nwK_c1 (n : Int) (nwA_z0 : List Bool) (nwA_z1 : Int)  : List Bool := (nwA_z0.reverse)
theorem nwK_p0 (n : Int) (nwA_z0 : List Bool) (nwA_z1 : Int)  (hn : 2 ≤ n ∧ n ≤ 64) (hz : nwA_z0.length = n.toNat) (nwA_k0 : (decide (n ≥ (2 : Int))) = true) (nwA_k3 : (!decide (n ≤ (64 : Int))) = false) (nwA_k4 : (decide ((0 : Int) ≤ n)) = true) (nwA_k5 : (decide (n.toNat * (1 : Nat) < (1000000000 : Nat))) = true) (nwA_l : ∀ B : Bd, B.L = [] → LoopOk Try.prog B (nwA_hd n).ro (nwA_hd n).a (nwA_hd n).s (nwA_X 0) (nwA_E 0 n nwA_z0 nwA_z1 )) : KnownR Try.prog [] 17 [.val (.int .i64 n)] (.tuple #[(.agg #[(.bool (true)), (.complex .f64 0 ((nwA_z0.reverse)).length)]), (.int .i64 ((0 : Int)))]) [(rowA gB ((nwA_z0.reverse)), 4)] :=
  knownR_eq (v := Value.tuple { toList := [Value.agg { toList := [Value.bool true, Value.complex FloatKind.f64 (nat_lit 0) n.toNat] }, Value.int IntKind.i64 (0 : Int)] }) (bs := [(rowA gB nwA_z0.reverse, nat_lit 4)]) (open_resD mix (GOk.add GOk.none nwA_l) (T := (GTab.add GTab.none 6 (nwA_hd n).ro (nwA_hd n).a (nwA_hd n).s (nwA_X 0) (nwA_E 0 n nwA_z0 nwA_z1 ) (by kernel_rfl))) (fuel := 3000) (es := [4]) (ans := [(0, .b 1), (3, .b 0), (4, .b 1), (5, .b 1), (6, .arr (rowA (gB) (List.replicate n.toNat false))), (7, .loop (nwA_X 0) (nwA_E 0 n nwA_z0 nwA_z1 )), ]) (log := [LoopRes Try.prog ([] : Vars).length (GTab.add GTab.none 6 (nwA_hd n).ro (nwA_hd n).a (nwA_hd n).s (nwA_X 0) (nwA_E 0 n nwA_z0 nwA_z1 ) (by kernel_rfl)) (nwA_hd n).ro (nwA_hd n).a (nwA_hd n).s (nwA_X 0) (nwA_E 0 n nwA_z0 nwA_z1 ), (zerosC (Value.bool false) (n.toNat)).toArray = rowA (gB) (List.replicate n.toNat false), (decide (n.toNat * (1 : Nat) < (1000000000 : Nat))) = true, (decide ((0 : Int) ≤ n)) = true, (!decide (n ≤ (64 : Int))) = false, (decide (n ≥ (2 : Int))) = true]) (by kernel_rfl) ⟨(loop_known2 add_eq), (row_zero (g := (gB)) rfl), nwA_k5, nwA_k4, nwA_k3, nwA_k0, trivial⟩ (by kernel_rfl)) (by first | rfl | (simp; done) | (simp_all; done)) (by first | rfl | (simp [rowA_nil]; done) | (simp only [rowA_eq]; rfl) | (simp_all [rowA_nil]; done))
set_option maxHeartbeats 8000000 in
theorem nwK (n : Int) (nwA_z0 : List Bool) (nwA_z1 : Int)  (hn : 2 ≤ n ∧ n ≤ 64) (hz : nwA_z0.length = n.toNat) (nwA_k0 : (decide (n ≥ (2 : Int))) = true) (nwA_k3 : (!decide (n ≤ (64 : Int))) = false) (nwA_k4 : (decide ((0 : Int) ≤ n)) = true) (nwA_k5 : (decide (n.toNat * (1 : Nat) < (1000000000 : Nat))) = true) (nwA_l : ∀ B : Bd, B.L = [] → LoopOk Try.prog B (nwA_hd n).ro (nwA_hd n).a (nwA_hd n).s (nwA_X 0) (nwA_E 0 n nwA_z0 nwA_z1 )) : KnownR Try.prog [] 17 [.val (.int .i64 n)] (.tuple #[(.agg #[(.bool (true)), (.complex .f64 0 ((nwK_c1 n nwA_z0 nwA_z1)).length)]), (.int .i64 ((0 : Int)))]) [(rowA gB ((nwK_c1 n nwA_z0 nwA_z1)), 4)] := by
  have e1 : nwK_c1 n nwA_z0 nwA_z1 = (nwA_z0.reverse) := rfl; rw [e1]; exact nwK_p0 n nwA_z0 nwA_z1 hn hz nwA_k0 nwA_k3 nwA_k4 nwA_k5 nwA_l

theorem nwE_p0 (n : Int) (hn : ¬(2 ≤ n ∧ n ≤ 64)) (hq0 : (decide (n ≥ (2 : Int))) = true) (hq1 : (!decide (n ≤ (64 : Int))) = true) : KnownR Try.prog [] 17 [.val (.int .i64 n)] (.tuple #[(.agg #[(.bool (false)), (.complex .f64 0 ((([] : List Bool))).length)]), (.int .i64 ((2 : Int)))]) [(rowA gB ((([] : List Bool))), 4)] :=
  knownR_eq (v := Value.tuple { toList := [Value.agg { toList := [Value.bool false, Value.complex FloatKind.f64 (nat_lit 0) (nat_lit 0)] }, Value.int IntKind.i64 (2 : Int)] }) (bs := [({ toList := [] }, nat_lit 4)]) (open_resD mix GOk.none (T := GTab.none) (fuel := 3000) (es := [4]) (ans := [(0, .b 1), (3, .b 1)]) (log := [(!decide (n ≤ (64 : Int))) = true, (decide (n ≥ (2 : Int))) = true]) (by kernel_rfl) ⟨hq1, hq0, trivial⟩ (by kernel_rfl)) (by first | rfl | (simp; done) | (simp_all; done)) (by first | rfl | (simp [rowA_nil]; done) | (simp only [rowA_eq]; rfl) | (simp_all [rowA_nil]; done))
theorem nwE_p1 (n : Int) (hn : ¬(2 ≤ n ∧ n ≤ 64)) (hq0 : (decide (n ≥ (2 : Int))) = false) : KnownR Try.prog [] 17 [.val (.int .i64 n)] (.tuple #[(.agg #[(.bool (false)), (.complex .f64 0 ((([] : List Bool))).length)]), (.int .i64 ((2 : Int)))]) [(rowA gB ((([] : List Bool))), 4)] :=
  knownR_eq (v := Value.tuple { toList := [Value.agg { toList := [Value.bool false, Value.complex FloatKind.f64 (nat_lit 0) (nat_lit 0)] }, Value.int IntKind.i64 (2 : Int)] }) (bs := [({ toList := [] }, nat_lit 4)]) (open_resD mix GOk.none (T := GTab.none) (fuel := 3000) (es := [4]) (ans := [(0, .b 0)]) (log := [(decide (n ≥ (2 : Int))) = false]) (by kernel_rfl) ⟨hq0, trivial⟩ (by kernel_rfl)) (by first | rfl | (simp; done) | (simp_all; done)) (by first | rfl | (simp [rowA_nil]; done) | (simp only [rowA_eq]; rfl) | (simp_all [rowA_nil]; done))
set_option maxHeartbeats 8000000 in
theorem nwE (n : Int) (hn : ¬(2 ≤ n ∧ n ≤ 64)) : KnownR Try.prog [] 17 [.val (.int .i64 n)] (.tuple #[(.agg #[(.bool (false)), (.complex .f64 0 ((([] : List Bool))).length)]), (.int .i64 ((2 : Int)))]) [(rowA gB ((([] : List Bool))), 4)] := by
  rcases Bool.eq_false_or_eq_true (decide (n ≥ (2 : Int))) with hq0 | hq0
  ·
    have hq1 : (!decide (n ≤ (64 : Int))) = true := by
      rcases Bool.eq_false_or_eq_true (!decide (n ≤ (64 : Int))) with h | h
      · exact h
      · exfalso; (first | (simp_all only [Bool.and_eq_true, Bool.not_eq_true', Bool.false_eq_true, Bool.true_eq_false, reduceCtorEq]; done) | (simp only [sx, sy, eq_self, ne_eq, IntKind.wrap_i64, wrapU64, Int.reduceLT] at * <;> first | contradiction | omega) | (simp_all; done))
    exact nwE_p0 n hn hq0 hq1
  ·
    exact nwE_p1 n hn hq0

noncomputable def ckA_hd (c : Bool) (l : List Bool) : Hd := headD Try.prog [] GTab.none 3000 25 [.agg [.val (.bool c), .list (rowA gB l) l.length]] [(0, .b 1), (3, .b 0), (4, .stop)]
noncomputable def ckA_S (c : Bool) (l : List Bool) (y0 : Int) (y1 : Int) : St := ((entryK 2 42 [15, 19, 5, 17, 21, 16, 20, 18, 22] 3 2 (ckA_hd c l).s).updF [(3, .int .i64 y0), (14, .int .i64 y1)] [])
theorem ckA_n (c : Bool) (l : List Bool) (hl : 2 ≤ (l.length : Int) ∧ (l.length : Int) ≤ 64) : 2 = (ckA_hd c l).s.hs.next := by kernel_rfl
theorem ckA_r (c : Bool) (l : List Bool) (hl : 2 ≤ (l.length : Int) ∧ (l.length : Int) ≤ 64) : (ckA_hd c l).s.hs.rd < bitOf 2 := by
  have e : (ckA_hd c l).s.hs.rd = 2 := by kernel_rfl
  rw [e]; exact blt_iff.1 (by kernel_rfl)
theorem ckA_w (c : Bool) (l : List Bool) (hl : 2 ≤ (l.length : Int) ∧ (l.length : Int) ≤ 64) : (ckA_hd c l).s.hs.wr < bitOf 2 := by
  have e : (ckA_hd c l).s.hs.wr = 2 := by kernel_rfl
  rw [e]; exact blt_iff.1 (by kernel_rfl)
theorem ckA_e0 (c : Bool) (l : List Bool) (hl : 2 ≤ (l.length : Int) ∧ (l.length : Int) ≤ 64) : canonS 2 42 [] [15, 19, 5, 17, 21, 16, 20, 18, 22] 2 3 2 (ckA_hd c l).s = some (ckA_S c l ((0 : Int)) ((0 : Int))) := by kernel_rfl
theorem ckA_e1 (c : Bool) (l : List Bool) (hl : 2 ≤ (l.length : Int) ∧ (l.length : Int) ≤ 64) : canonOk 2 42 [] 2 (ckA_hd c l).s = true := canonOkF_eq.symm.trans (by kernel_rfl)
def ckA_X : Nat → VX
  | 0 => .exit 0
  | _ => .normal
noncomputable def ckA_E (kE : Nat) (c : Bool) (l : List Bool) (y0 : Int) (y1 : Int) : St := match kE with
  | 0 => ((bodySt (bodyK Try.prog ([] : Vars).length GTab.none 3000 (ckA_hd c l) (ckA_S c l y0 y1 ) [(0, .b 0)] 2 42 [15, 19, 5, 17, 21, 16, 20, 18, 22] 42 3 2)).updF [(3, .int .i64 y0), (14, .int .i64 y1)] [])
  | _ => (ckA_hd c l).s
theorem ckA_p0 (c : Bool) (l : List Bool) (y0 : Int) (y1 : Int) : bodyK Try.prog ([] : Vars).length GTab.none 3000 (ckA_hd c l) (ckA_S c l y0 y1 ) [(0, .b 1), (1, .b 1), (2, .b 1), (3, .vals ([Value.bool (el l y1)])), (4, .b 1)] 2 42 [15, 19, 5, 17, 21, 16, 20, 18, 22] 2 3 2 = some (.normal, (ckA_S c l (IntKind.i64.wrap (y0 + (1 : Int))) (IntKind.i64.wrap (y1 + (1 : Int)))), [(!el l y1) = true, segC (rowA (gB) (l)) (((y1).toNat) * 1 + 0) 1 = some ([Value.bool (el l y1)]), (decide (y1 < (↑l.length : Int))) = true, (decide ((0 : Int) ≤ y1)) = true, (decide (y1 < (↑l.length : Int))) = true]) := by kernel_rfl
theorem ckA_p1 (c : Bool) (l : List Bool) (y0 : Int) (y1 : Int) : bodyK Try.prog ([] : Vars).length GTab.none 3000 (ckA_hd c l) (ckA_S c l y0 y1 ) [(0, .b 1), (1, .b 1), (2, .b 1), (3, .vals ([Value.bool (el l y1)])), (4, .b 0)] 2 42 [15, 19, 5, 17, 21, 16, 20, 18, 22] 2 3 2 = some (.normal, (ckA_S c l (y0) (IntKind.i64.wrap (y1 + (1 : Int)))), [(!el l y1) = false, segC (rowA (gB) (l)) (((y1).toNat) * 1 + 0) 1 = some ([Value.bool (el l y1)]), (decide (y1 < (↑l.length : Int))) = true, (decide ((0 : Int) ≤ y1)) = true, (decide (y1 < (↑l.length : Int))) = true]) := by kernel_rfl
theorem ckA_p2 (c : Bool) (l : List Bool) (y0 : Int) (y1 : Int) : bodyK Try.prog ([] : Vars).length GTab.none 3000 (ckA_hd c l) (ckA_S c l y0 y1 ) [(0, .b 0)] 2 42 [15, 19, 5, 17, 21, 16, 20, 18, 22] 42 3 2 = some (.exit 0, ckA_E 0 c l (y0) (y1), [(decide (y1 < (↑l.length : Int))) = false]) := by kernel_rfl
theorem ckA_q2 (c : Bool) (l : List Bool) (y0 : Int) (y1 : Int) : (ckA_E 0 c l (y0) (y1)).hs.next = 42 := by kernel_rfl
theorem ckA_d0 (c : Bool) (l : List Bool) (hl : 2 ≤ (l.length : Int) ∧ (l.length : Int) ≤ 64) (y0 : Int) (y1 : Int) (hi : (decide (0 ≤ y1 ∧ y1 ≤ (l.length : Int) ∧ 0 ≤ y0 ∧ y0 ≤ y1)) = true) (hq0 : (decide (y1 < (↑l.length : Int))) = true) : (decide ((0 : Int) ≤ y1)) = true := by
  rcases Bool.eq_false_or_eq_true (decide ((0 : Int) ≤ y1)) with h | h
  · exact h
  · exfalso; (first | (simp_all only [Bool.and_eq_true, Bool.not_eq_true', Bool.false_eq_true, Bool.true_eq_false, reduceCtorEq]; done) | (simp only [sx, sy, eq_self, ne_eq, IntKind.wrap_i64, wrapU64, Int.reduceLT] at * <;> first | contradiction | omega) | (simp_all; done))
noncomputable def ckA_f (c : Bool) (l : List Bool) : Nat → Int → Int → Option (Nat × (Int × Int))
  | 0, _, _ => none
  | fu + 1, y0, y1 => (bif (decide (0 ≤ y1 ∧ y1 ≤ (l.length : Int) ∧ 0 ≤ y0 ∧ y0 ≤ y1)) then (bif (decide (y1 < (↑l.length : Int))) then (bif (!el l y1) then ckA_f c l fu (IntKind.i64.wrap (y0 + (1 : Int))) (IntKind.i64.wrap (y1 + (1 : Int))) else ckA_f c l fu (y0) (IntKind.i64.wrap (y1 + (1 : Int)))) else some (0, ((y0), (y1)))) else none)
theorem ckA_fs (c : Bool) (l : List Bool) (fu : Nat) (y0 : Int) (y1 : Int) : ckA_f c l (fu + 1) y0 y1 = (bif (decide (0 ≤ y1 ∧ y1 ≤ (l.length : Int) ∧ 0 ≤ y0 ∧ y0 ≤ y1)) then (bif (decide (y1 < (↑l.length : Int))) then (bif (!el l y1) then ckA_f c l fu (IntKind.i64.wrap (y0 + (1 : Int))) (IntKind.i64.wrap (y1 + (1 : Int))) else ckA_f c l fu (y0) (IntKind.i64.wrap (y1 + (1 : Int)))) else some (0, ((y0), (y1)))) else none) := rfl
theorem ckA_f0 (c : Bool) (l : List Bool) (y0 : Int) (y1 : Int) : ckA_f c l 0 y0 y1 = none := rfl
theorem ckA_loop (c : Bool) (l : List Bool) (hl : 2 ≤ (l.length : Int) ∧ (l.length : Int) ≤ 64) : ∀ (fu : Nat) (y0 : Int) (y1 : Int) (kk : Nat) (zz : Int × Int), ckA_f c l fu y0 y1 = some (kk, zz) → VStep (ckA_hd c l).s.hs (ckA_S c l y0 y1 ).hs → RoundsC Try.prog [] 2 42 (ckA_hd c l).s.hs (ckA_hd c l).ro (ckA_hd c l).a (ckA_S c l y0 y1 ) (ckA_X kk) (ckA_E kk c l zz.1 zz.2 ) ∧ ((ckA_E kk c l zz.1 zz.2 )).hs.next = 42 := by
  intro fu
  induction fu with
  | zero =>
    intro y0 y1 kk zz hf hSz
    have hf := (ckA_f0 c l y0 y1 ).symm.trans hf
    simp at hf
  | succ fu ih =>
    intro y0 y1 kk zz hf hSz
    have hf := (ckA_fs c l fu y0 y1 ).symm.trans hf
    rcases bif_or hf with ⟨hi, hf⟩ | ⟨hi, hf⟩
    case inr => cases hf
    rcases bif_or hf with ⟨hq0, hf⟩ | ⟨hq0, hf⟩
    ·
      have hq1 := ckA_d0 c l hl y0 y1 hi hq0 
      rcases bif_or hf with ⟨hq2, hf⟩ | ⟨hq2, hf⟩
      ·
        have hb1 := ckA_p0 c l y0 y1 ; have hb2 := body_canon hb1; have hb3 := hb2 ⟨hq2, (seg_row (g := (gB)) (k := 1) (fun _ => rfl) (by first | exact of_decide_eq_true hq1 | simpa using of_decide_eq_true hq1) (by first | exact of_decide_eq_true hq0 | (simpa using of_decide_eq_true hq0; done) | (have hx1 := of_decide_eq_true hq0; have hx2 := of_decide_eq_true hi; simp only [List.length_reverse, List.length_set] at *; omega)) (by decide) rfl), hq0, hq1, hq0, trivial⟩; obtain ⟨sz1, kz1, kz2, kz3⟩ := hb3; obtain ⟨gz1, gz2⟩ := ih (IntKind.i64.wrap (y0 + (1 : Int))) (IntKind.i64.wrap (y1 + (1 : Int))) kk zz hf (rounds_step mix (T := GTab.none) GOk.none (ckA_n c l hl ) (ckA_r c l hl ) (ckA_w c l hl ) kz1 hSz kz2 kz3); exact ⟨rounds_next mix (T := GTab.none) GOk.none (ckA_n c l hl ) (ckA_r c l hl ) (ckA_w c l hl ) kz1 hSz kz2 kz3 (fun _ => gz1), gz2⟩
      ·
        have hb1 := ckA_p1 c l y0 y1 ; have hb2 := body_canon hb1; have hb3 := hb2 ⟨hq2, (seg_row (g := (gB)) (k := 1) (fun _ => rfl) (by first | exact of_decide_eq_true hq1 | simpa using of_decide_eq_true hq1) (by first | exact of_decide_eq_true hq0 | (simpa using of_decide_eq_true hq0; done) | (have hx1 := of_decide_eq_true hq0; have hx2 := of_decide_eq_true hi; simp only [List.length_reverse, List.length_set] at *; omega)) (by decide) rfl), hq0, hq1, hq0, trivial⟩; obtain ⟨sz1, kz1, kz2, kz3⟩ := hb3; obtain ⟨gz1, gz2⟩ := ih (y0) (IntKind.i64.wrap (y1 + (1 : Int))) kk zz hf (rounds_step mix (T := GTab.none) GOk.none (ckA_n c l hl ) (ckA_r c l hl ) (ckA_w c l hl ) kz1 hSz kz2 kz3); exact ⟨rounds_next mix (T := GTab.none) GOk.none (ckA_n c l hl ) (ckA_r c l hl ) (ckA_w c l hl ) kz1 hSz kz2 kz3 (fun _ => gz1), gz2⟩
    ·
      injection hf with hf; injection hf with e1 e2; subst e1; subst e2; have hb1 := ckA_p2 c l y0 y1 ; have hb2 := body_canon hb1; have hb3 := hb2 ⟨hq0, trivial⟩; obtain ⟨sz1, kz1, kz2, kz3⟩ := hb3; exact ⟨rounds_end mix (T := GTab.none) GOk.none (ckA_n c l hl ) (ckA_r c l hl ) (ckA_w c l hl ) kz1 (fun h => by cases h) hSz kz2 kz3, ckA_q2 c l y0 y1 ⟩
theorem ckA_ok (c : Bool) (l : List Bool) (hl : 2 ≤ (l.length : Int) ∧ (l.length : Int) ≤ 64) (fu kk : Nat) (zz : Int × Int) (hf : ckA_f c l fu ((0 : Int)) ((0 : Int)) = some (kk, zz)) : ∀ B : Bd, B.L = [] → LoopOk Try.prog B (ckA_hd c l).ro (ckA_hd c l).a (ckA_hd c l).s (ckA_X kk) (ckA_E kk c l zz.1 zz.2 ) := by
  have hSz := begin_step (ckA_n c l hl ) (ckA_r c l hl ) (ckA_w c l hl ) (ckA_e0 c l hl ) (ckA_e1 c l hl )
  obtain ⟨gz1, gz2⟩ := ckA_loop c l hl fu ((0 : Int)) ((0 : Int)) kk zz hf hSz
  exact rounds_ok (ckA_n c l hl ) (Nat.le_of_ble_eq_true (by kernel_rfl)) gz2 (rounds_begin (ckA_n c l hl ) (ckA_r c l hl ) (ckA_w c l hl ) (ckA_e0 c l hl ) (ckA_e1 c l hl ) (fun _ => gz1))

noncomputable def ckK_c0 (c : Bool) (l : List Bool) (ckA_z0 : Int) (ckA_z1 : Int)  : Int := (bif (decide (ckA_z0 > (1 : Int))) then ((9 : Int)) else (bif (ckA_z0 == (1 : Int)) then (bif (c) then ((9 : Int)) else ((0 : Int))) else ((0 : Int))))
theorem ckK_p0 (c : Bool) (l : List Bool) (ckA_z0 : Int) (ckA_z1 : Int)  (hl : 2 ≤ (l.length : Int) ∧ (l.length : Int) ≤ 64) (ckA_k0 : (decide ((↑l.length : Int) ≥ (2 : Int))) = true) (ckA_k3 : (!decide ((↑l.length : Int) ≤ (64 : Int))) = false) (ckA_l : ∀ B : Bd, B.L = [] → LoopOk Try.prog B (ckA_hd c l).ro (ckA_hd c l).a (ckA_hd c l).s (ckA_X 0) (ckA_E 0 c l ckA_z0 ckA_z1 )) (hq0 : (decide (ckA_z0 > (1 : Int))) = true) : KnownR Try.prog [] 25 [.agg [.val (.bool c), .list (rowA gB l) l.length]] (.int .i64 ((9 : Int))) [] :=
  knownR_eq (v := Value.int IntKind.i64 (9 : Int)) (bs := []) (open_resD mix (GOk.add GOk.none ckA_l) (T := (GTab.add GTab.none 6 (ckA_hd c l).ro (ckA_hd c l).a (ckA_hd c l).s (ckA_X 0) (ckA_E 0 c l ckA_z0 ckA_z1 ) (by kernel_rfl))) (fuel := 3000) (es := []) (ans := [(0, .b 1), (3, .b 0), (4, .loop (ckA_X 0) (ckA_E 0 c l ckA_z0 ckA_z1 )), (5, .b 1)]) (log := [(decide (ckA_z0 > (1 : Int))) = true, LoopRes Try.prog ([] : Vars).length (GTab.add GTab.none 6 (ckA_hd c l).ro (ckA_hd c l).a (ckA_hd c l).s (ckA_X 0) (ckA_E 0 c l ckA_z0 ckA_z1 ) (by kernel_rfl)) (ckA_hd c l).ro (ckA_hd c l).a (ckA_hd c l).s (ckA_X 0) (ckA_E 0 c l ckA_z0 ckA_z1 ), (!decide ((↑l.length : Int) ≤ (64 : Int))) = false, (decide ((↑l.length : Int) ≥ (2 : Int))) = true]) (by kernel_rfl) ⟨hq0, (loop_known2 add_eq), ckA_k3, ckA_k0, trivial⟩ (by kernel_rfl)) (by first | rfl | (simp; done) | (simp_all; done)) (by first | rfl | (simp [rowA_nil]; done) | (simp only [rowA_eq]; rfl) | (simp_all [rowA_nil]; done))
theorem ckK_p1 (c : Bool) (l : List Bool) (ckA_z0 : Int) (ckA_z1 : Int)  (hl : 2 ≤ (l.length : Int) ∧ (l.length : Int) ≤ 64) (ckA_k0 : (decide ((↑l.length : Int) ≥ (2 : Int))) = true) (ckA_k3 : (!decide ((↑l.length : Int) ≤ (64 : Int))) = false) (ckA_l : ∀ B : Bd, B.L = [] → LoopOk Try.prog B (ckA_hd c l).ro (ckA_hd c l).a (ckA_hd c l).s (ckA_X 0) (ckA_E 0 c l ckA_z0 ckA_z1 )) (hq0 : (decide (ckA_z0 > (1 : Int))) = false) (hq1 : (ckA_z0 == (1 : Int)) = true) (hq2 : (c) = true) : KnownR Try.prog [] 25 [.agg [.val (.bool c), .list (rowA gB l) l.length]] (.int .i64 ((9 : Int))) [] :=
  knownR_eq (v := Value.int IntKind.i64 (9 : Int)) (bs := []) (open_resD mix (GOk.add GOk.none ckA_l) (T := (GTab.add GTab.none 6 (ckA_hd c l).ro (ckA_hd c l).a (ckA_hd c l).s (ckA_X 0) (ckA_E 0 c l ckA_z0 ckA_z1 ) (by kernel_rfl))) (fuel := 3000) (es := []) (ans := [(0, .b 1), (3, .b 0), (4, .loop (ckA_X 0) (ckA_E 0 c l ckA_z0 ckA_z1 )), (5, .b 0), (8, .b 1), (13, .b 1)]) (log := [(c) = true, (ckA_z0 == (1 : Int)) = true, (decide (ckA_z0 > (1 : Int))) = false, LoopRes Try.prog ([] : Vars).length (GTab.add GTab.none 6 (ckA_hd c l).ro (ckA_hd c l).a (ckA_hd c l).s (ckA_X 0) (ckA_E 0 c l ckA_z0 ckA_z1 ) (by kernel_rfl)) (ckA_hd c l).ro (ckA_hd c l).a (ckA_hd c l).s (ckA_X 0) (ckA_E 0 c l ckA_z0 ckA_z1 ), (!decide ((↑l.length : Int) ≤ (64 : Int))) = false, (decide ((↑l.length : Int) ≥ (2 : Int))) = true]) (by kernel_rfl) ⟨hq2, hq1, hq0, (loop_known2 add_eq), ckA_k3, ckA_k0, trivial⟩ (by kernel_rfl)) (by first | rfl | (simp; done) | (simp_all; done)) (by first | rfl | (simp [rowA_nil]; done) | (simp only [rowA_eq]; rfl) | (simp_all [rowA_nil]; done))
theorem ckK_p2 (c : Bool) (l : List Bool) (ckA_z0 : Int) (ckA_z1 : Int)  (hl : 2 ≤ (l.length : Int) ∧ (l.length : Int) ≤ 64) (ckA_k0 : (decide ((↑l.length : Int) ≥ (2 : Int))) = true) (ckA_k3 : (!decide ((↑l.length : Int) ≤ (64 : Int))) = false) (ckA_l : ∀ B : Bd, B.L = [] → LoopOk Try.prog B (ckA_hd c l).ro (ckA_hd c l).a (ckA_hd c l).s (ckA_X 0) (ckA_E 0 c l ckA_z0 ckA_z1 )) (hq0 : (decide (ckA_z0 > (1 : Int))) = false) (hq1 : (ckA_z0 == (1 : Int)) = true) (hq2 : (c) = false) : KnownR Try.prog [] 25 [.agg [.val (.bool c), .list (rowA gB l) l.length]] (.int .i64 ((0 : Int))) [] :=
  knownR_eq (v := Value.int IntKind.i64 (0 : Int)) (bs := []) (open_resD mix (GOk.add GOk.none ckA_l) (T := (GTab.add GTab.none 6 (ckA_hd c l).ro (ckA_hd c l).a (ckA_hd c l).s (ckA_X 0) (ckA_E 0 c l ckA_z0 ckA_z1 ) (by kernel_rfl))) (fuel := 3000) (es := []) (ans := [(0, .b 1), (3, .b 0), (4, .loop (ckA_X 0) (ckA_E 0 c l ckA_z0 ckA_z1 )), (5, .b 0), (8, .b 1), (13, .b 0)]) (log := [(c) = false, (ckA_z0 == (1 : Int)) = true, (decide (ckA_z0 > (1 : Int))) = false, LoopRes Try.prog ([] : Vars).length (GTab.add GTab.none 6 (ckA_hd c l).ro (ckA_hd c l).a (ckA_hd c l).s (ckA_X 0) (ckA_E 0 c l ckA_z0 ckA_z1 ) (by kernel_rfl)) (ckA_hd c l).ro (ckA_hd c l).a (ckA_hd c l).s (ckA_X 0) (ckA_E 0 c l ckA_z0 ckA_z1 ), (!decide ((↑l.length : Int) ≤ (64 : Int))) = false, (decide ((↑l.length : Int) ≥ (2 : Int))) = true]) (by kernel_rfl) ⟨hq2, hq1, hq0, (loop_known2 add_eq), ckA_k3, ckA_k0, trivial⟩ (by kernel_rfl)) (by first | rfl | (simp; done) | (simp_all; done)) (by first | rfl | (simp [rowA_nil]; done) | (simp only [rowA_eq]; rfl) | (simp_all [rowA_nil]; done))
theorem ckK_p3 (c : Bool) (l : List Bool) (ckA_z0 : Int) (ckA_z1 : Int)  (hl : 2 ≤ (l.length : Int) ∧ (l.length : Int) ≤ 64) (ckA_k0 : (decide ((↑l.length : Int) ≥ (2 : Int))) = true) (ckA_k3 : (!decide ((↑l.length : Int) ≤ (64 : Int))) = false) (ckA_l : ∀ B : Bd, B.L = [] → LoopOk Try.prog B (ckA_hd c l).ro (ckA_hd c l).a (ckA_hd c l).s (ckA_X 0) (ckA_E 0 c l ckA_z0 ckA_z1 )) (hq0 : (decide (ckA_z0 > (1 : Int))) = false) (hq1 : (ckA_z0 == (1 : Int)) = false) : KnownR Try.prog [] 25 [.agg [.val (.bool c), .list (rowA gB l) l.length]] (.int .i64 ((0 : Int))) [] :=
  knownR_eq (v := Value.int IntKind.i64 (0 : Int)) (bs := []) (open_resD mix (GOk.add GOk.none ckA_l) (T := (GTab.add GTab.none 6 (ckA_hd c l).ro (ckA_hd c l).a (ckA_hd c l).s (ckA_X 0) (ckA_E 0 c l ckA_z0 ckA_z1 ) (by kernel_rfl))) (fuel := 3000) (es := []) (ans := [(0, .b 1), (3, .b 0), (4, .loop (ckA_X 0) (ckA_E 0 c l ckA_z0 ckA_z1 )), (5, .b 0), (8, .b 0)]) (log := [(ckA_z0 == (1 : Int)) = false, (decide (ckA_z0 > (1 : Int))) = false, LoopRes Try.prog ([] : Vars).length (GTab.add GTab.none 6 (ckA_hd c l).ro (ckA_hd c l).a (ckA_hd c l).s (ckA_X 0) (ckA_E 0 c l ckA_z0 ckA_z1 ) (by kernel_rfl)) (ckA_hd c l).ro (ckA_hd c l).a (ckA_hd c l).s (ckA_X 0) (ckA_E 0 c l ckA_z0 ckA_z1 ), (!decide ((↑l.length : Int) ≤ (64 : Int))) = false, (decide ((↑l.length : Int) ≥ (2 : Int))) = true]) (by kernel_rfl) ⟨hq1, hq0, (loop_known2 add_eq), ckA_k3, ckA_k0, trivial⟩ (by kernel_rfl)) (by first | rfl | (simp; done) | (simp_all; done)) (by first | rfl | (simp [rowA_nil]; done) | (simp only [rowA_eq]; rfl) | (simp_all [rowA_nil]; done))
set_option maxHeartbeats 8000000 in
theorem ckK (c : Bool) (l : List Bool) (ckA_z0 : Int) (ckA_z1 : Int)  (hl : 2 ≤ (l.length : Int) ∧ (l.length : Int) ≤ 64) (ckA_k0 : (decide ((↑l.length : Int) ≥ (2 : Int))) = true) (ckA_k3 : (!decide ((↑l.length : Int) ≤ (64 : Int))) = false) (ckA_l : ∀ B : Bd, B.L = [] → LoopOk Try.prog B (ckA_hd c l).ro (ckA_hd c l).a (ckA_hd c l).s (ckA_X 0) (ckA_E 0 c l ckA_z0 ckA_z1 )) : KnownR Try.prog [] 25 [.agg [.val (.bool c), .list (rowA gB l) l.length]] (.int .i64 (ckK_c0 c l ckA_z0 ckA_z1)) [] := by
  rcases Bool.eq_false_or_eq_true (decide (ckA_z0 > (1 : Int))) with hq0 | hq0
  ·
    have e0 : ckK_c0 c l ckA_z0 ckA_z1 = ((9 : Int)) := ((bif_t hq0 _ _).trans rfl); rw [e0]; exact ckK_p0 c l ckA_z0 ckA_z1 hl ckA_k0 ckA_k3 ckA_l hq0
  ·
    rcases Bool.eq_false_or_eq_true (ckA_z0 == (1 : Int)) with hq1 | hq1
    ·
      rcases Bool.eq_false_or_eq_true (c) with hq2 | hq2
      ·
        have e0 : ckK_c0 c l ckA_z0 ckA_z1 = ((9 : Int)) := ((bif_f hq0 _ _).trans ((bif_t hq1 _ _).trans ((bif_t hq2 _ _).trans rfl))); rw [e0]; exact ckK_p1 c l ckA_z0 ckA_z1 hl ckA_k0 ckA_k3 ckA_l hq0 hq1 hq2
      ·
        have e0 : ckK_c0 c l ckA_z0 ckA_z1 = ((0 : Int)) := ((bif_f hq0 _ _).trans ((bif_t hq1 _ _).trans ((bif_f hq2 _ _).trans rfl))); rw [e0]; exact ckK_p2 c l ckA_z0 ckA_z1 hl ckA_k0 ckA_k3 ckA_l hq0 hq1 hq2
    ·
      have e0 : ckK_c0 c l ckA_z0 ckA_z1 = ((0 : Int)) := ((bif_f hq0 _ _).trans ((bif_f hq1 _ _).trans rfl)); rw [e0]; exact ckK_p3 c l ckA_z0 ckA_z1 hl ckA_k0 ckA_k3 ckA_l hq0 hq1

theorem ckE_p0 (c : Bool) (l : List Bool) (hl : ¬ (2 ≤ (l.length : Int) ∧ (l.length : Int) ≤ 64)) (hq0 : (decide ((↑l.length : Int) ≥ (2 : Int))) = true) (hq1 : (!decide ((↑l.length : Int) ≤ (64 : Int))) = true) : KnownR Try.prog [] 25 [.agg [.val (.bool c), .list (rowA gB l) l.length]] (.int .i64 ((2 : Int))) [] :=
  knownR_eq (v := Value.int IntKind.i64 (2 : Int)) (bs := []) (open_resD mix GOk.none (T := GTab.none) (fuel := 3000) (es := []) (ans := [(0, .b 1), (3, .b 1)]) (log := [(!decide ((↑l.length : Int) ≤ (64 : Int))) = true, (decide ((↑l.length : Int) ≥ (2 : Int))) = true]) (by kernel_rfl) ⟨hq1, hq0, trivial⟩ (by kernel_rfl)) (by first | rfl | (simp; done) | (simp_all; done)) (by first | rfl | (simp [rowA_nil]; done) | (simp only [rowA_eq]; rfl) | (simp_all [rowA_nil]; done))
theorem ckE_p1 (c : Bool) (l : List Bool) (hl : ¬ (2 ≤ (l.length : Int) ∧ (l.length : Int) ≤ 64)) (hq0 : (decide ((↑l.length : Int) ≥ (2 : Int))) = false) : KnownR Try.prog [] 25 [.agg [.val (.bool c), .list (rowA gB l) l.length]] (.int .i64 ((2 : Int))) [] :=
  knownR_eq (v := Value.int IntKind.i64 (2 : Int)) (bs := []) (open_resD mix GOk.none (T := GTab.none) (fuel := 3000) (es := []) (ans := [(0, .b 0)]) (log := [(decide ((↑l.length : Int) ≥ (2 : Int))) = false]) (by kernel_rfl) ⟨hq0, trivial⟩ (by kernel_rfl)) (by first | rfl | (simp; done) | (simp_all; done)) (by first | rfl | (simp [rowA_nil]; done) | (simp only [rowA_eq]; rfl) | (simp_all [rowA_nil]; done))
set_option maxHeartbeats 8000000 in
theorem ckE (c : Bool) (l : List Bool) (hl : ¬ (2 ≤ (l.length : Int) ∧ (l.length : Int) ≤ 64)) : KnownR Try.prog [] 25 [.agg [.val (.bool c), .list (rowA gB l) l.length]] (.int .i64 ((2 : Int))) [] := by
  rcases Bool.eq_false_or_eq_true (decide ((↑l.length : Int) ≥ (2 : Int))) with hq0 | hq0
  ·
    have hq1 : (!decide ((↑l.length : Int) ≤ (64 : Int))) = true := by
      rcases Bool.eq_false_or_eq_true (!decide ((↑l.length : Int) ≤ (64 : Int))) with h | h
      · exact h
      · exfalso; (first | (simp_all only [Bool.and_eq_true, Bool.not_eq_true', Bool.false_eq_true, Bool.true_eq_false, reduceCtorEq]; done) | (simp only [sx, sy, eq_self, ne_eq, IntKind.wrap_i64, wrapU64, Int.reduceLT] at * <;> first | contradiction | omega) | (simp_all; done))
    exact ckE_p0 c l hl hq0 hq1
  ·
    exact ckE_p1 c l hl hq0

end Go.Proofs.Ytbcbldpppjbkhaa
