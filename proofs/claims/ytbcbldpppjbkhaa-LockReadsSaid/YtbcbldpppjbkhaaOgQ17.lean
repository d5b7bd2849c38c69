/- Layer 17: LockReads: the reference. -/
import Derived.Test.YtbcbldpppjbkhaaQA
import Derived.ProofKit
import Derived.IntWalk
namespace Go.Proofs.Ytbcbldpppjbkhaa
open Go Go.RowKit
set_option linter.unusedVariables false
set_option linter.unusedSimpArgs false
set_option linter.unnecessarySimpa false
set_option maxHeartbeats 8000000
set_option maxRecDepth 100000
noncomputable def roB_hd (c : Bool) (l : List Bool) : Hd := headD Try.prog [] GTab.none 3000 46 [.agg [.val (.bool c), .list (rowA gB l) l.length]] [(0, .stop)]
noncomputable def roB_R (c : Bool) (l : List Bool) (rc0 : Array Value) (rn0 : Nat) (y1 : Int) : St := (St.mk (TV.node (some (Value.agg { toList := [Value.bool c, Value.complex FloatKind.f64 (nat_lit 0) l.length] })) (TV.node (some (Value.pointer (some { block := nat_lit 1, off := nat_lit 0 }))) (TV.node (some (Value.complex FloatKind.f64 (nat_lit 2) rn0)) (TV.node (some junk) (TV.node (some junk) TV.nil TV.nil) TV.nil) (TV.node (some junk) (TV.node (some junk) TV.nil TV.nil) TV.nil)) (TV.node (some junk) (TV.node (some junk) (TV.node (some junk) TV.nil TV.nil) TV.nil) (TV.node (some junk) (TV.node (some junk) TV.nil TV.nil) TV.nil))) (TV.node (some (Value.slice none (nat_lit 0) (nat_lit 0))) (TV.node (some (Value.int IntKind.i64 y1)) (TV.node (some junk) (TV.node (some junk) TV.nil TV.nil) TV.nil) (TV.node (some junk) (TV.node (some junk) TV.nil TV.nil) TV.nil)) (TV.node (some junk) (TV.node (some junk) (TV.node (some junk) TV.nil TV.nil) TV.nil) (TV.node (some junk) (TV.node (some (Value.tuple { toList := [] })) TV.nil TV.nil) TV.nil)))) (HS.mk (Tr.node (some (VO.ro (rowA (gB) (l)) 0)) (Tr.node (some (VO.live (Obj.cells ({ toList := [Value.bool c, Value.complex FloatKind.f64 (nat_lit 0) l.length] }) 24 ((nat_lit 0, nat_lit 0))) true)) Tr.nil Tr.nil) (Tr.node (some (VO.row rc0 3)) Tr.nil Tr.nil)) 3 4398046511103 4398046511102) [])
noncomputable def roB_S (c : Bool) (l : List Bool) (y0 : List Int) (y1 : Int) : St := roB_R c l (rowA gI y0.reverse) y0.length y1 
theorem roB_n (c : Bool) (l : List Bool) (hl : (l.length : Int) ≤ 128) : 2 = (roB_hd c l).s.hs.next := by kernel_rfl
theorem roB_r (c : Bool) (l : List Bool) (hl : (l.length : Int) ≤ 128) : (roB_hd c l).s.hs.rd < bitOf 2 := by
  have e : (roB_hd c l).s.hs.rd = 0 := by kernel_rfl
  rw [e]; exact blt_iff.1 (by kernel_rfl)
theorem roB_w (c : Bool) (l : List Bool) (hl : (l.length : Int) ≤ 128) : (roB_hd c l).s.hs.wr < bitOf 2 := by
  have e : (roB_hd c l).s.hs.wr = 2 := by kernel_rfl
  rw [e]; exact blt_iff.1 (by kernel_rfl)
theorem roB_e0 (c : Bool) (l : List Bool) (hl : (l.length : Int) ≤ 128) : beginS Try.prog [(.slot 3, 3)] 2 42 (sameB 2 1) [7, 15, 11, 19, 5, 9, 17, 13, 21, 8, 16, 12, 20, 6, 10, 18, 14] 3 3 2 (roB_hd c l).s = some (roB_S c l [] ((0 : Int))) := by
  have h : beginS Try.prog [(.slot 3, 3)] 2 42 (sameB 2 1) [7, 15, 11, 19, 5, 9, 17, 13, 21, 8, 16, 12, 20, 6, 10, 18, 14] 3 3 2 (roB_hd c l).s = some (roB_R c l #[] 0 ((0 : Int))) := by kernel_rfl
  refine h.trans (congrArg some ?_)
  show roB_R c l #[] 0 ((0 : Int)) = roB_R c l (rowA gI ([] : List Int).reverse) ([] : List Int).length ((0 : Int))
  all_goals first | (simp only [List.reverse_nil, rowA_nil, List.length_nil, List.reverse_reverse, List.length_reverse]; done) | rfl | (simp only [List.reverse_nil, rowA_nil, List.length_nil, List.reverse_reverse, List.length_reverse]; rfl)
theorem roB_e1 (c : Bool) (l : List Bool) (hl : (l.length : Int) ≤ 128) : beginOk Try.prog [(.slot 3, 3)] 2 42 (sameB 2 1) 3 (roB_hd c l).s = true := by kernel_rfl
def roB_X : Nat → VX
  | 0 => .exit 0
  | _ => .normal
noncomputable def roB_E (kE : Nat) (c : Bool) (l : List Bool) (y0 : List Int) (y1 : Int) : St := match kE with
  | 0 => (St.mk (TV.node (some (Value.agg { toList := [Value.bool c, Value.complex FloatKind.f64 (nat_lit 0) l.length] })) (TV.node (some (Value.pointer (some { block := nat_lit 1, off := nat_lit 0 }))) (TV.node (some (Value.complex FloatKind.f64 (nat_lit 2) y0.length)) (TV.node (some junk) (TV.node (some junk) TV.nil TV.nil) TV.nil) (TV.node (some junk) (TV.node (some junk) TV.nil TV.nil) TV.nil)) (TV.node (some junk) (TV.node (some junk) (TV.node (some junk) TV.nil TV.nil) TV.nil) (TV.node (some junk) (TV.node (some junk) TV.nil TV.nil) TV.nil))) (TV.node (some (Value.slice none (nat_lit 0) (nat_lit 0))) (TV.node (some (Value.int IntKind.i64 y1)) (TV.node (some junk) (TV.node (some junk) TV.nil TV.nil) TV.nil) (TV.node (some junk) (TV.node (some junk) TV.nil TV.nil) TV.nil)) (TV.node (some junk) (TV.node (some junk) (TV.node (some junk) TV.nil TV.nil) TV.nil) (TV.node (some junk) (TV.node (some (Value.tuple { toList := [] })) TV.nil TV.nil) TV.nil)))) (HS.mk (Tr.node (some (VO.ro (rowA (gB) (l)) 0)) (Tr.node (some (VO.live (Obj.cells ({ toList := [Value.bool c, Value.complex FloatKind.f64 (nat_lit 0) l.length] }) 24 ((nat_lit 0, nat_lit 0))) true)) Tr.nil Tr.nil) (Tr.node (some (VO.row (rowA (gI) (y0.reverse)) 3)) Tr.nil Tr.nil)) 42 4398046511103 4398046511102) [])
  | _ => (roB_hd c l).s
theorem roB_p0 (c : Bool) (l : List Bool) (y0 : List Int) (y1 : Int) : bodyR Try.prog ([] : Vars).length GTab.none 3000 (roB_hd c l) (roB_S c l y0 y1 ) [(0, .b 1), (1, .b 1), (2, .b 1), (3, .vals ([Value.bool (el l y1)])), (4, .b 1), (5, .b 1), (6, .yes), (7, .arr (rowA (gI) ((y1 :: y0).reverse)))] 2 42 [(4, 2)] [7, 15, 11, 19, 5, 9, 17, 13, 21, 8, 16, 12, 20, 6, 10, 18, 14] 3 3 2 = some (.normal, (roB_S c l (y1 :: y0) (IntKind.i64.wrap (y1 + (1 : Int)))), [((rowA (gI) (y0.reverse)).toList ++ ([Value.int IntKind.i64 y1])).toArray = rowA (gI) ((y1 :: y0).reverse), ((rowA gI y0.reverse).size.beq (y0.length.mul Try.prog.types[(3 : Nat)].size)) = true, (decide ((y0.length + (1 : Nat)) * (8 : Nat) < (1000000000 : Nat))) = true, (!el l y1) = true, segC (rowA (gB) (l)) (((y1).toNat) * 1 + 0) 1 = some ([Value.bool (el l y1)]), (decide (y1 < (↑l.length : Int))) = true, (decide ((0 : Int) ≤ y1)) = true, (decide (y1 < (↑l.length : Int))) = true]) := by kernel_rfl
theorem roB_p1 (c : Bool) (l : List Bool) (y0 : List Int) (y1 : Int) : bodyR Try.prog ([] : Vars).length GTab.none 3000 (roB_hd c l) (roB_S c l y0 y1 ) [(0, .b 1), (1, .b 1), (2, .b 1), (3, .vals ([Value.bool (el l y1)])), (4, .b 0)] 2 42 [(2, 2)] [7, 15, 11, 19, 5, 9, 17, 13, 21, 8, 16, 12, 20, 6, 10, 18, 14] 3 3 2 = some (.normal, (roB_S c l (y0) (IntKind.i64.wrap (y1 + (1 : Int)))), [(!el l y1) = false, segC (rowA (gB) (l)) (((y1).toNat) * 1 + 0) 1 = some ([Value.bool (el l y1)]), (decide (y1 < (↑l.length : Int))) = true, (decide ((0 : Int) ≤ y1)) = true, (decide (y1 < (↑l.length : Int))) = true]) := by kernel_rfl
theorem roB_p2 (c : Bool) (l : List Bool) (y0 : List Int) (y1 : Int) : bodyR Try.prog ([] : Vars).length GTab.none 3000 (roB_hd c l) (roB_S c l y0 y1 ) [(0, .b 0)] 2 42 [(2, 2)] [7, 15, 11, 19, 5, 9, 17, 13, 21, 8, 16, 12, 20, 6, 10, 18, 14] 42 3 2 = some (.exit 0, roB_E 0 c l (y0) (y1) , [(decide (y1 < (↑l.length : Int))) = false]) := by kernel_rfl
theorem roB_q2 (c : Bool) (l : List Bool) (y0 : List Int) (y1 : Int) : (roB_E 0 c l (y0) (y1) ).hs.next = 42 := by kernel_rfl
theorem roB_d0 (c : Bool) (l : List Bool) (hl : (l.length : Int) ≤ 128) (y0 : List Int) (y1 : Int) (hi : (decide (0 ≤ y1 ∧ y1 ≤ (l.length : Int) ∧ (y0.length : Int) ≤ y1)) = true) (hq0 : (decide (y1 < (↑l.length : Int))) = true) : (decide ((0 : Int) ≤ y1)) = true := by
  rcases Bool.eq_false_or_eq_true (decide ((0 : Int) ≤ y1)) with h | h
  · exact h
  · exfalso; (first | (simp_all only [Bool.and_eq_true, Bool.not_eq_true', Bool.false_eq_true, Bool.true_eq_false, reduceCtorEq]; done) | (simp only [sx, sy, eq_self, ne_eq, IntKind.wrap_i64, wrapU64, Int.reduceLT] at * <;> first | contradiction | omega) | omega | ((try simp only [sx, sy, eq_self, ne_eq, IntKind.wrap_i64, wrapU64, Int.reduceLT] at *) <;> omega) | (simp_all; done))
theorem roB_d1 (c : Bool) (l : List Bool) (hl : (l.length : Int) ≤ 128) (y0 : List Int) (y1 : Int) (hi : (decide (0 ≤ y1 ∧ y1 ≤ (l.length : Int) ∧ (y0.length : Int) ≤ y1)) = true) (hq0 : (decide (y1 < (↑l.length : Int))) = true) (hq1 : (decide ((0 : Int) ≤ y1)) = true) (hq2 : (!el l y1) = true) : (decide ((y0.length + (1 : Nat)) * (8 : Nat) < (1000000000 : Nat))) = true := by
  rcases Bool.eq_false_or_eq_true (decide ((y0.length + (1 : Nat)) * (8 : Nat) < (1000000000 : Nat))) with h | h
  · exact h
  · exfalso; (first | (simp_all only [Bool.and_eq_true, Bool.not_eq_true', Bool.false_eq_true, Bool.true_eq_false, reduceCtorEq]; done) | (simp only [sx, sy, eq_self, ne_eq, IntKind.wrap_i64, wrapU64, Int.reduceLT] at * <;> first | contradiction | omega) | omega | ((try simp only [sx, sy, eq_self, ne_eq, IntKind.wrap_i64, wrapU64, Int.reduceLT] at *) <;> omega) | (simp_all; done))
noncomputable def roB_f (c : Bool) (l : List Bool) : Nat → List Int → Int → Option (Nat × (List Int × Int))
  | 0, _, _ => none
  | fu + 1, y0, y1 => (bif (decide (0 ≤ y1 ∧ y1 ≤ (l.length : Int) ∧ (y0.length : Int) ≤ y1)) then (bif (decide (y1 < (↑l.length : Int))) then (bif (!el l y1) then roB_f c l fu (y1 :: y0) (IntKind.i64.wrap (y1 + (1 : Int))) else roB_f c l fu (y0) (IntKind.i64.wrap (y1 + (1 : Int)))) else some (0, ((y0), (y1)))) else none)
theorem roB_fs (c : Bool) (l : List Bool) (fu : Nat) (y0 : List Int) (y1 : Int) : roB_f c l (fu + 1) y0 y1 = (bif (decide (0 ≤ y1 ∧ y1 ≤ (l.length : Int) ∧ (y0.length : Int) ≤ y1)) then (bif (decide (y1 < (↑l.length : Int))) then (bif (!el l y1) then roB_f c l fu (y1 :: y0) (IntKind.i64.wrap (y1 + (1 : Int))) else roB_f c l fu (y0) (IntKind.i64.wrap (y1 + (1 : Int)))) else some (0, ((y0), (y1)))) else none) := rfl
theorem roB_f0 (c : Bool) (l : List Bool) (y0 : List Int) (y1 : Int) : roB_f c l 0 y0 y1 = none := rfl
theorem roB_loop (c : Bool) (l : List Bool) (hl : (l.length : Int) ≤ 128) : ∀ (fu : Nat) (y0 : List Int) (y1 : Int) (kk : Nat) (zz : List Int × Int), roB_f c l fu y0 y1 = some (kk, zz) → VStep (roB_hd c l).s.hs (roB_S c l y0 y1 ).hs → RoundsC Try.prog [] 2 42 (roB_hd c l).s.hs (roB_hd c l).ro (roB_hd c l).a (roB_S c l y0 y1 ) (roB_X kk) (roB_E kk c l zz.1 zz.2 ) ∧ ((roB_E kk c l zz.1 zz.2 )).hs.next = 42 := by
  intro fu
  induction fu with
  | zero =>
    intro y0 y1 kk zz hf hSz
    have hf := (roB_f0 c l y0 y1 ).symm.trans hf
    simp at hf
  | succ fu ih =>
    intro y0 y1 kk zz hf hSz
    have hf := (roB_fs c l fu y0 y1 ).symm.trans hf
    rcases bif_or hf with ⟨hi, hf⟩ | ⟨hi, hf⟩
    case inr => cases hf
    rcases bif_or hf with ⟨hq0, hf⟩ | ⟨hq0, hf⟩
    ·
      have hq1 := roB_d0 c l hl y0 y1 hi hq0 
      rcases bif_or hf with ⟨hq2, hf⟩ | ⟨hq2, hf⟩
      ·
        have hq3 := roB_d1 c l hl y0 y1 hi hq0 hq1 hq2 
        have hb1 := roB_p0 c l y0 y1 ; have hb2 := body_canonR hb1; have hb3 := hb2 ⟨(row_snoc (g := (gI)) rfl), (fact_size (g := (gI)) (k := 1) (fun _ => rfl) (by first | (simp; done) | (simp only [Nat.add_eq, Nat.sub_eq, List.length_take, List.length_drop, List.length_append, List.length_cons, List.length_nil, List.length_reverse, List.length_set]; omega) | (have hx2 := of_decide_eq_true hi; simp only [List.length_reverse, List.length_set] at *; omega))), hq3, hq2, (seg_row (g := (gB)) (k := 1) (fun _ => rfl) (by first | exact of_decide_eq_true hq1 | simpa using of_decide_eq_true hq1) (by first | exact of_decide_eq_true hq0 | (simpa using of_decide_eq_true hq0; done) | (have hx1 := of_decide_eq_true hq0; have hx2 := of_decide_eq_true hi; simp only [List.length_reverse, List.length_set] at *; omega)) (by decide) rfl), hq0, hq1, hq0, trivial⟩; obtain ⟨sz1, kz1, kz2, kz3⟩ := hb3; obtain ⟨gz1, gz2⟩ := ih (y1 :: y0) (IntKind.i64.wrap (y1 + (1 : Int))) kk zz hf (rounds_step mix (T := GTab.none) GOk.none (roB_n c l hl ) (roB_r c l hl ) (roB_w c l hl ) kz1 hSz kz2 kz3); exact ⟨rounds_next mix (T := GTab.none) GOk.none (roB_n c l hl ) (roB_r c l hl ) (roB_w c l hl ) kz1 hSz kz2 kz3 (fun _ => gz1), gz2⟩
      ·
        have hb1 := roB_p1 c l y0 y1 ; have hb2 := body_canonR hb1; have hb3 := hb2 ⟨hq2, (seg_row (g := (gB)) (k := 1) (fun _ => rfl) (by first | exact of_decide_eq_true hq1 | simpa using of_decide_eq_true hq1) (by first | exact of_decide_eq_true hq0 | (simpa using of_decide_eq_true hq0; done) | (have hx1 := of_decide_eq_true hq0; have hx2 := of_decide_eq_true hi; simp only [List.length_reverse, List.length_set] at *; omega)) (by decide) rfl), hq0, hq1, hq0, trivial⟩; obtain ⟨sz1, kz1, kz2, kz3⟩ := hb3; obtain ⟨gz1, gz2⟩ := ih (y0) (IntKind.i64.wrap (y1 + (1 : Int))) kk zz hf (rounds_step mix (T := GTab.none) GOk.none (roB_n c l hl ) (roB_r c l hl ) (roB_w c l hl ) kz1 hSz kz2 kz3); exact ⟨rounds_next mix (T := GTab.none) GOk.none (roB_n c l hl ) (roB_r c l hl ) (roB_w c l hl ) kz1 hSz kz2 kz3 (fun _ => gz1), gz2⟩
    ·
      injection hf with hf; injection hf with e1 e2; subst e1; subst e2; have hb1 := roB_p2 c l y0 y1 ; have hb2 := body_canonR hb1; have hb3 := hb2 ⟨hq0, trivial⟩; obtain ⟨sz1, kz1, kz2, kz3⟩ := hb3; exact ⟨rounds_end mix (T := GTab.none) GOk.none (roB_n c l hl ) (roB_r c l hl ) (roB_w c l hl ) kz1 (fun h => by cases h) hSz kz2 kz3, roB_q2 c l y0 y1 ⟩
theorem roB_ok (c : Bool) (l : List Bool) (hl : (l.length : Int) ≤ 128) (fu kk : Nat) (zz : List Int × Int) (hf : roB_f c l fu [] ((0 : Int)) = some (kk, zz)) : ∀ B : Bd, B.L = [] → LoopOk Try.prog B (roB_hd c l).ro (roB_hd c l).a (roB_hd c l).s (roB_X kk) (roB_E kk c l zz.1 zz.2 ) := by
  obtain ⟨sb1, sb2, sb3, sb4⟩ := begin_open (roB_e0 c l hl ) (roB_e1 c l hl )
  have hSz := begin_step2 (roB_n c l hl ) (roB_r c l hl ) (roB_w c l hl ) sb2 sb3 sb4
  obtain ⟨gz1, gz2⟩ := roB_loop c l hl fu [] ((0 : Int)) kk zz hf hSz
  exact rounds_ok (roB_n c l hl ) (Nat.le_of_ble_eq_true (by kernel_rfl)) gz2 (rounds_begin2 (roB_n c l hl ) (roB_r c l hl ) (roB_w c l hl ) sb2 sb3 sb4 (fun _ => gz1))

noncomputable def roL_c0 (c : Bool) (l : List Bool) (roB_z0 : List Int) (roB_z1 : Int)  : List Int := (roB_z0.reverse)
theorem roL_p0 (c : Bool) (l : List Bool) (roB_z0 : List Int) (roB_z1 : Int)  (hl : (l.length : Int) ≤ 128) (roB_l : ∀ B : Bd, B.L = [] → LoopOk Try.prog B (roB_hd c l).ro (roB_hd c l).a (roB_hd c l).s (roB_X 0) (roB_E 0 c l roB_z0 roB_z1 )) : KnownR Try.prog [] 46 [.agg [.val (.bool c), .list (rowA gB l) l.length]] (.complex .f64 0 ((roB_z0.reverse)).length) [(rowA gI ((roB_z0.reverse)), 3)] :=
  knownR_eq (v := Value.complex FloatKind.f64 (nat_lit 0) roB_z0.length) (bs := [(rowA gI roB_z0.reverse, nat_lit 3)]) (open_resD mix (GOk.add GOk.none roB_l) (T := (GTab.add GTab.none 4 (roB_hd c l).ro (roB_hd c l).a (roB_hd c l).s (roB_X 0) (roB_E 0 c l roB_z0 roB_z1 ) (by kernel_rfl))) (fuel := 3000) (es := [3]) (ans := [(0, .loop (roB_X 0) (roB_E 0 c l roB_z0 roB_z1 )), ]) (log := [LoopRes Try.prog ([] : Vars).length (GTab.add GTab.none 4 (roB_hd c l).ro (roB_hd c l).a (roB_hd c l).s (roB_X 0) (roB_E 0 c l roB_z0 roB_z1 ) (by kernel_rfl)) (roB_hd c l).ro (roB_hd c l).a (roB_hd c l).s (roB_X 0) (roB_E 0 c l roB_z0 roB_z1 )]) (by kernel_rfl) ⟨(loop_known2 add_eq), trivial⟩ (by kernel_rfl)) (by first | rfl | (simp; done) | (simp_all; done)) (by first | rfl | (simp [rowA_nil]; done) | (simp only [rowA_eq]; rfl) | (simp_all [rowA_nil]; done))
set_option maxHeartbeats 8000000 in
theorem roL (c : Bool) (l : List Bool) (roB_z0 : List Int) (roB_z1 : Int)  (hl : (l.length : Int) ≤ 128) (roB_l : ∀ B : Bd, B.L = [] → LoopOk Try.prog B (roB_hd c l).ro (roB_hd c l).a (roB_hd c l).s (roB_X 0) (roB_E 0 c l roB_z0 roB_z1 )) : KnownR Try.prog [] 46 [.agg [.val (.bool c), .list (rowA gB l) l.length]] (.complex .f64 0 ((roL_c0 c l roB_z0 roB_z1)).length) [(rowA gI ((roL_c0 c l roB_z0 roB_z1)), 3)] := by
  have e0 : roL_c0 c l roB_z0 roB_z1 = (roB_z0.reverse) := rfl; rw [e0]; exact roL_p0 c l roB_z0 roB_z1 hl roB_l

end Go.Proofs.Ytbcbldpppjbkhaa
