/- Layer 17: chains: missing. -/
import Derived.Test.YtbcbldpppjbkhaaLU
import Derived.Test.YtbcbldpppjbkhaaProg
import Derived.ProofKit
import Derived.IntWalk
namespace Go.Proofs.Ytbcbldpppjbkhaa
open Go Go.RowKit
set_option linter.unusedVariables false
set_option linter.unusedSimpArgs false
set_option linter.unnecessarySimpa false
set_option maxHeartbeats 8000000
set_option maxRecDepth 100000
noncomputable def msT_hd (l : List Bool) : Hd := headD Try.prog [] GTab.none 3000 41 [.agg [.list (rowA gB l) l.length, .val (.bool true)]] [(2, .stop)]
noncomputable def msT_R (l : List Bool) (rc0 : Array Value) (rn0 : Nat) (y1 : Int) : St := (((entryR Try.prog [(.cell 2 0, 3)] 6 46 [3, 15, 23, 19, 17, 21, 4, 16, 24, 20, 18, 22] 63 62 (msT_hd l).s).rows [(6, rc0, 3)]).updF [(14, .int .i64 y1)] [(2, 0, .complex .f64 6 rn0)])
noncomputable def msT_S (l : List Bool) (y0 : List Int) (y1 : Int) : St := (((entryR Try.prog [(.cell 2 0, 3)] 6 46 [3, 15, 23, 19, 17, 21, 4, 16, 24, 20, 18, 22] 63 62 (msT_hd l).s).rows [(6, (rowA gI y0.reverse), 3)]).updF [(14, .int .i64 y1)] [(2, 0, .complex .f64 6 y0.length)])
theorem msT_n (l : List Bool) (hl : 2 ≤ (l.length : Int) ∧ (l.length : Int) ≤ 64) : 6 = (msT_hd l).s.hs.next := by kernel_rfl
theorem msT_r (l : List Bool) (hl : 2 ≤ (l.length : Int) ∧ (l.length : Int) ≤ 64) : (msT_hd l).s.hs.rd < bitOf 6 := by
  have e : (msT_hd l).s.hs.rd = 42 := by kernel_rfl
  rw [e]; exact blt_iff.1 (by kernel_rfl)
theorem msT_w (l : List Bool) (hl : 2 ≤ (l.length : Int) ∧ (l.length : Int) ≤ 64) : (msT_hd l).s.hs.wr < bitOf 6 := by
  have e : (msT_hd l).s.hs.wr = 62 := by kernel_rfl
  rw [e]; exact blt_iff.1 (by kernel_rfl)
theorem msT_e0 (l : List Bool) (hl : 2 ≤ (l.length : Int) ∧ (l.length : Int) ≤ 64) : beginS Try.prog [(.cell 2 0, 3)] 6 46 (sameB 6 1) [3, 15, 23, 19, 17, 21, 4, 16, 24, 20, 18, 22] 7 63 62 (msT_hd l).s = some (msT_S l [] ((0 : Int))) := by
  have h : beginS Try.prog [(.cell 2 0, 3)] 6 46 (sameB 6 1) [3, 15, 23, 19, 17, 21, 4, 16, 24, 20, 18, 22] 7 63 62 (msT_hd l).s = some (msT_R l #[] 0 ((0 : Int))) := by kernel_rfl
  refine h.trans (congrArg some ?_)
  show msT_R l #[] 0 ((0 : Int)) = msT_R l (rowA gI ([] : List Int).reverse) ([] : List Int).length ((0 : Int))
  first | (simp only [List.reverse_nil, rowA_nil, List.length_nil, List.reverse_reverse, List.length_reverse]; done) | rfl | (simp only [List.reverse_nil, rowA_nil, List.length_nil, List.reverse_reverse, List.length_reverse]; rfl)
theorem msT_e1 (l : List Bool) (hl : 2 ≤ (l.length : Int) ∧ (l.length : Int) ≤ 64) : beginOk Try.prog [(.cell 2 0, 3)] 6 46 (sameB 6 1) 7 (msT_hd l).s = true := by kernel_rfl
def msT_X : Nat → VX
  | 0 => .exit 0
  | _ => .normal
noncomputable def msT_E (kE : Nat) (l : List Bool) (y0 : List Int) (y1 : Int) : St := match kE with
  | 0 => bodySt (bodyR Try.prog ([] : Vars).length GTab.none 3000 (msT_hd l) (msT_S l y0 y1 ) [(0, .b 0)] 6 46 [(6, 6)] [3, 15, 23, 19, 17, 21, 4, 16, 24, 20, 18, 22] 46 63 62)
  | _ => (msT_hd l).s
theorem msT_p0 (l : List Bool) (y0 : List Int) (y1 : Int) : bodyR Try.prog ([] : Vars).length GTab.none 3000 (msT_hd l) (msT_S l y0 y1 ) [(0, .b 1), (1, .b 1), (2, .b 1), (3, .vals ([Value.bool (el l y1)])), (4, .b 1), (5, .b 1), (6, .yes), (7, .arr (rowA (gI) ((y1 :: y0).reverse)))] 6 46 [(8, 6)] [3, 15, 23, 19, 17, 21, 4, 16, 24, 20, 18, 22] 7 63 62 = some (.normal, (msT_S l (y1 :: y0) (IntKind.i64.wrap (y1 + (1 : Int)))), [((rowA (gI) (y0.reverse)).toList ++ ([Value.int IntKind.i64 y1])).toArray = rowA (gI) ((y1 :: y0).reverse), ((rowA gI y0.reverse).size.beq (y0.length.mul Try.prog.types[(3 : Nat)].size)) = true, (decide ((y0.length + (1 : Nat)) * (8 : Nat) < (1000000000 : Nat))) = true, (!el l y1) = true, segC (rowA (gB) (l)) (((y1).toNat) * 1 + 0) 1 = some ([Value.bool (el l y1)]), (decide (y1 < (↑l.length : Int))) = true, (decide ((0 : Int) ≤ y1)) = true, (decide (y1 < (↑l.length : Int))) = true]) := by kernel_rfl
theorem msT_p1 (l : List Bool) (y0 : List Int) (y1 : Int) : bodyR Try.prog ([] : Vars).length GTab.none 3000 (msT_hd l) (msT_S l y0 y1 ) [(0, .b 1), (1, .b 1), (2, .b 1), (3, .vals ([Value.bool (el l y1)])), (4, .b 0)] 6 46 [(6, 6)] [3, 15, 23, 19, 17, 21, 4, 16, 24, 20, 18, 22] 7 63 62 = some (.normal, (msT_S l (y0) (IntKind.i64.wrap (y1 + (1 : Int)))), [(!el l y1) = false, segC (rowA (gB) (l)) (((y1).toNat) * 1 + 0) 1 = some ([Value.bool (el l y1)]), (decide (y1 < (↑l.length : Int))) = true, (decide ((0 : Int) ≤ y1)) = true, (decide (y1 < (↑l.length : Int))) = true]) := by kernel_rfl
theorem msT_p2 (l : List Bool) (y0 : List Int) (y1 : Int) : bodyR Try.prog ([] : Vars).length GTab.none 3000 (msT_hd l) (msT_S l y0 y1 ) [(0, .b 0)] 6 46 [(6, 6)] [3, 15, 23, 19, 17, 21, 4, 16, 24, 20, 18, 22] 46 63 62 = some (.exit 0, bodySt (bodyR Try.prog ([] : Vars).length GTab.none 3000 (msT_hd l) (msT_S l y0 y1 ) [(0, .b 0)] 6 46 [(6, 6)] [3, 15, 23, 19, 17, 21, 4, 16, 24, 20, 18, 22] 46 63 62), [(decide (y1 < (↑l.length : Int))) = false]) := by kernel_rfl
theorem msT_q2 (l : List Bool) (y0 : List Int) (y1 : Int) : (bodySt (bodyR Try.prog ([] : Vars).length GTab.none 3000 (msT_hd l) (msT_S l y0 y1 ) [(0, .b 0)] 6 46 [(6, 6)] [3, 15, 23, 19, 17, 21, 4, 16, 24, 20, 18, 22] 46 63 62)).hs.next = 46 := by kernel_rfl
theorem msT_d0 (l : List Bool) (hl : 2 ≤ (l.length : Int) ∧ (l.length : Int) ≤ 64) (y0 : List Int) (y1 : Int) (hi : (decide (0 ≤ y1 ∧ y1 ≤ (l.length : Int) ∧ (y0.length : Int) ≤ y1)) = true) (hq0 : (decide (y1 < (↑l.length : Int))) = true) : (decide ((0 : Int) ≤ y1)) = true := by
  rcases Bool.eq_false_or_eq_true (decide ((0 : Int) ≤ y1)) with h | h
  · exact h
  · exfalso; (first | (simp_all only [Bool.and_eq_true, Bool.not_eq_true', Bool.false_eq_true, Bool.true_eq_false, reduceCtorEq]; done) | (simp only [sx, sy, eq_self, ne_eq, IntKind.wrap_i64, wrapU64, Int.reduceLT] at * <;> first | contradiction | omega) | (simp_all; done))
theorem msT_d1 (l : List Bool) (hl : 2 ≤ (l.length : Int) ∧ (l.length : Int) ≤ 64) (y0 : List Int) (y1 : Int) (hi : (decide (0 ≤ y1 ∧ y1 ≤ (l.length : Int) ∧ (y0.length : Int) ≤ y1)) = true) (hq0 : (decide (y1 < (↑l.length : Int))) = true) (hq1 : (decide ((0 : Int) ≤ y1)) = true) (hq2 : (!el l y1) = true) : (decide ((y0.length + (1 : Nat)) * (8 : Nat) < (1000000000 : Nat))) = true := by
  rcases Bool.eq_false_or_eq_true (decide ((y0.length + (1 : Nat)) * (8 : Nat) < (1000000000 : Nat))) with h | h
  · exact h
  · exfalso; (first | (simp_all only [Bool.and_eq_true, Bool.not_eq_true', Bool.false_eq_true, Bool.true_eq_false, reduceCtorEq]; done) | (simp only [sx, sy, eq_self, ne_eq, IntKind.wrap_i64, wrapU64, Int.reduceLT] at * <;> first | contradiction | omega) | (simp_all; done))
noncomputable def msT_f (l : List Bool) : Nat → List Int → Int → Option (Nat × (List Int × Int))
  | 0, _, _ => none
  | fu + 1, y0, y1 => (bif (decide (0 ≤ y1 ∧ y1 ≤ (l.length : Int) ∧ (y0.length : Int) ≤ y1)) then (bif (decide (y1 < (↑l.length : Int))) then (bif (!el l y1) then msT_f l fu (y1 :: y0) (IntKind.i64.wrap (y1 + (1 : Int))) else msT_f l fu (y0) (IntKind.i64.wrap (y1 + (1 : Int)))) else some (0, (y0, y1))) else none)
theorem msT_fs (l : List Bool) (fu : Nat) (y0 : List Int) (y1 : Int) : msT_f l (fu + 1) y0 y1 = (bif (decide (0 ≤ y1 ∧ y1 ≤ (l.length : Int) ∧ (y0.length : Int) ≤ y1)) then (bif (decide (y1 < (↑l.length : Int))) then (bif (!el l y1) then msT_f l fu (y1 :: y0) (IntKind.i64.wrap (y1 + (1 : Int))) else msT_f l fu (y0) (IntKind.i64.wrap (y1 + (1 : Int)))) else some (0, (y0, y1))) else none) := rfl
theorem msT_f0 (l : List Bool) (y0 : List Int) (y1 : Int) : msT_f l 0 y0 y1 = none := rfl
theorem msT_loop (l : List Bool) (hl : 2 ≤ (l.length : Int) ∧ (l.length : Int) ≤ 64) : ∀ (fu : Nat) (y0 : List Int) (y1 : Int) (kk : Nat) (zz : List Int × Int), msT_f l fu y0 y1 = some (kk, zz) → VStep (msT_hd l).s.hs (msT_S l y0 y1 ).hs → RoundsC Try.prog [] 6 46 (msT_hd l).s.hs (msT_hd l).ro (msT_hd l).a (msT_S l y0 y1 ) (msT_X kk) (msT_E kk l zz.1 zz.2 ) ∧ ((msT_E kk l zz.1 zz.2 )).hs.next = 46 := by
  intro fu
  induction fu with
  | zero =>
    intro y0 y1 kk zz hf hSz
    have hf := (msT_f0 l y0 y1 ).symm.trans hf
    simp at hf
  | succ fu ih =>
    intro y0 y1 kk zz hf hSz
    have hf := (msT_fs l fu y0 y1 ).symm.trans hf
    rcases bif_or hf with ⟨hi, hf⟩ | ⟨hi, hf⟩
    case inr => cases hf
    rcases bif_or hf with ⟨hq0, hf⟩ | ⟨hq0, hf⟩
    ·
      have hq1 := msT_d0 l hl y0 y1 hi hq0 
      rcases bif_or hf with ⟨hq2, hf⟩ | ⟨hq2, hf⟩
      ·
        have hq3 := msT_d1 l hl y0 y1 hi hq0 hq1 hq2 
        have hb1 := msT_p0 l y0 y1 ; have hb2 := body_canonR hb1; have hb3 := hb2 ⟨(row_snoc (g := (gI)) rfl), (fact_size (g := (gI)) (k := 1) (fun _ => rfl) (by simp)), hq3, hq2, (seg_row (g := (gB)) (k := 1) (fun _ => rfl) (by first | exact of_decide_eq_true hq1 | simpa using of_decide_eq_true hq1) (by first | exact of_decide_eq_true hq0 | (simpa using of_decide_eq_true hq0; done) | (have hx1 := of_decide_eq_true hq0; have hx2 := of_decide_eq_true hi; simp only [List.length_reverse, List.length_set] at *; omega)) (by decide) rfl), hq0, hq1, hq0, trivial⟩; obtain ⟨sz1, kz1, kz2, kz3⟩ := hb3; obtain ⟨gz1, gz2⟩ := ih (y1 :: y0) (IntKind.i64.wrap (y1 + (1 : Int))) kk zz hf (rounds_step mix (T := GTab.none) GOk.none (msT_n l hl ) (msT_r l hl ) (msT_w l hl ) kz1 hSz kz2 kz3); exact ⟨rounds_next mix (T := GTab.none) GOk.none (msT_n l hl ) (msT_r l hl ) (msT_w l hl ) kz1 hSz kz2 kz3 (fun _ => gz1), gz2⟩
      ·
        have hb1 := msT_p1 l y0 y1 ; have hb2 := body_canonR hb1; have hb3 := hb2 ⟨hq2, (seg_row (g := (gB)) (k := 1) (fun _ => rfl) (by first | exact of_decide_eq_true hq1 | simpa using of_decide_eq_true hq1) (by first | exact of_decide_eq_true hq0 | (simpa using of_decide_eq_true hq0; done) | (have hx1 := of_decide_eq_true hq0; have hx2 := of_decide_eq_true hi; simp only [List.length_reverse, List.length_set] at *; omega)) (by decide) rfl), hq0, hq1, hq0, trivial⟩; obtain ⟨sz1, kz1, kz2, kz3⟩ := hb3; obtain ⟨gz1, gz2⟩ := ih (y0) (IntKind.i64.wrap (y1 + (1 : Int))) kk zz hf (rounds_step mix (T := GTab.none) GOk.none (msT_n l hl ) (msT_r l hl ) (msT_w l hl ) kz1 hSz kz2 kz3); exact ⟨rounds_next mix (T := GTab.none) GOk.none (msT_n l hl ) (msT_r l hl ) (msT_w l hl ) kz1 hSz kz2 kz3 (fun _ => gz1), gz2⟩
    ·
      injection hf with hf; injection hf with e1 e2; subst e1; subst e2; have hb1 := msT_p2 l y0 y1 ; have hb2 := body_canonR hb1; have hb3 := hb2 ⟨hq0, trivial⟩; obtain ⟨sz1, kz1, kz2, kz3⟩ := hb3; exact ⟨rounds_end mix (T := GTab.none) GOk.none (msT_n l hl ) (msT_r l hl ) (msT_w l hl ) kz1 (fun h => by cases h) hSz kz2 kz3, msT_q2 l y0 y1 ⟩
theorem msT_ok (l : List Bool) (hl : 2 ≤ (l.length : Int) ∧ (l.length : Int) ≤ 64) (fu kk : Nat) (zz : List Int × Int) (hf : msT_f l fu [] ((0 : Int)) = some (kk, zz)) : ∀ B : Bd, B.L = [] → LoopOk Try.prog B (msT_hd l).ro (msT_hd l).a (msT_hd l).s (msT_X kk) (msT_E kk l zz.1 zz.2 ) := by
  obtain ⟨sb1, sb2, sb3, sb4⟩ := begin_open (msT_e0 l hl ) (msT_e1 l hl )
  have hSz := begin_step2 (msT_n l hl ) (msT_r l hl ) (msT_w l hl ) sb2 sb3 sb4
  obtain ⟨gz1, gz2⟩ := msT_loop l hl fu [] ((0 : Int)) kk zz hf hSz
  exact rounds_ok (msT_n l hl ) (Nat.le_of_ble_eq_true (by kernel_rfl)) gz2 (rounds_begin2 (msT_n l hl ) (msT_r l hl ) (msT_w l hl ) sb2 sb3 sb4 (fun _ => gz1))

noncomputable def msF_hd (l : List Bool) : Hd := headD Try.prog [] GTab.none 3000 41 [.agg [.list (rowA gB l) l.length, .val (.bool false)]] [(2, .stop)]
noncomputable def msF_R (l : List Bool) (rc0 : Array Value) (rn0 : Nat) (y1 : Int) : St := (((entryR Try.prog [(.cell 2 0, 3)] 8 48 [3, 15, 23, 19, 17, 21, 4, 16, 24, 20, 18, 22] 255 254 (msF_hd l).s).rows [(8, rc0, 3)]).updF [(14, .int .i64 y1)] [(2, 0, .complex .f64 8 rn0)])
noncomputable def msF_S (l : List Bool) (y0 : List Int) (y1 : Int) : St := (((entryR Try.prog [(.cell 2 0, 3)] 8 48 [3, 15, 23, 19, 17, 21, 4, 16, 24, 20, 18, 22] 255 254 (msF_hd l).s).rows [(8, (rowA gI y0.reverse), 3)]).updF [(14, .int .i64 y1)] [(2, 0, .complex .f64 8 y0.length)])
theorem msF_n (l : List Bool) (hl : 2 ≤ (l.length : Int) ∧ (l.length : Int) ≤ 64) : 8 = (msF_hd l).s.hs.next := by kernel_rfl
theorem msF_r (l : List Bool) (hl : 2 ≤ (l.length : Int) ∧ (l.length : Int) ≤ 64) : (msF_hd l).s.hs.rd < bitOf 8 := by
  have e : (msF_hd l).s.hs.rd = 110 := by kernel_rfl
  rw [e]; exact blt_iff.1 (by kernel_rfl)
theorem msF_w (l : List Bool) (hl : 2 ≤ (l.length : Int) ∧ (l.length : Int) ≤ 64) : (msF_hd l).s.hs.wr < bitOf 8 := by
  have e : (msF_hd l).s.hs.wr = 254 := by kernel_rfl
  rw [e]; exact blt_iff.1 (by kernel_rfl)
theorem msF_e0 (l : List Bool) (hl : 2 ≤ (l.length : Int) ∧ (l.length : Int) ≤ 64) : beginS Try.prog [(.cell 2 0, 3)] 8 48 (sameB 8 1) [3, 15, 23, 19, 17, 21, 4, 16, 24, 20, 18, 22] 9 255 254 (msF_hd l).s = some (msF_S l [(-1 : Int)] ((0 : Int))) := by
  have h : beginS Try.prog [(.cell 2 0, 3)] 8 48 (sameB 8 1) [3, 15, 23, 19, 17, 21, 4, 16, 24, 20, 18, 22] 9 255 254 (msF_hd l).s = some (msF_R l (⟨[Value.int IntKind.i64 (-1 : Int)]⟩ : Array Value) 1 ((0 : Int))) := by kernel_rfl
  refine h.trans (congrArg some ?_)
  show msF_R l (⟨[Value.int IntKind.i64 (-1 : Int)]⟩ : Array Value) 1 ((0 : Int)) = msF_R l (rowA gI ([(-1 : Int)] : List Int).reverse) ([(-1 : Int)] : List Int).length ((0 : Int))
  rw [(row_seen (g := gI) (l := ([(-1 : Int)] : List Int).reverse) (c := [Value.int IntKind.i64 (-1 : Int)]) rfl)]
  first | (simp only [List.reverse_nil, rowA_nil, List.length_nil, List.reverse_reverse, List.length_reverse]; done) | rfl | (simp only [List.reverse_nil, rowA_nil, List.length_nil, List.reverse_reverse, List.length_reverse]; rfl)
theorem msF_e1 (l : List Bool) (hl : 2 ≤ (l.length : Int) ∧ (l.length : Int) ≤ 64) : beginOk Try.prog [(.cell 2 0, 3)] 8 48 (sameB 8 1) 9 (msF_hd l).s = true := by kernel_rfl
def msF_X : Nat → VX
  | 0 => .exit 0
  | _ => .normal
noncomputable def msF_E (kE : Nat) (l : List Bool) (y0 : List Int) (y1 : Int) : St := match kE with
  | 0 => bodySt (bodyR Try.prog ([] : Vars).length GTab.none 3000 (msF_hd l) (msF_S l y0 y1 ) [(0, .b 0)] 8 48 [(8, 8)] [3, 15, 23, 19, 17, 21, 4, 16, 24, 20, 18, 22] 48 255 254)
  | _ => (msF_hd l).s
theorem msF_p0 (l : List Bool) (y0 : List Int) (y1 : Int) : bodyR Try.prog ([] : Vars).length GTab.none 3000 (msF_hd l) (msF_S l y0 y1 ) [(0, .b 1), (1, .b 1), (2, .b 1), (3, .vals ([Value.bool (el l y1)])), (4, .b 1), (5, .b 1), (6, .yes), (7, .arr (rowA (gI) ((y1 :: y0).reverse)))] 8 48 [(10, 8)] [3, 15, 23, 19, 17, 21, 4, 16, 24, 20, 18, 22] 9 255 254 = some (.normal, (msF_S l (y1 :: y0) (IntKind.i64.wrap (y1 + (1 : Int)))), [((rowA (gI) (y0.reverse)).toList ++ ([Value.int IntKind.i64 y1])).toArray = rowA (gI) ((y1 :: y0).reverse), ((rowA gI y0.reverse).size.beq (y0.length.mul Try.prog.types[(3 : Nat)].size)) = true, (decide ((y0.length + (1 : Nat)) * (8 : Nat) < (1000000000 : Nat))) = true, (!el l y1) = true, segC (rowA (gB) (l)) (((y1).toNat) * 1 + 0) 1 = some ([Value.bool (el l y1)]), (decide (y1 < (↑l.length : Int))) = true, (decide ((0 : Int) ≤ y1)) = true, (decide (y1 < (↑l.length : Int))) = true]) := by kernel_rfl
theorem msF_p1 (l : List Bool) (y0 : List Int) (y1 : Int) : bodyR Try.prog ([] : Vars).length GTab.none 3000 (msF_hd l) (msF_S l y0 y1 ) [(0, .b 1), (1, .b 1), (2, .b 1), (3, .vals ([Value.bool (el l y1)])), (4, .b 0)] 8 48 [(8, 8)] [3, 15, 23, 19, 17, 21, 4, 16, 24, 20, 18, 22] 9 255 254 = some (.normal, (msF_S l (y0) (IntKind.i64.wrap (y1 + (1 : Int)))), [(!el l y1) = false, segC (rowA (gB) (l)) (((y1).toNat) * 1 + 0) 1 = some ([Value.bool (el l y1)]), (decide (y1 < (↑l.length : Int))) = true, (decide ((0 : Int) ≤ y1)) = true, (decide (y1 < (↑l.length : Int))) = true]) := by kernel_rfl
theorem msF_p2 (l : List Bool) (y0 : List Int) (y1 : Int) : bodyR Try.prog ([] : Vars).length GTab.none 3000 (msF_hd l) (msF_S l y0 y1 ) [(0, .b 0)] 8 48 [(8, 8)] [3, 15, 23, 19, 17, 21, 4, 16, 24, 20, 18, 22] 48 255 254 = some (.exit 0, bodySt (bodyR Try.prog ([] : Vars).length GTab.none 3000 (msF_hd l) (msF_S l y0 y1 ) [(0, .b 0)] 8 48 [(8, 8)] [3, 15, 23, 19, 17, 21, 4, 16, 24, 20, 18, 22] 48 255 254), [(decide (y1 < (↑l.length : Int))) = false]) := by kernel_rfl
theorem msF_q2 (l : List Bool) (y0 : List Int) (y1 : Int) : (bodySt (bodyR Try.prog ([] : Vars).length GTab.none 3000 (msF_hd l) (msF_S l y0 y1 ) [(0, .b 0)] 8 48 [(8, 8)] [3, 15, 23, 19, 17, 21, 4, 16, 24, 20, 18, 22] 48 255 254)).hs.next = 48 := by kernel_rfl
theorem msF_d0 (l : List Bool) (hl : 2 ≤ (l.length : Int) ∧ (l.length : Int) ≤ 64) (y0 : List Int) (y1 : Int) (hi : (decide (0 ≤ y1 ∧ y1 ≤ (l.length : Int) ∧ (y0.length : Int) ≤ y1 + 1)) = true) (hq0 : (decide (y1 < (↑l.length : Int))) = true) : (decide ((0 : Int) ≤ y1)) = true := by
  rcases Bool.eq_false_or_eq_true (decide ((0 : Int) ≤ y1)) with h | h
  · exact h
  · exfalso; (first | (simp_all only [Bool.and_eq_true, Bool.not_eq_true', Bool.false_eq_true, Bool.true_eq_false, reduceCtorEq]; done) | (simp only [sx, sy, eq_self, ne_eq, IntKind.wrap_i64, wrapU64, Int.reduceLT] at * <;> first | contradiction | omega) | (simp_all; done))
theorem msF_d1 (l : List Bool) (hl : 2 ≤ (l.length : Int) ∧ (l.length : Int) ≤ 64) (y0 : List Int) (y1 : Int) (hi : (decide (0 ≤ y1 ∧ y1 ≤ (l.length : Int) ∧ (y0.length : Int) ≤ y1 + 1)) = true) (hq0 : (decide (y1 < (↑l.length : Int))) = true) (hq1 : (decide ((0 : Int) ≤ y1)) = true) (hq2 : (!el l y1) = true) : (decide ((y0.length + (1 : Nat)) * (8 : Nat) < (1000000000 : Nat))) = true := by
  rcases Bool.eq_false_or_eq_true (decide ((y0.length + (1 : Nat)) * (8 : Nat) < (1000000000 : Nat))) with h | h
  · exact h
  · exfalso; (first | (simp_all only [Bool.and_eq_true, Bool.not_eq_true', Bool.false_eq_true, Bool.true_eq_false, reduceCtorEq]; done) | (simp only [sx, sy, eq_self, ne_eq, IntKind.wrap_i64, wrapU64, Int.reduceLT] at * <;> first | contradiction | omega) | (simp_all; done))
noncomputable def msF_f (l : List Bool) : Nat → List Int → Int → Option (Nat × (List Int × Int))
  | 0, _, _ => none
  | fu + 1, y0, y1 => (bif (decide (0 ≤ y1 ∧ y1 ≤ (l.length : Int) ∧ (y0.length : Int) ≤ y1 + 1)) then (bif (decide (y1 < (↑l.length : Int))) then (bif (!el l y1) then msF_f l fu (y1 :: y0) (IntKind.i64.wrap (y1 + (1 : Int))) else msF_f l fu (y0) (IntKind.i64.wrap (y1 + (1 : Int)))) else some (0, (y0, y1))) else none)
theorem msF_fs (l : List Bool) (fu : Nat) (y0 : List Int) (y1 : Int) : msF_f l (fu + 1) y0 y1 = (bif (decide (0 ≤ y1 ∧ y1 ≤ (l.length : Int) ∧ (y0.length : Int) ≤ y1 + 1)) then (bif (decide (y1 < (↑l.length : Int))) then (bif (!el l y1) then msF_f l fu (y1 :: y0) (IntKind.i64.wrap (y1 + (1 : Int))) else msF_f l fu (y0) (IntKind.i64.wrap (y1 + (1 : Int)))) else some (0, (y0, y1))) else none) := rfl
theorem msF_f0 (l : List Bool) (y0 : List Int) (y1 : Int) : msF_f l 0 y0 y1 = none := rfl
theorem msF_loop (l : List Bool) (hl : 2 ≤ (l.length : Int) ∧ (l.length : Int) ≤ 64) : ∀ (fu : Nat) (y0 : List Int) (y1 : Int) (kk : Nat) (zz : List Int × Int), msF_f l fu y0 y1 = some (kk, zz) → VStep (msF_hd l).s.hs (msF_S l y0 y1 ).hs → RoundsC Try.prog [] 8 48 (msF_hd l).s.hs (msF_hd l).ro (msF_hd l).a (msF_S l y0 y1 ) (msF_X kk) (msF_E kk l zz.1 zz.2 ) ∧ ((msF_E kk l zz.1 zz.2 )).hs.next = 48 := by
  intro fu
  induction fu with
  | zero =>
    intro y0 y1 kk zz hf hSz
    have hf := (msF_f0 l y0 y1 ).symm.trans hf
    simp at hf
  | succ fu ih =>
    intro y0 y1 kk zz hf hSz
    have hf := (msF_fs l fu y0 y1 ).symm.trans hf
    rcases bif_or hf with ⟨hi, hf⟩ | ⟨hi, hf⟩
    case inr => cases hf
    rcases bif_or hf with ⟨hq0, hf⟩ | ⟨hq0, hf⟩
    ·
      have hq1 := msF_d0 l hl y0 y1 hi hq0 
      rcases bif_or hf with ⟨hq2, hf⟩ | ⟨hq2, hf⟩
      ·
        have hq3 := msF_d1 l hl y0 y1 hi hq0 hq1 hq2 
        have hb1 := msF_p0 l y0 y1 ; have hb2 := body_canonR hb1; have hb3 := hb2 ⟨(row_snoc (g := (gI)) rfl), (fact_size (g := (gI)) (k := 1) (fun _ => rfl) (by simp)), hq3, hq2, (seg_row (g := (gB)) (k := 1) (fun _ => rfl) (by first | exact of_decide_eq_true hq1 | simpa using of_decide_eq_true hq1) (by first | exact of_decide_eq_true hq0 | (simpa using of_decide_eq_true hq0; done) | (have hx1 := of_decide_eq_true hq0; have hx2 := of_decide_eq_true hi; simp only [List.length_reverse, List.length_set] at *; omega)) (by decide) rfl), hq0, hq1, hq0, trivial⟩; obtain ⟨sz1, kz1, kz2, kz3⟩ := hb3; obtain ⟨gz1, gz2⟩ := ih (y1 :: y0) (IntKind.i64.wrap (y1 + (1 : Int))) kk zz hf (rounds_step mix (T := GTab.none) GOk.none (msF_n l hl ) (msF_r l hl ) (msF_w l hl ) kz1 hSz kz2 kz3); exact ⟨rounds_next mix (T := GTab.none) GOk.none (msF_n l hl ) (msF_r l hl ) (msF_w l hl ) kz1 hSz kz2 kz3 (fun _ => gz1), gz2⟩
      ·
        have hb1 := msF_p1 l y0 y1 ; have hb2 := body_canonR hb1; have hb3 := hb2 ⟨hq2, (seg_row (g := (gB)) (k := 1) (fun _ => rfl) (by first | exact of_decide_eq_true hq1 | simpa using of_decide_eq_true hq1) (by first | exact of_decide_eq_true hq0 | (simpa using of_decide_eq_true hq0; done) | (have hx1 := of_decide_eq_true hq0; have hx2 := of_decide_eq_true hi; simp only [List.length_reverse, List.length_set] at *; omega)) (by decide) rfl), hq0, hq1, hq0, trivial⟩; obtain ⟨sz1, kz1, kz2, kz3⟩ := hb3; obtain ⟨gz1, gz2⟩ := ih (y0) (IntKind.i64.wrap (y1 + (1 : Int))) kk zz hf (rounds_step mix (T := GTab.none) GOk.none (msF_n l hl ) (msF_r l hl ) (msF_w l hl ) kz1 hSz kz2 kz3); exact ⟨rounds_next mix (T := GTab.none) GOk.none (msF_n l hl ) (msF_r l hl ) (msF_w l hl ) kz1 hSz kz2 kz3 (fun _ => gz1), gz2⟩
    ·
      injection hf with hf; injection hf with e1 e2; subst e1; subst e2; have hb1 := msF_p2 l y0 y1 ; have hb2 := body_canonR hb1; have hb3 := hb2 ⟨hq0, trivial⟩; obtain ⟨sz1, kz1, kz2, kz3⟩ := hb3; exact ⟨rounds_end mix (T := GTab.none) GOk.none (msF_n l hl ) (msF_r l hl ) (msF_w l hl ) kz1 (fun h => by cases h) hSz kz2 kz3, msF_q2 l y0 y1 ⟩
theorem msF_ok (l : List Bool) (hl : 2 ≤ (l.length : Int) ∧ (l.length : Int) ≤ 64) (fu kk : Nat) (zz : List Int × Int) (hf : msF_f l fu [(-1 : Int)] ((0 : Int)) = some (kk, zz)) : ∀ B : Bd, B.L = [] → LoopOk Try.prog B (msF_hd l).ro (msF_hd l).a (msF_hd l).s (msF_X kk) (msF_E kk l zz.1 zz.2 ) := by
  obtain ⟨sb1, sb2, sb3, sb4⟩ := begin_open (msF_e0 l hl ) (msF_e1 l hl )
  have hSz := begin_step2 (msF_n l hl ) (msF_r l hl ) (msF_w l hl ) sb2 sb3 sb4
  obtain ⟨gz1, gz2⟩ := msF_loop l hl fu [(-1 : Int)] ((0 : Int)) kk zz hf hSz
  exact rounds_ok (msF_n l hl ) (Nat.le_of_ble_eq_true (by kernel_rfl)) gz2 (rounds_begin2 (msF_n l hl ) (msF_r l hl ) (msF_w l hl ) sb2 sb3 sb4 (fun _ => gz1))

noncomputable def msTK_c0 (l : List Bool) (msT_z0 : List Int) (msT_z1 : Int)  : List Int := (msT_z0.reverse)
theorem msTK_p0 (l : List Bool) (msT_z0 : List Int) (msT_z1 : Int)  (hl : 2 ≤ (l.length : Int) ∧ (l.length : Int) ≤ 64) (msT_l : ∀ B : Bd, B.L = [] → LoopOk Try.prog B (msT_hd l).ro (msT_hd l).a (msT_hd l).s (msT_X 0) (msT_E 0 l msT_z0 msT_z1 )) : KnownR Try.prog [] 41 [.agg [.list (rowA gB l) l.length, .val (.bool true)]] (.complex .f64 0 ((msT_z0.reverse)).length) [(rowA gI ((msT_z0.reverse)), 3)] :=
  knownR_eq (v := Value.complex FloatKind.f64 (nat_lit 0) msT_z0.length) (bs := [(rowA gI msT_z0.reverse, nat_lit 3)]) (open_resD mix (GOk.add GOk.none msT_l) (T := (GTab.add GTab.none 3 (msT_hd l).ro (msT_hd l).a (msT_hd l).s (msT_X 0) (msT_E 0 l msT_z0 msT_z1 ) (by kernel_rfl))) (fuel := 3000) (es := [3]) (ans := [(2, .loop (msT_X 0) (msT_E 0 l msT_z0 msT_z1 )), ]) (log := [LoopRes Try.prog ([] : Vars).length (GTab.add GTab.none 3 (msT_hd l).ro (msT_hd l).a (msT_hd l).s (msT_X 0) (msT_E 0 l msT_z0 msT_z1 ) (by kernel_rfl)) (msT_hd l).ro (msT_hd l).a (msT_hd l).s (msT_X 0) (msT_E 0 l msT_z0 msT_z1 )]) (by kernel_rfl) ⟨(loop_known2 add_eq), trivial⟩ (by kernel_rfl)) (by first | rfl | (simp; done) | (simp_all; done)) (by first | rfl | (simp [rowA_nil]; done) | (simp only [rowA_eq]; rfl) | (simp_all [rowA_nil]; done))
set_option maxHeartbeats 8000000 in
theorem msTK (l : List Bool) (msT_z0 : List Int) (msT_z1 : Int)  (hl : 2 ≤ (l.length : Int) ∧ (l.length : Int) ≤ 64) (msT_l : ∀ B : Bd, B.L = [] → LoopOk Try.prog B (msT_hd l).ro (msT_hd l).a (msT_hd l).s (msT_X 0) (msT_E 0 l msT_z0 msT_z1 )) : KnownR Try.prog [] 41 [.agg [.list (rowA gB l) l.length, .val (.bool true)]] (.complex .f64 0 ((msTK_c0 l msT_z0 msT_z1)).length) [(rowA gI ((msTK_c0 l msT_z0 msT_z1)), 3)] := by
  have e0 : msTK_c0 l msT_z0 msT_z1 = (msT_z0.reverse) := rfl; rw [e0]; exact msTK_p0 l msT_z0 msT_z1 hl msT_l

noncomputable def msFK_c0 (l : List Bool) (msF_z0 : List Int) (msF_z1 : Int)  : List Int := (msF_z0.reverse)
theorem msFK_p0 (l : List Bool) (msF_z0 : List Int) (msF_z1 : Int)  (hl : 2 ≤ (l.length : Int) ∧ (l.length : Int) ≤ 64) (msF_l : ∀ B : Bd, B.L = [] → LoopOk Try.prog B (msF_hd l).ro (msF_hd l).a (msF_hd l).s (msF_X 0) (msF_E 0 l msF_z0 msF_z1 )) : KnownR Try.prog [] 41 [.agg [.list (rowA gB l) l.length, .val (.bool false)]] (.complex .f64 0 ((msF_z0.reverse)).length) [(rowA gI ((msF_z0.reverse)), 3)] :=
  knownR_eq (v := Value.complex FloatKind.f64 (nat_lit 0) msF_z0.length) (bs := [(rowA gI msF_z0.reverse, nat_lit 3)]) (open_resD mix (GOk.add GOk.none msF_l) (T := (GTab.add GTab.none 3 (msF_hd l).ro (msF_hd l).a (msF_hd l).s (msF_X 0) (msF_E 0 l msF_z0 msF_z1 ) (by kernel_rfl))) (fuel := 3000) (es := [3]) (ans := [(2, .loop (msF_X 0) (msF_E 0 l msF_z0 msF_z1 )), ]) (log := [LoopRes Try.prog ([] : Vars).length (GTab.add GTab.none 3 (msF_hd l).ro (msF_hd l).a (msF_hd l).s (msF_X 0) (msF_E 0 l msF_z0 msF_z1 ) (by kernel_rfl)) (msF_hd l).ro (msF_hd l).a (msF_hd l).s (msF_X 0) (msF_E 0 l msF_z0 msF_z1 )]) (by kernel_rfl) ⟨(loop_known2 add_eq), trivial⟩ (by kernel_rfl)) (by first | rfl | (simp; done) | (simp_all; done)) (by first | rfl | (simp [rowA_nil]; done) | (simp only [rowA_eq]; rfl) | (simp_all [rowA_nil]; done))
set_option maxHeartbeats 8000000 in
theorem msFK (l : List Bool) (msF_z0 : List Int) (msF_z1 : Int)  (hl : 2 ≤ (l.length : Int) ∧ (l.length : Int) ≤ 64) (msF_l : ∀ B : Bd, B.L = [] → LoopOk Try.prog B (msF_hd l).ro (msF_hd l).a (msF_hd l).s (msF_X 0) (msF_E 0 l msF_z0 msF_z1 )) : KnownR Try.prog [] 41 [.agg [.list (rowA gB l) l.length, .val (.bool false)]] (.complex .f64 0 ((msFK_c0 l msF_z0 msF_z1)).length) [(rowA gI ((msFK_c0 l msF_z0 msF_z1)), 3)] := by
  have e0 : msFK_c0 l msF_z0 msF_z1 = (msF_z0.reverse) := rfl; rw [e0]; exact msFK_p0 l msF_z0 msF_z1 hl msF_l

end Go.Proofs.Ytbcbldpppjbkhaa
