/- Layer 5: lists: copies, compared. -/
import Derived.Test.YtpmcjjpgkoagoaaXC
import Derived.ProofKit
import Derived.IntWalk
namespace Go.Proofs.Ytpmcjjpgkoagoaa
open Go Go.RowKit
set_option linter.unusedVariables false
set_option linter.unusedSimpArgs false
set_option linter.unnecessarySimpa false
set_option maxHeartbeats 8000000
set_option maxRecDepth 100000
noncomputable def owI_c0 (xs : List Int) : List Int := (xs)
theorem owI_p0 (xs : List Int) (hl : (xs.length : Int) ≤ 40) (hq0 : (decide (xs.length * (8 : Nat) < (1000000000 : Nat))) = true) : KnownR Try.prog [] 24 [.list (rowA gI xs) xs.length] (.complex .f64 0 ((xs)).length) [(rowA gI ((xs)), 3)] :=
  knownR_eq (v := Value.complex FloatKind.f64 (nat_lit 0) xs.length) (bs := [(rowA gI xs, nat_lit 3)]) (open_resD mix GOk.none (T := GTab.none) (fuel := 3000) (es := [3]) (ans := [(0, .vals (List.flatMap (gI) (xs))), (1, .b 1), (2, .arr (rowA (gI) (xs)))]) (log := [(List.flatMap (gI) (xs)).toArray = rowA (gI) (xs), (decide (xs.length * (8 : Nat) < (1000000000 : Nat))) = true, segC (rowA (gI) (xs)) 0 ((xs.length) * 1) = some (List.flatMap (gI) (xs))]) (by kernel_rfl) ⟨(row_new (g := (gI)) rfl), hq0, (seg_all2 (g := (gI)) (k := 1) (fun _ => rfl) (by first | rfl | simp)), trivial⟩ (by kernel_rfl)) (by first | rfl | (simp; done) | (simp_all; done)) (by first | rfl | (simp [rowA_nil]; done) | (simp only [rowA_eq]; rfl) | (simp_all [rowA_nil]; done))
set_option maxHeartbeats 8000000 in
theorem owI (xs : List Int) (hl : (xs.length : Int) ≤ 40) : KnownR Try.prog [] 24 [.list (rowA gI xs) xs.length] (.complex .f64 0 ((owI_c0 xs)).length) [(rowA gI ((owI_c0 xs)), 3)] := by
  have hq0 : (decide (xs.length * (8 : Nat) < (1000000000 : Nat))) = true := by
    rcases Bool.eq_false_or_eq_true (decide (xs.length * (8 : Nat) < (1000000000 : Nat))) with h | h
    · exact h
    · exfalso; (first | (simp_all only [Bool.and_eq_true, Bool.not_eq_true', Bool.false_eq_true, Bool.true_eq_false, reduceCtorEq]; done) | (simp only [sx, sy, eq_self, ne_eq, IntKind.wrap_i64, wrapU64, Int.reduceLT] at * <;> first | contradiction | omega) | omega | ((try simp only [sx, sy, eq_self, ne_eq, IntKind.wrap_i64, wrapU64, Int.reduceLT] at *) <;> omega) | (simp_all; done))
  have e0 : owI_c0 xs = (xs) := rfl; rw [e0]; exact owI_p0 xs hl hq0

noncomputable def siA_hd (l : List Int) : Hd := headD Try.prog [] GTab.none 3000 32 [.list (rowA gI l) l.length, .list (rowA gI l) l.length] [(0, .b 0), (1, .stop)]
noncomputable def siA_S (l : List Int) (y0 : Int) : St := ((entryK 2 42 [15, 23, 11, 19, 17, 25, 13, 21, 16, 24, 12, 20, 18, 14, 22] 3 0 (siA_hd l).s).updF [(5, .int .i64 y0)] [])
theorem siA_n (l : List Int) (hl : (l.length : Int) ≤ 100000) : 2 = (siA_hd l).s.hs.next := by kernel_rfl
theorem siA_r (l : List Int) (hl : (l.length : Int) ≤ 100000) : (siA_hd l).s.hs.rd < bitOf 2 := by
  have e : (siA_hd l).s.hs.rd = 0 := by kernel_rfl
  rw [e]; exact blt_iff.1 (by kernel_rfl)
theorem siA_w (l : List Int) (hl : (l.length : Int) ≤ 100000) : (siA_hd l).s.hs.wr < bitOf 2 := by
  have e : (siA_hd l).s.hs.wr = 0 := by kernel_rfl
  rw [e]; exact blt_iff.1 (by kernel_rfl)
theorem siA_e0 (l : List Int) (hl : (l.length : Int) ≤ 100000) : canonS 2 42 [] [15, 23, 11, 19, 17, 25, 13, 21, 16, 24, 12, 20, 18, 14, 22] 2 3 0 (siA_hd l).s = some (siA_S l ((0 : Int))) := by kernel_rfl
theorem siA_e1 (l : List Int) (hl : (l.length : Int) ≤ 100000) : canonOk 2 42 [] 2 (siA_hd l).s = true := canonOkF_eq.symm.trans (by kernel_rfl)
def siA_X : Nat → VX
  | 0 => .exit 0
  | _ => .normal
noncomputable def siA_E (kE : Nat) (l : List Int) (y0 : Int) : St := match kE with
  | 0 => ((bodySt (bodyK Try.prog ([] : Vars).length GTab.none 3000 (siA_hd l) (siA_S l y0 ) [(0, .b 0)] 2 42 [15, 23, 11, 19, 17, 25, 13, 21, 16, 24, 12, 20, 18, 14, 22] 42 3 0)).updF [(5, .int .i64 y0)] [])
  | _ => (siA_hd l).s
theorem siA_p0 (l : List Int) (y0 : Int) : bodyK Try.prog ([] : Vars).length GTab.none 3000 (siA_hd l) (siA_S l y0 ) [(0, .b 1), (1, .b 1), (2, .b 1), (3, .vals ([Value.int IntKind.i64 (el l y0)])), (4, .b 1), (5, .b 1), (6, .vals ([Value.int IntKind.i64 (el l y0)])), (7, .b 0)] 2 42 [15, 23, 11, 19, 17, 25, 13, 21, 16, 24, 12, 20, 18, 14, 22] 2 3 0 = some (.normal, (siA_S l (IntKind.i64.wrap (y0 + (1 : Int)))), [(el l y0 != el l y0) = false, segC (rowA (gI) (l)) (((y0).toNat) * 1 + 0) 1 = some ([Value.int IntKind.i64 (el l y0)]), (decide (y0 < (↑l.length : Int))) = true, (decide ((0 : Int) ≤ y0)) = true, segC (rowA (gI) (l)) (((y0).toNat) * 1 + 0) 1 = some ([Value.int IntKind.i64 (el l y0)]), (decide (y0 < (↑l.length : Int))) = true, (decide ((0 : Int) ≤ y0)) = true, (decide (y0 < (↑l.length : Int))) = true]) := by kernel_rfl
theorem siA_p1 (l : List Int) (y0 : Int) : bodyK Try.prog ([] : Vars).length GTab.none 3000 (siA_hd l) (siA_S l y0 ) [(0, .b 0)] 2 42 [15, 23, 11, 19, 17, 25, 13, 21, 16, 24, 12, 20, 18, 14, 22] 42 3 0 = some (.exit 0, siA_E 0 l (y0), [(decide (y0 < (↑l.length : Int))) = false]) := by kernel_rfl
theorem siA_q1 (l : List Int) (y0 : Int) : (siA_E 0 l (y0)).hs.next = 42 := by kernel_rfl
theorem siA_d0 (l : List Int) (hl : (l.length : Int) ≤ 100000) (y0 : Int) (hi : (decide (0 ≤ y0 ∧ y0 ≤ (l.length : Int))) = true) (hq0 : (decide (y0 < (↑l.length : Int))) = true) : (decide ((0 : Int) ≤ y0)) = true := by
  rcases Bool.eq_false_or_eq_true (decide ((0 : Int) ≤ y0)) with h | h
  · exact h
  · exfalso; (first | (simp_all only [Bool.and_eq_true, Bool.not_eq_true', Bool.false_eq_true, Bool.true_eq_false, reduceCtorEq]; done) | (simp only [sx, sy, eq_self, ne_eq, IntKind.wrap_i64, wrapU64, Int.reduceLT] at * <;> first | contradiction | omega) | omega | ((try simp only [sx, sy, eq_self, ne_eq, IntKind.wrap_i64, wrapU64, Int.reduceLT] at *) <;> omega) | (simp_all; done))
theorem siA_d1 (l : List Int) (hl : (l.length : Int) ≤ 100000) (y0 : Int) (hi : (decide (0 ≤ y0 ∧ y0 ≤ (l.length : Int))) = true) (hq0 : (decide (y0 < (↑l.length : Int))) = true) (hq1 : (decide ((0 : Int) ≤ y0)) = true) : (el l y0 != el l y0) = false := by
  rcases Bool.eq_false_or_eq_true (el l y0 != el l y0) with h | h
  · exfalso; (first | (simp_all only [Bool.and_eq_true, Bool.not_eq_true', Bool.false_eq_true, Bool.true_eq_false, reduceCtorEq]; done) | (simp only [sx, sy, eq_self, ne_eq, IntKind.wrap_i64, wrapU64, Int.reduceLT] at * <;> first | contradiction | omega) | omega | ((try simp only [sx, sy, eq_self, ne_eq, IntKind.wrap_i64, wrapU64, Int.reduceLT] at *) <;> omega) | (simp_all; done))
  · exact h
noncomputable def siA_f (l : List Int) : Nat → Int → Option (Nat × (Int))
  | 0, _ => none
  | fu + 1, y0 => (bif (decide (0 ≤ y0 ∧ y0 ≤ (l.length : Int))) then (bif (decide (y0 < (↑l.length : Int))) then siA_f l fu (IntKind.i64.wrap (y0 + (1 : Int))) else some (0, (y0))) else none)
theorem siA_fs (l : List Int) (fu : Nat) (y0 : Int) : siA_f l (fu + 1) y0 = (bif (decide (0 ≤ y0 ∧ y0 ≤ (l.length : Int))) then (bif (decide (y0 < (↑l.length : Int))) then siA_f l fu (IntKind.i64.wrap (y0 + (1 : Int))) else some (0, (y0))) else none) := rfl
theorem siA_f0 (l : List Int) (y0 : Int) : siA_f l 0 y0 = none := rfl
theorem siA_loop (l : List Int) (hl : (l.length : Int) ≤ 100000) : ∀ (fu : Nat) (y0 : Int) (kk : Nat) (zz : Int), siA_f l fu y0 = some (kk, zz) → VStep (siA_hd l).s.hs (siA_S l y0 ).hs → RoundsC Try.prog [] 2 42 (siA_hd l).s.hs (siA_hd l).ro (siA_hd l).a (siA_S l y0 ) (siA_X kk) (siA_E kk l zz ) ∧ ((siA_E kk l zz )).hs.next = 42 := by
  intro fu
  induction fu with
  | zero =>
    intro y0 kk zz hf hSz
    have hf := (siA_f0 l y0 ).symm.trans hf
    simp at hf
  | succ fu ih =>
    intro y0 kk zz hf hSz
    have hf := (siA_fs l fu y0 ).symm.trans hf
    rcases bif_or hf with ⟨hi, hf⟩ | ⟨hi, hf⟩
    case inr => cases hf
    rcases bif_or hf with ⟨hq0, hf⟩ | ⟨hq0, hf⟩
    ·
      have hq1 := siA_d0 l hl y0 hi hq0 
      have hq2 := siA_d1 l hl y0 hi hq0 hq1 
      have hb1 := siA_p0 l y0 ; have hb2 := body_canon hb1; have hb3 := hb2 ⟨hq2, (seg_row (g := (gI)) (k := 1) (fun _ => rfl) (by first | exact of_decide_eq_true hq1 | simpa using of_decide_eq_true hq1) (by first | exact of_decide_eq_true hq0 | (simpa using of_decide_eq_true hq0; done) | (have hx1 := of_decide_eq_true hq0; have hx2 := of_decide_eq_true hi; simp only [List.length_reverse, List.length_set] at *; omega)) (by decide) rfl), hq0, hq1, (seg_row (g := (gI)) (k := 1) (fun _ => rfl) (by first | exact of_decide_eq_true hq1 | simpa using of_decide_eq_true hq1) (by first | exact of_decide_eq_true hq0 | (simpa using of_decide_eq_true hq0; done) | (have hx1 := of_decide_eq_true hq0; have hx2 := of_decide_eq_true hi; simp only [List.length_reverse, List.length_set] at *; omega)) (by decide) rfl), hq0, hq1, hq0, trivial⟩; obtain ⟨sz1, kz1, kz2, kz3⟩ := hb3; obtain ⟨gz1, gz2⟩ := ih (IntKind.i64.wrap (y0 + (1 : Int))) kk zz hf (rounds_step mix (T := GTab.none) GOk.none (siA_n l hl ) (siA_r l hl ) (siA_w l hl ) kz1 hSz kz2 kz3); exact ⟨rounds_next mix (T := GTab.none) GOk.none (siA_n l hl ) (siA_r l hl ) (siA_w l hl ) kz1 hSz kz2 kz3 (fun _ => gz1), gz2⟩
    ·
      injection hf with hf; injection hf with e1 e2; subst e1; subst e2; have hb1 := siA_p1 l y0 ; have hb2 := body_canon hb1; have hb3 := hb2 ⟨hq0, trivial⟩; obtain ⟨sz1, kz1, kz2, kz3⟩ := hb3; exact ⟨rounds_end mix (T := GTab.none) GOk.none (siA_n l hl ) (siA_r l hl ) (siA_w l hl ) kz1 (fun h => by cases h) hSz kz2 kz3, siA_q1 l y0 ⟩
theorem siA_ok (l : List Int) (hl : (l.length : Int) ≤ 100000) (fu kk : Nat) (zz : Int) (hf : siA_f l fu ((0 : Int)) = some (kk, zz)) : ∀ B : Bd, B.L = [] → LoopOk Try.prog B (siA_hd l).ro (siA_hd l).a (siA_hd l).s (siA_X kk) (siA_E kk l zz ) := by
  have hSz := begin_step (siA_n l hl ) (siA_r l hl ) (siA_w l hl ) (siA_e0 l hl ) (siA_e1 l hl )
  obtain ⟨gz1, gz2⟩ := siA_loop l hl fu ((0 : Int)) kk zz hf hSz
  exact rounds_ok (siA_n l hl ) (Nat.le_of_ble_eq_true (by kernel_rfl)) gz2 (rounds_begin (siA_n l hl ) (siA_r l hl ) (siA_w l hl ) (siA_e0 l hl ) (siA_e1 l hl ) (fun _ => gz1))

theorem siK_p0 (l : List Int) (siA_z0 : Int)  (hl : (l.length : Int) ≤ 100000) (siA_k0 : ((↑l.length : Int) != (↑l.length : Int)) = false) (siA_l : ∀ B : Bd, B.L = [] → LoopOk Try.prog B (siA_hd l).ro (siA_hd l).a (siA_hd l).s (siA_X 0) (siA_E 0 l siA_z0 )) : KnownR Try.prog [] 32 [.list (rowA gI l) l.length, .list (rowA gI l) l.length] (.bool (true)) [] :=
  knownR_eq (v := Value.bool true) (bs := []) (open_resD mix (GOk.add GOk.none siA_l) (T := (GTab.add GTab.none 5 (siA_hd l).ro (siA_hd l).a (siA_hd l).s (siA_X 0) (siA_E 0 l siA_z0 ) (by kernel_rfl))) (fuel := 3000) (es := []) (ans := [(0, .b 0), (1, .loop (siA_X 0) (siA_E 0 l siA_z0 )), ]) (log := [LoopRes Try.prog ([] : Vars).length (GTab.add GTab.none 5 (siA_hd l).ro (siA_hd l).a (siA_hd l).s (siA_X 0) (siA_E 0 l siA_z0 ) (by kernel_rfl)) (siA_hd l).ro (siA_hd l).a (siA_hd l).s (siA_X 0) (siA_E 0 l siA_z0 ), ((↑l.length : Int) != (↑l.length : Int)) = false]) (by kernel_rfl) ⟨(loop_known2 add_eq), siA_k0, trivial⟩ (by kernel_rfl)) (by first | rfl | (simp; done) | (simp_all; done)) (by first | rfl | (simp [rowA_nil]; done) | (simp only [rowA_eq]; rfl) | (simp_all [rowA_nil]; done))
set_option maxHeartbeats 8000000 in
theorem siK (l : List Int) (siA_z0 : Int)  (hl : (l.length : Int) ≤ 100000) (siA_k0 : ((↑l.length : Int) != (↑l.length : Int)) = false) (siA_l : ∀ B : Bd, B.L = [] → LoopOk Try.prog B (siA_hd l).ro (siA_hd l).a (siA_hd l).s (siA_X 0) (siA_E 0 l siA_z0 )) : KnownR Try.prog [] 32 [.list (rowA gI l) l.length, .list (rowA gI l) l.length] (.bool (true)) [] := by
  exact siK_p0 l siA_z0 hl siA_k0 siA_l

noncomputable def shA_hd (l : List Hel) : Hd := headD Try.prog [] GTab.none 3000 31 [.list (rowA gH l) l.length, .list (rowA gH l) l.length] [(0, .b 0), (1, .stop)]
noncomputable def shA_S (l : List Hel) (y0 : Int) : St := ((entryK 2 42 [15, 23, 11, 19, 17, 25, 13, 21, 16, 24, 12, 20, 18, 14, 22] 3 0 (shA_hd l).s).updF [(5, .int .i64 y0)] [])
theorem shA_n (l : List Hel) (hl : (l.length : Int) ≤ 100000) : 2 = (shA_hd l).s.hs.next := by kernel_rfl
theorem shA_r (l : List Hel) (hl : (l.length : Int) ≤ 100000) : (shA_hd l).s.hs.rd < bitOf 2 := by
  have e : (shA_hd l).s.hs.rd = 0 := by kernel_rfl
  rw [e]; exact blt_iff.1 (by kernel_rfl)
theorem shA_w (l : List Hel) (hl : (l.length : Int) ≤ 100000) : (shA_hd l).s.hs.wr < bitOf 2 := by
  have e : (shA_hd l).s.hs.wr = 0 := by kernel_rfl
  rw [e]; exact blt_iff.1 (by kernel_rfl)
theorem shA_e0 (l : List Hel) (hl : (l.length : Int) ≤ 100000) : canonS 2 42 [] [15, 23, 11, 19, 17, 25, 13, 21, 16, 24, 12, 20, 18, 14, 22] 2 3 0 (shA_hd l).s = some (shA_S l ((0 : Int))) := by kernel_rfl
theorem shA_e1 (l : List Hel) (hl : (l.length : Int) ≤ 100000) : canonOk 2 42 [] 2 (shA_hd l).s = true := canonOkF_eq.symm.trans (by kernel_rfl)
def shA_X : Nat → VX
  | 0 => .exit 0
  | _ => .normal
noncomputable def shA_E (kE : Nat) (l : List Hel) (y0 : Int) : St := match kE with
  | 0 => ((bodySt (bodyK Try.prog ([] : Vars).length GTab.none 3000 (shA_hd l) (shA_S l y0 ) [(0, .b 0)] 2 42 [15, 23, 11, 19, 17, 25, 13, 21, 16, 24, 12, 20, 18, 14, 22] 42 3 0)).updF [(5, .int .i64 y0)] [])
  | _ => (shA_hd l).s
theorem shA_p0 (l : List Hel) (y0 : Int) : bodyK Try.prog ([] : Vars).length GTab.none 3000 (shA_hd l) (shA_S l y0 ) [(0, .b 1), (1, .b 1), (2, .b 1), (3, .vals ([Value.int IntKind.u64 (el l y0).fst, Value.int IntKind.i64 (el l y0).snd])), (4, .b 1), (5, .b 1), (6, .vals ([Value.int IntKind.u64 (el l y0).fst, Value.int IntKind.i64 (el l y0).snd])), (7, .b 0)] 2 42 [15, 23, 11, 19, 17, 25, 13, 21, 16, 24, 12, 20, 18, 14, 22] 2 3 0 = some (.normal, (shA_S l (IntKind.i64.wrap (y0 + (1 : Int)))), [(!((el l y0).fst == (el l y0).fst && (el l y0).snd == (el l y0).snd)) = false, segC (rowA (gH) (l)) (((y0).toNat) * 2 + 0) 2 = some ([Value.int IntKind.u64 (el l y0).fst, Value.int IntKind.i64 (el l y0).snd]), (decide (y0 < (↑l.length : Int))) = true, (decide ((0 : Int) ≤ y0)) = true, segC (rowA (gH) (l)) (((y0).toNat) * 2 + 0) 2 = some ([Value.int IntKind.u64 (el l y0).fst, Value.int IntKind.i64 (el l y0).snd]), (decide (y0 < (↑l.length : Int))) = true, (decide ((0 : Int) ≤ y0)) = true, (decide (y0 < (↑l.length : Int))) = true]) := by kernel_rfl
theorem shA_p1 (l : List Hel) (y0 : Int) : bodyK Try.prog ([] : Vars).length GTab.none 3000 (shA_hd l) (shA_S l y0 ) [(0, .b 0)] 2 42 [15, 23, 11, 19, 17, 25, 13, 21, 16, 24, 12, 20, 18, 14, 22] 42 3 0 = some (.exit 0, shA_E 0 l (y0), [(decide (y0 < (↑l.length : Int))) = false]) := by kernel_rfl
theorem shA_q1 (l : List Hel) (y0 : Int) : (shA_E 0 l (y0)).hs.next = 42 := by kernel_rfl
theorem shA_d0 (l : List Hel) (hl : (l.length : Int) ≤ 100000) (y0 : Int) (hi : (decide (0 ≤ y0 ∧ y0 ≤ (l.length : Int))) = true) (hq0 : (decide (y0 < (↑l.length : Int))) = true) : (decide ((0 : Int) ≤ y0)) = true := by
  rcases Bool.eq_false_or_eq_true (decide ((0 : Int) ≤ y0)) with h | h
  · exact h
  · exfalso; (first | (simp_all only [Bool.and_eq_true, Bool.not_eq_true', Bool.false_eq_true, Bool.true_eq_false, reduceCtorEq]; done) | (simp only [sx, sy, eq_self, ne_eq, IntKind.wrap_i64, wrapU64, Int.reduceLT] at * <;> first | contradiction | omega) | omega | ((try simp only [sx, sy, eq_self, ne_eq, IntKind.wrap_i64, wrapU64, Int.reduceLT] at *) <;> omega) | (simp_all; done))
theorem shA_d1 (l : List Hel) (hl : (l.length : Int) ≤ 100000) (y0 : Int) (hi : (decide (0 ≤ y0 ∧ y0 ≤ (l.length : Int))) = true) (hq0 : (decide (y0 < (↑l.length : Int))) = true) (hq1 : (decide ((0 : Int) ≤ y0)) = true) : (!((el l y0).fst == (el l y0).fst && (el l y0).snd == (el l y0).snd)) = false := by
  rcases Bool.eq_false_or_eq_true (!((el l y0).fst == (el l y0).fst && (el l y0).snd == (el l y0).snd)) with h | h
  · exfalso; (first | (simp_all only [Bool.and_eq_true, Bool.not_eq_true', Bool.false_eq_true, Bool.true_eq_false, reduceCtorEq]; done) | (simp only [sx, sy, eq_self, ne_eq, IntKind.wrap_i64, wrapU64, Int.reduceLT] at * <;> first | contradiction | omega) | omega | ((try simp only [sx, sy, eq_self, ne_eq, IntKind.wrap_i64, wrapU64, Int.reduceLT] at *) <;> omega) | (simp_all; done))
  · exact h
noncomputable def shA_f (l : List Hel) : Nat → Int → Option (Nat × (Int))
  | 0, _ => none
  | fu + 1, y0 => (bif (decide (0 ≤ y0 ∧ y0 ≤ (l.length : Int))) then (bif (decide (y0 < (↑l.length : Int))) then shA_f l fu (IntKind.i64.wrap (y0 + (1 : Int))) else some (0, (y0))) else none)
theorem shA_fs (l : List Hel) (fu : Nat) (y0 : Int) : shA_f l (fu + 1) y0 = (bif (decide (0 ≤ y0 ∧ y0 ≤ (l.length : Int))) then (bif (decide (y0 < (↑l.length : Int))) then shA_f l fu (IntKind.i64.wrap (y0 + (1 : Int))) else some (0, (y0))) else none) := rfl
theorem shA_f0 (l : List Hel) (y0 : Int) : shA_f l 0 y0 = none := rfl
theorem shA_loop (l : List Hel) (hl : (l.length : Int) ≤ 100000) : ∀ (fu : Nat) (y0 : Int) (kk : Nat) (zz : Int), shA_f l fu y0 = some (kk, zz) → VStep (shA_hd l).s.hs (shA_S l y0 ).hs → RoundsC Try.prog [] 2 42 (shA_hd l).s.hs (shA_hd l).ro (shA_hd l).a (shA_S l y0 ) (shA_X kk) (shA_E kk l zz ) ∧ ((shA_E kk l zz )).hs.next = 42 := by
  intro fu
  induction fu with
  | zero =>
    intro y0 kk zz hf hSz
    have hf := (shA_f0 l y0 ).symm.trans hf
    simp at hf
  | succ fu ih =>
    intro y0 kk zz hf hSz
    have hf := (shA_fs l fu y0 ).symm.trans hf
    rcases bif_or hf with ⟨hi, hf⟩ | ⟨hi, hf⟩
    case inr => cases hf
    rcases bif_or hf with ⟨hq0, hf⟩ | ⟨hq0, hf⟩
    ·
      have hq1 := shA_d0 l hl y0 hi hq0 
      have hq2 := shA_d1 l hl y0 hi hq0 hq1 
      have hb1 := shA_p0 l y0 ; have hb2 := body_canon hb1; have hb3 := hb2 ⟨hq2, (seg_row (g := (gH)) (k := 2) (fun _ => rfl) (by first | exact of_decide_eq_true hq1 | simpa using of_decide_eq_true hq1) (by first | exact of_decide_eq_true hq0 | (simpa using of_decide_eq_true hq0; done) | (have hx1 := of_decide_eq_true hq0; have hx2 := of_decide_eq_true hi; simp only [List.length_reverse, List.length_set] at *; omega)) (by decide) rfl), hq0, hq1, (seg_row (g := (gH)) (k := 2) (fun _ => rfl) (by first | exact of_decide_eq_true hq1 | simpa using of_decide_eq_true hq1) (by first | exact of_decide_eq_true hq0 | (simpa using of_decide_eq_true hq0; done) | (have hx1 := of_decide_eq_true hq0; have hx2 := of_decide_eq_true hi; simp only [List.length_reverse, List.length_set] at *; omega)) (by decide) rfl), hq0, hq1, hq0, trivial⟩; obtain ⟨sz1, kz1, kz2, kz3⟩ := hb3; obtain ⟨gz1, gz2⟩ := ih (IntKind.i64.wrap (y0 + (1 : Int))) kk zz hf (rounds_step mix (T := GTab.none) GOk.none (shA_n l hl ) (shA_r l hl ) (shA_w l hl ) kz1 hSz kz2 kz3); exact ⟨rounds_next mix (T := GTab.none) GOk.none (shA_n l hl ) (shA_r l hl ) (shA_w l hl ) kz1 hSz kz2 kz3 (fun _ => gz1), gz2⟩
    ·
      injection hf with hf; injection hf with e1 e2; subst e1; subst e2; have hb1 := shA_p1 l y0 ; have hb2 := body_canon hb1; have hb3 := hb2 ⟨hq0, trivial⟩; obtain ⟨sz1, kz1, kz2, kz3⟩ := hb3; exact ⟨rounds_end mix (T := GTab.none) GOk.none (shA_n l hl ) (shA_r l hl ) (shA_w l hl ) kz1 (fun h => by cases h) hSz kz2 kz3, shA_q1 l y0 ⟩
theorem shA_ok (l : List Hel) (hl : (l.length : Int) ≤ 100000) (fu kk : Nat) (zz : Int) (hf : shA_f l fu ((0 : Int)) = some (kk, zz)) : ∀ B : Bd, B.L = [] → LoopOk Try.prog B (shA_hd l).ro (shA_hd l).a (shA_hd l).s (shA_X kk) (shA_E kk l zz ) := by
  have hSz := begin_step (shA_n l hl ) (shA_r l hl ) (shA_w l hl ) (shA_e0 l hl ) (shA_e1 l hl )
  obtain ⟨gz1, gz2⟩ := shA_loop l hl fu ((0 : Int)) kk zz hf hSz
  exact rounds_ok (shA_n l hl ) (Nat.le_of_ble_eq_true (by kernel_rfl)) gz2 (rounds_begin (shA_n l hl ) (shA_r l hl ) (shA_w l hl ) (shA_e0 l hl ) (shA_e1 l hl ) (fun _ => gz1))

theorem shK_p0 (l : List Hel) (shA_z0 : Int)  (hl : (l.length : Int) ≤ 100000) (shA_k0 : ((↑l.length : Int) != (↑l.length : Int)) = false) (shA_l : ∀ B : Bd, B.L = [] → LoopOk Try.prog B (shA_hd l).ro (shA_hd l).a (shA_hd l).s (shA_X 0) (shA_E 0 l shA_z0 )) : KnownR Try.prog [] 31 [.list (rowA gH l) l.length, .list (rowA gH l) l.length] (.bool (true)) [] :=
  knownR_eq (v := Value.bool true) (bs := []) (open_resD mix (GOk.add GOk.none shA_l) (T := (GTab.add GTab.none 5 (shA_hd l).ro (shA_hd l).a (shA_hd l).s (shA_X 0) (shA_E 0 l shA_z0 ) (by kernel_rfl))) (fuel := 3000) (es := []) (ans := [(0, .b 0), (1, .loop (shA_X 0) (shA_E 0 l shA_z0 )), ]) (log := [LoopRes Try.prog ([] : Vars).length (GTab.add GTab.none 5 (shA_hd l).ro (shA_hd l).a (shA_hd l).s (shA_X 0) (shA_E 0 l shA_z0 ) (by kernel_rfl)) (shA_hd l).ro (shA_hd l).a (shA_hd l).s (shA_X 0) (shA_E 0 l shA_z0 ), ((↑l.length : Int) != (↑l.length : Int)) = false]) (by kernel_rfl) ⟨(loop_known2 add_eq), shA_k0, trivial⟩ (by kernel_rfl)) (by first | rfl | (simp; done) | (simp_all; done)) (by first | rfl | (simp [rowA_nil]; done) | (simp only [rowA_eq]; rfl) | (simp_all [rowA_nil]; done))
set_option maxHeartbeats 8000000 in
theorem shK (l : List Hel) (shA_z0 : Int)  (hl : (l.length : Int) ≤ 100000) (shA_k0 : ((↑l.length : Int) != (↑l.length : Int)) = false) (shA_l : ∀ B : Bd, B.L = [] → LoopOk Try.prog B (shA_hd l).ro (shA_hd l).a (shA_hd l).s (shA_X 0) (shA_E 0 l shA_z0 )) : KnownR Try.prog [] 31 [.list (rowA gH l) l.length, .list (rowA gH l) l.length] (.bool (true)) [] := by
  exact shK_p0 l shA_z0 hl shA_k0 shA_l

theorem siA_go {l : List Int} (hl : (l.length : Int) ≤ 100000) : ∀ (k i : Nat), i + k = l.length → siA_f l (k + 1) (i : Int) = some (0, (l.length : Int)) := by
  intro k
  induction k with
  | zero =>
    intro i hi
    have : i = l.length := by omega
    subst this
    simp [siA_f]
  | succ k ih =>
    intro i hi
    show (bif decide _ then _ else _) = _
    rw [decide_eq_true (show 0 ≤ (i : Int) ∧ (i : Int) ≤ l.length by omega), cond_true, decide_eq_true (show (i : Int) < l.length by omega), cond_true, show IntKind.i64.wrap ((i : Int) + 1) = ((i + 1 : Nat) : Int) by rw [w8n (by omega) (by omega)]; omega]
    have h := ih (i + 1) (by omega)
    simpa using h
theorem si_is (l : List Int) (hl : (l.length : Int) ≤ 100000) : KnownR Try.prog [] 32 [.list (rowA gI l) l.length, .list (rowA gI l) l.length] (.bool true) [] := by
  have h := siA_go hl l.length 0 (by omega)
  exact siK l _ hl (by simp) (siA_ok l hl _ _ _ h)
theorem shA_go {l : List Hel} (hl : (l.length : Int) ≤ 100000) : ∀ (k i : Nat), i + k = l.length → shA_f l (k + 1) (i : Int) = some (0, (l.length : Int)) := by
  intro k
  induction k with
  | zero =>
    intro i hi
    have : i = l.length := by omega
    subst this
    simp [shA_f]
  | succ k ih =>
    intro i hi
    show (bif decide _ then _ else _) = _
    rw [decide_eq_true (show 0 ≤ (i : Int) ∧ (i : Int) ≤ l.length by omega), cond_true, decide_eq_true (show (i : Int) < l.length by omega), cond_true, show IntKind.i64.wrap ((i : Int) + 1) = ((i + 1 : Nat) : Int) by rw [w8n (by omega) (by omega)]; omega]
    have h := ih (i + 1) (by omega)
    simpa using h
theorem sh_is (l : List Hel) (hl : (l.length : Int) ≤ 100000) : KnownR Try.prog [] 31 [.list (rowA gH l) l.length, .list (rowA gH l) l.length] (.bool true) [] := by
  have h := shA_go hl l.length 0 (by omega)
  exact shK l _ hl (by simp) (shA_ok l hl _ _ _ h)
noncomputable def owR_c0 (c m : Int) (l : List Hel) : Int := (c)
noncomputable def owR_c1 (c m : Int) (l : List Hel) : Int := (m)
noncomputable def owR_c2 (c m : Int) (l : List Hel) : List Hel := (l)
theorem owR_p0 (c m : Int) (l : List Hel) (hl : (l.length : Int) ≤ 40) (hq0 : (decide (l.length * (16 : Nat) < (1000000000 : Nat))) = true) : KnownR Try.prog [] 10 [.agg [.val (.int .i64 c), .val (.int .u64 m), .list (rowA gH l) l.length]] (.agg #[(.int .i64 (c)), (.int .u64 (m)), (.complex .f64 0 ((l)).length)]) [(rowA gH ((l)), 35)] :=
  knownR_eq (v := Value.agg { toList := [Value.int IntKind.i64 c, Value.int IntKind.u64 m, Value.complex FloatKind.f64 (nat_lit 0) l.length] }) (bs := [(rowA gH l, nat_lit 35)]) (open_resD mix GOk.none (T := GTab.none) (fuel := 3000) (es := [35]) (ans := [(0, .vals (List.flatMap (gH) (l))), (1, .b 1), (2, .arr (rowA (gH) (l)))]) (log := [(List.flatMap (gH) (l)).toArray = rowA (gH) (l), (decide (l.length * (16 : Nat) < (1000000000 : Nat))) = true, segC (rowA (gH) (l)) 0 ((l.length) * 2) = some (List.flatMap (gH) (l))]) (by kernel_rfl) ⟨(row_new (g := (gH)) rfl), hq0, (seg_all2 (g := (gH)) (k := 2) (fun _ => rfl) (by first | rfl | simp)), trivial⟩ (by kernel_rfl)) (by first | rfl | (simp; done) | (simp_all; done)) (by first | rfl | (simp [rowA_nil]; done) | (simp only [rowA_eq]; rfl) | (simp_all [rowA_nil]; done))
set_option maxHeartbeats 8000000 in
theorem owR (c m : Int) (l : List Hel) (hl : (l.length : Int) ≤ 40) : KnownR Try.prog [] 10 [.agg [.val (.int .i64 c), .val (.int .u64 m), .list (rowA gH l) l.length]] (.agg #[(.int .i64 (owR_c0 c m l)), (.int .u64 (owR_c1 c m l)), (.complex .f64 0 ((owR_c2 c m l)).length)]) [(rowA gH ((owR_c2 c m l)), 35)] := by
  have hq0 : (decide (l.length * (16 : Nat) < (1000000000 : Nat))) = true := by
    rcases Bool.eq_false_or_eq_true (decide (l.length * (16 : Nat) < (1000000000 : Nat))) with h | h
    · exact h
    · exfalso; (first | (simp_all only [Bool.and_eq_true, Bool.not_eq_true', Bool.false_eq_true, Bool.true_eq_false, reduceCtorEq]; done) | (simp only [sx, sy, eq_self, ne_eq, IntKind.wrap_i64, wrapU64, Int.reduceLT] at * <;> first | contradiction | omega) | omega | ((try simp only [sx, sy, eq_self, ne_eq, IntKind.wrap_i64, wrapU64, Int.reduceLT] at *) <;> omega) | (simp_all; done))
  have e0 : owR_c0 c m l = (c) := rfl; rw [e0]; have e1 : owR_c1 c m l = (m) := rfl; rw [e1]; have e2 : owR_c2 c m l = (l) := rfl; rw [e2]; exact owR_p0 c m l hl hq0

theorem siD (x : List Int) (hx : (x.length : Int) ≤ 100000) : KnownR Try.prog [] 32 [.list (rowA gI x) x.length, .list (rowA gI x) x.length] (.bool true) ([]) := si_is x hx
noncomputable def siD_A (p : List Int × Nat × Nat × Unit) : List D := match p with
  | (x, nn0, nn1, _) => [.list (rowA gI x) nn0, .list (rowA gI x) nn1]
noncomputable def siD_C (p : List Int × Nat × Nat × Unit) : Prop := match p with
  | (x, nn0, nn1, _) => (nn0 = x.length) ∧ (nn1 = x.length) ∧ ((x.length : Int) ≤ 100000) ∧ True
noncomputable def siD_R (p : List Int × Nat × Nat × Unit) : Value × Outs := match p with
  | (x, nn0, nn1, _) => (.bool true, [])
theorem siD_inj : ∀ p q, siD_C p → siD_C q → siD_A p = siD_A q → siD_R p = siD_R q := by
  rintro ⟨x, nn0, nn1, _⟩ ⟨x', nn0', nn1', _⟩ _ _ e
  simp only [siD_A, List.cons.injEq, D.list.injEq, D.val.injEq, D.agg.injEq, Value.int.injEq, Value.bool.injEq, Value.string.injEq, Value.agg.injEq, Array.mk.injEq, and_true, true_and, gI_inj, gB_inj, gH_inj] at e
  simp_all
noncomputable def siD_k : List D → Option (Value × Outs) := fnP siD_A siD_C siD_R
theorem siD_n (x : List Int) (nn0 : Nat) (nn1 : Nat) (hn0 : nn0 = x.length) (hn1 : nn1 = x.length) (hx : (x.length : Int) ≤ 100000) : KnownR Try.prog [] 32 [.list (rowA gI x) nn0, .list (rowA gI x) nn1] (.bool true) ([]) := by
  subst hn0; subst hn1; skip
  exact siD _ hx
theorem siD_ok : ∀ ds v bs, siD_k ds = some (v, bs) → KnownR Try.prog [] 32 ds v bs := fnP_ok (by
  rintro ⟨x, nn0, nn1, _⟩ ⟨hn0, hn1, hx, _⟩
  exact siD_n _ _ _ hn0 hn1 hx)
theorem siD_at (x : List Int) (nn0 : Nat) (nn1 : Nat) (hn0 : nn0 = x.length) (hn1 : nn1 = x.length) (hx : (x.length : Int) ≤ 100000) : siD_k [.list (rowA gI x) nn0, .list (rowA gI x) nn1] = some (.bool true, []) := fnP_at (p := (x, nn0, nn1, ())) siD_inj ⟨hn0, hn1, hx, trivial⟩ rfl rfl
theorem shD (x : List Hel) (hx : (x.length : Int) ≤ 100000) : KnownR Try.prog [] 31 [.list (rowA gH x) x.length, .list (rowA gH x) x.length] (.bool true) ([]) := sh_is x hx
noncomputable def shD_A (p : List Hel × Nat × Nat × Unit) : List D := match p with
  | (x, nn0, nn1, _) => [.list (rowA gH x) nn0, .list (rowA gH x) nn1]
noncomputable def shD_C (p : List Hel × Nat × Nat × Unit) : Prop := match p with
  | (x, nn0, nn1, _) => (nn0 = x.length) ∧ (nn1 = x.length) ∧ ((x.length : Int) ≤ 100000) ∧ True
noncomputable def shD_R (p : List Hel × Nat × Nat × Unit) : Value × Outs := match p with
  | (x, nn0, nn1, _) => (.bool true, [])
theorem shD_inj : ∀ p q, shD_C p → shD_C q → shD_A p = shD_A q → shD_R p = shD_R q := by
  rintro ⟨x, nn0, nn1, _⟩ ⟨x', nn0', nn1', _⟩ _ _ e
  simp only [shD_A, List.cons.injEq, D.list.injEq, D.val.injEq, D.agg.injEq, Value.int.injEq, Value.bool.injEq, Value.string.injEq, Value.agg.injEq, Array.mk.injEq, and_true, true_and, gI_inj, gB_inj, gH_inj] at e
  simp_all
noncomputable def shD_k : List D → Option (Value × Outs) := fnP shD_A shD_C shD_R
theorem shD_n (x : List Hel) (nn0 : Nat) (nn1 : Nat) (hn0 : nn0 = x.length) (hn1 : nn1 = x.length) (hx : (x.length : Int) ≤ 100000) : KnownR Try.prog [] 31 [.list (rowA gH x) nn0, .list (rowA gH x) nn1] (.bool true) ([]) := by
  subst hn0; subst hn1; skip
  exact shD _ hx
theorem shD_ok : ∀ ds v bs, shD_k ds = some (v, bs) → KnownR Try.prog [] 31 ds v bs := fnP_ok (by
  rintro ⟨x, nn0, nn1, _⟩ ⟨hn0, hn1, hx, _⟩
  exact shD_n _ _ _ hn0 hn1 hx)
theorem shD_at (x : List Hel) (nn0 : Nat) (nn1 : Nat) (hn0 : nn0 = x.length) (hn1 : nn1 = x.length) (hx : (x.length : Int) ≤ 100000) : shD_k [.list (rowA gH x) nn0, .list (rowA gH x) nn1] = some (.bool true, []) := fnP_at (p := (x, nn0, nn1, ())) shD_inj ⟨hn0, hn1, hx, trivial⟩ rfl rfl
noncomputable def tabS1 : GTab := (GTab.fnD 32 siD_k (GTab.fnD 31 shD_k GTab.none))
theorem tabS1_ok : GOk Try.prog [] tabS1 := (GOk.fnD siD_ok (GOk.fnD shD_ok GOk.none))
theorem srK_p0 (c m : Int) (l : List Hel) (hl : (l.length : Int) ≤ 40) (hq0 : (c == c) = true) (hq1 : (m == m) = true) : KnownR Try.prog [] 13 [.agg [.val (.int .i64 c), .val (.int .u64 m), .list (rowA gH l) l.length], .agg [.val (.int .i64 c), .val (.int .u64 m), .list (rowA gH l) l.length]] (.bool (true)) [] :=
  knownR_eq (v := Value.bool true) (bs := []) (open_resD mix tabS1_ok (T := tabS1) (fuel := 3000) (es := []) (ans := [(0, .b 1), (6, .b 1), (11, .outs (Value.bool true) ([]))]) (log := [(GTab.lookD (tabS1) ((31 : Nat)) ([D.list (rowA gH l) l.length, D.list (rowA gH l) l.length])) = some (Value.bool true, []), (m == m) = true, (c == c) = true]) (by kernel_rfl) ⟨(shD_at (l) (l.length) (l.length) (by first | rfl | assumption | omega | (simp; done) | (simp_all; done) | (simp_all; omega)) (by first | rfl | assumption | omega | (simp; done) | (simp_all; done) | (simp_all; omega)) (by first | rfl | assumption | omega | (simp; done) | (simp_all; done) | (simp_all; omega))), hq1, hq0, trivial⟩ (by kernel_rfl)) (by first | rfl | (simp; done) | (simp_all; done)) (by first | rfl | (simp [rowA_nil]; done) | (simp only [rowA_eq]; rfl) | (simp_all [rowA_nil]; done))
set_option maxHeartbeats 8000000 in
theorem srK (c m : Int) (l : List Hel) (hl : (l.length : Int) ≤ 40) : KnownR Try.prog [] 13 [.agg [.val (.int .i64 c), .val (.int .u64 m), .list (rowA gH l) l.length], .agg [.val (.int .i64 c), .val (.int .u64 m), .list (rowA gH l) l.length]] (.bool (true)) [] := by
  have hq0 : (c == c) = true := by
    rcases Bool.eq_false_or_eq_true (c == c) with h | h
    · exact h
    · exfalso; (first | (simp_all only [Bool.and_eq_true, Bool.not_eq_true', Bool.false_eq_true, Bool.true_eq_false, reduceCtorEq]; done) | (simp only [sx, sy, eq_self, ne_eq, IntKind.wrap_i64, wrapU64, Int.reduceLT] at * <;> first | contradiction | omega) | omega | ((try simp only [sx, sy, eq_self, ne_eq, IntKind.wrap_i64, wrapU64, Int.reduceLT] at *) <;> omega) | (simp_all; done))
  have hq1 : (m == m) = true := by
    rcases Bool.eq_false_or_eq_true (m == m) with h | h
    · exact h
    · exfalso; (first | (simp_all only [Bool.and_eq_true, Bool.not_eq_true', Bool.false_eq_true, Bool.true_eq_false, reduceCtorEq]; done) | (simp only [sx, sy, eq_self, ne_eq, IntKind.wrap_i64, wrapU64, Int.reduceLT] at * <;> first | contradiction | omega) | omega | ((try simp only [sx, sy, eq_self, ne_eq, IntKind.wrap_i64, wrapU64, Int.reduceLT] at *) <;> omega) | (simp_all; done))
  exact srK_p0 c m l hl hq0 hq1

end Go.Proofs.Ytpmcjjpgkoagoaa
