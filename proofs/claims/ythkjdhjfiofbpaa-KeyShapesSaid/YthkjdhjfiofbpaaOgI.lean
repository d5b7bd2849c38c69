import Derived.Test.YthkjdhjfiofbpaaUC
import Derived.ProofKit
import Derived.IntWalk
set_option linter.unnecessarySimpa false
set_option linter.unusedSimpArgs false
set_option linter.unusedVariables false
namespace Go.Proofs.Ythkjdhjfiofbpaa
open Go Go.RowKit
set_option maxHeartbeats 8000000
set_option maxRecDepth 100000
noncomputable def ssA_hd (l : List Stp) : Hd := headD Try.prog [] GTab.none 3000 13 [.list (rowA gP l) l.length, .list (rowA gP l) l.length] [(0, .b 0), (1, .stop)]
noncomputable def ssA_S (l : List Stp) (y0 : Int) : St := ((entryK 2 42 [15, 23, 11, 19, 17, 25, 13, 21, 16, 24, 12, 20, 18, 14, 22] 3 0 (ssA_hd l).s).updF [(5, .int .i64 y0)] [])
theorem ssA_n (l : List Stp) (hl : (l.length : Int) ≤ 100000) : 2 = (ssA_hd l).s.hs.next := by kernel_rfl
theorem ssA_r (l : List Stp) (hl : (l.length : Int) ≤ 100000) : (ssA_hd l).s.hs.rd < bitOf 2 := by
 have e : (ssA_hd l).s.hs.rd = 0 := by kernel_rfl
 rw [e]; exact blt_iff.1 (by kernel_rfl)
theorem ssA_w (l : List Stp) (hl : (l.length : Int) ≤ 100000) : (ssA_hd l).s.hs.wr < bitOf 2 := by
 have e : (ssA_hd l).s.hs.wr = 0 := by kernel_rfl
 rw [e]; exact blt_iff.1 (by kernel_rfl)
theorem ssA_e0 (l : List Stp) (hl : (l.length : Int) ≤ 100000) : canonS 2 42 [] [15, 23, 11, 19, 17, 25, 13, 21, 16, 24, 12, 20, 18, 14, 22] 2 3 0 (ssA_hd l).s = some (ssA_S l ((0 : Int))) := by kernel_rfl
theorem ssA_e1 (l : List Stp) (hl : (l.length : Int) ≤ 100000) : canonOk 2 42 [] 2 (ssA_hd l).s = true := canonOkF_eq.symm.trans (by kernel_rfl)
def ssA_X : Nat → VX
 | 0 => .exit 0
 | _ => .normal
noncomputable def ssA_E (kE : Nat) (l : List Stp) (y0 : Int) : St := match kE with
 | 0 => ((bodySt (bodyK Try.prog ([] : Vars).length GTab.none 3000 (ssA_hd l) (ssA_S l y0 ) [(0, .b 0)] 2 42 [15, 23, 11, 19, 17, 25, 13, 21, 16, 24, 12, 20, 18, 14, 22] 42 3 0)).updF [(5, .int .i64 y0)] [])
 | _ => (ssA_hd l).s
theorem ssA_p0 (l : List Stp) (y0 : Int) : bodyK Try.prog ([] : Vars).length GTab.none 3000 (ssA_hd l) (ssA_S l y0 ) [(0, .b 1), (1, .b 1), (2, .b 1), (3, .vals ([Value.int IntKind.i64 (el l y0).fst, Value.int IntKind.i64 (el l y0).snd])), (4, .b 1), (5, .b 1), (6, .vals ([Value.int IntKind.i64 (el l y0).fst, Value.int IntKind.i64 (el l y0).snd])), (7, .b 0)] 2 42 [15, 23, 11, 19, 17, 25, 13, 21, 16, 24, 12, 20, 18, 14, 22] 2 3 0 = some (.normal, (ssA_S l (IntKind.i64.wrap (y0 + (1 : Int)))), [(!((el l y0).fst == (el l y0).fst && (el l y0).snd == (el l y0).snd)) = false, segC (rowA (gP) (l)) (((y0).toNat) * 2 + 0) 2 = some ([Value.int IntKind.i64 (el l y0).fst, Value.int IntKind.i64 (el l y0).snd]), (decide (y0 < (↑l.length : Int))) = true, (decide ((0 : Int) ≤ y0)) = true, segC (rowA (gP) (l)) (((y0).toNat) * 2 + 0) 2 = some ([Value.int IntKind.i64 (el l y0).fst, Value.int IntKind.i64 (el l y0).snd]), (decide (y0 < (↑l.length : Int))) = true, (decide ((0 : Int) ≤ y0)) = true, (decide (y0 < (↑l.length : Int))) = true]) := by kernel_rfl
theorem ssA_p1 (l : List Stp) (y0 : Int) : bodyK Try.prog ([] : Vars).length GTab.none 3000 (ssA_hd l) (ssA_S l y0 ) [(0, .b 0)] 2 42 [15, 23, 11, 19, 17, 25, 13, 21, 16, 24, 12, 20, 18, 14, 22] 42 3 0 = some (.exit 0, ssA_E 0 l (y0), [(decide (y0 < (↑l.length : Int))) = false]) := by kernel_rfl
theorem ssA_q1 (l : List Stp) (y0 : Int) : (ssA_E 0 l (y0)).hs.next = 42 := by kernel_rfl
theorem ssA_d0 (l : List Stp) (hl : (l.length : Int) ≤ 100000) (y0 : Int) (hi : (decide (0 ≤ y0 ∧ y0 ≤ (l.length : Int))) = true) (hq0 : (decide (y0 < (↑l.length : Int))) = true) : (decide ((0 : Int) ≤ y0)) = true := by
 rcases Bool.eq_false_or_eq_true (decide ((0 : Int) ≤ y0)) with h | h
 ·exact h
 ·exfalso; (first | (simp_all only [Bool.and_eq_true, Bool.not_eq_true', Bool.false_eq_true, Bool.true_eq_false, reduceCtorEq]; done) | (simp only [sx, sy, eq_self, ne_eq, IntKind.wrap_i64, wrapU64, Int.reduceLT] at * <;> first | contradiction | omega) | omega | ((try simp only [sx, sy, eq_self, ne_eq, IntKind.wrap_i64, wrapU64, Int.reduceLT] at *) <;> omega) | (simp_all; done))
theorem ssA_d1 (l : List Stp) (hl : (l.length : Int) ≤ 100000) (y0 : Int) (hi : (decide (0 ≤ y0 ∧ y0 ≤ (l.length : Int))) = true) (hq0 : (decide (y0 < (↑l.length : Int))) = true) (hq1 : (decide ((0 : Int) ≤ y0)) = true) : (!((el l y0).fst == (el l y0).fst && (el l y0).snd == (el l y0).snd)) = false := by
 rcases Bool.eq_false_or_eq_true (!((el l y0).fst == (el l y0).fst && (el l y0).snd == (el l y0).snd)) with h | h
 ·exfalso; (first | (simp_all only [Bool.and_eq_true, Bool.not_eq_true', Bool.false_eq_true, Bool.true_eq_false, reduceCtorEq]; done) | (simp only [sx, sy, eq_self, ne_eq, IntKind.wrap_i64, wrapU64, Int.reduceLT] at * <;> first | contradiction | omega) | omega | ((try simp only [sx, sy, eq_self, ne_eq, IntKind.wrap_i64, wrapU64, Int.reduceLT] at *) <;> omega) | (simp_all; done))
 ·exact h
noncomputable def ssA_f (l : List Stp) : Nat → Int → Option (Nat × (Int))
 | 0, _ => none
 | fu + 1, y0 => (bif (decide (0 ≤ y0 ∧ y0 ≤ (l.length : Int))) then (bif (decide (y0 < (↑l.length : Int))) then ssA_f l fu (IntKind.i64.wrap (y0 + (1 : Int))) else some (0, (y0))) else none)
theorem ssA_fs (l : List Stp) (fu : Nat) (y0 : Int) : ssA_f l (fu + 1) y0 = (bif (decide (0 ≤ y0 ∧ y0 ≤ (l.length : Int))) then (bif (decide (y0 < (↑l.length : Int))) then ssA_f l fu (IntKind.i64.wrap (y0 + (1 : Int))) else some (0, (y0))) else none) := rfl
theorem ssA_f0 (l : List Stp) (y0 : Int) : ssA_f l 0 y0 = none := rfl
theorem ssA_loop (l : List Stp) (hl : (l.length : Int) ≤ 100000) : ∀ (fu : Nat) (y0 : Int) (kk : Nat) (zz : Int), ssA_f l fu y0 = some (kk, zz) → VStep (ssA_hd l).s.hs (ssA_S l y0 ).hs → RoundsC Try.prog [] 2 42 (ssA_hd l).s.hs (ssA_hd l).ro (ssA_hd l).a (ssA_S l y0 ) (ssA_X kk) (ssA_E kk l zz ) ∧ ((ssA_E kk l zz )).hs.next = 42 := by
 intro fu
 induction fu with
 | zero =>
  intro y0 kk zz hf hSz
  have hf := (ssA_f0 l y0 ).symm.trans hf
  simp at hf
 | succ fu ih =>
  intro y0 kk zz hf hSz
  have hf := (ssA_fs l fu y0 ).symm.trans hf
  rcases bif_or hf with ⟨hi, hf⟩ | ⟨hi, hf⟩
  case inr => cases hf
  rcases bif_or hf with ⟨hq0, hf⟩ | ⟨hq0, hf⟩
  ·
   have hq1 := ssA_d0 l hl y0 hi hq0 
   have hq2 := ssA_d1 l hl y0 hi hq0 hq1 
   have hb1 := ssA_p0 l y0 ; have hb2 := body_canon hb1; have hb3 := hb2 ⟨hq2, (seg_row (g := (gP)) (k := 2) (fun _ => rfl) (by first | exact of_decide_eq_true hq1 | simpa using of_decide_eq_true hq1) (by first | exact of_decide_eq_true hq0 | (simpa using of_decide_eq_true hq0; done) | (have hx1 := of_decide_eq_true hq0; have hx2 := of_decide_eq_true hi; simp only [List.length_reverse, List.length_set] at *; omega)) (by decide) rfl), hq0, hq1, (seg_row (g := (gP)) (k := 2) (fun _ => rfl) (by first | exact of_decide_eq_true hq1 | simpa using of_decide_eq_true hq1) (by first | exact of_decide_eq_true hq0 | (simpa using of_decide_eq_true hq0; done) | (have hx1 := of_decide_eq_true hq0; have hx2 := of_decide_eq_true hi; simp only [List.length_reverse, List.length_set] at *; omega)) (by decide) rfl), hq0, hq1, hq0, trivial⟩; obtain ⟨sz1, kz1, kz2, kz3⟩ := hb3; obtain ⟨gz1, gz2⟩ := ih (IntKind.i64.wrap (y0 + (1 : Int))) kk zz hf (rounds_step mix (T := GTab.none) GOk.none (ssA_n l hl ) (ssA_r l hl ) (ssA_w l hl ) kz1 hSz kz2 kz3); exact ⟨rounds_next mix (T := GTab.none) GOk.none (ssA_n l hl ) (ssA_r l hl ) (ssA_w l hl ) kz1 hSz kz2 kz3 (fun _ => gz1), gz2⟩
  ·
   injection hf with hf; injection hf with e1 e2; subst e1; subst e2; have hb1 := ssA_p1 l y0 ; have hb2 := body_canon hb1; have hb3 := hb2 ⟨hq0, trivial⟩; obtain ⟨sz1, kz1, kz2, kz3⟩ := hb3; exact ⟨rounds_end mix (T := GTab.none) GOk.none (ssA_n l hl ) (ssA_r l hl ) (ssA_w l hl ) kz1 (fun h => by cases h) hSz kz2 kz3, ssA_q1 l y0 ⟩
theorem ssA_ok (l : List Stp) (hl : (l.length : Int) ≤ 100000) (fu kk : Nat) (zz : Int) (hf : ssA_f l fu ((0 : Int)) = some (kk, zz)) : ∀ B : Bd, B.L = [] → LoopOk Try.prog B (ssA_hd l).ro (ssA_hd l).a (ssA_hd l).s (ssA_X kk) (ssA_E kk l zz ) := by
 have hSz := begin_step (ssA_n l hl ) (ssA_r l hl ) (ssA_w l hl ) (ssA_e0 l hl ) (ssA_e1 l hl )
 obtain ⟨gz1, gz2⟩ := ssA_loop l hl fu ((0 : Int)) kk zz hf hSz
 exact rounds_ok (ssA_n l hl ) (Nat.le_of_ble_eq_true (by kernel_rfl)) gz2 (rounds_begin (ssA_n l hl ) (ssA_r l hl ) (ssA_w l hl ) (ssA_e0 l hl ) (ssA_e1 l hl ) (fun _ => gz1))
theorem ssK_p0 (l : List Stp) (ssA_z0 : Int)  (hl : (l.length : Int) ≤ 100000) (ssA_k0 : ((↑l.length : Int) != (↑l.length : Int)) = false) (ssA_l : ∀ B : Bd, B.L = [] → LoopOk Try.prog B (ssA_hd l).ro (ssA_hd l).a (ssA_hd l).s (ssA_X 0) (ssA_E 0 l ssA_z0 )) : KnownR Try.prog [] 13 [.list (rowA gP l) l.length, .list (rowA gP l) l.length] (.bool (true)) [] :=
 knownR_eq (v := Value.bool true) (bs := []) (open_resD mix (GOk.add GOk.none ssA_l) (T := (GTab.add GTab.none 5 (ssA_hd l).ro (ssA_hd l).a (ssA_hd l).s (ssA_X 0) (ssA_E 0 l ssA_z0 ) (by kernel_rfl))) (fuel := 3000) (es := []) (ans := [(0, .b 0), (1, .loop (ssA_X 0) (ssA_E 0 l ssA_z0 )), ]) (log := [LoopRes Try.prog ([] : Vars).length (GTab.add GTab.none 5 (ssA_hd l).ro (ssA_hd l).a (ssA_hd l).s (ssA_X 0) (ssA_E 0 l ssA_z0 ) (by kernel_rfl)) (ssA_hd l).ro (ssA_hd l).a (ssA_hd l).s (ssA_X 0) (ssA_E 0 l ssA_z0 ), ((↑l.length : Int) != (↑l.length : Int)) = false]) (by kernel_rfl) ⟨(loop_known2 add_eq), ssA_k0, trivial⟩ (by kernel_rfl)) (by first | rfl | (simp; done) | (simp_all; done)) (by first | rfl | (simp [rowA_nil]; done) | (simp only [rowA_eq]; rfl) | (simp_all [rowA_nil]; done))
set_option maxHeartbeats 8000000 in
theorem ssK (l : List Stp) (ssA_z0 : Int)  (hl : (l.length : Int) ≤ 100000) (ssA_k0 : ((↑l.length : Int) != (↑l.length : Int)) = false) (ssA_l : ∀ B : Bd, B.L = [] → LoopOk Try.prog B (ssA_hd l).ro (ssA_hd l).a (ssA_hd l).s (ssA_X 0) (ssA_E 0 l ssA_z0 )) : KnownR Try.prog [] 13 [.list (rowA gP l) l.length, .list (rowA gP l) l.length] (.bool (true)) [] := by
 exact ssK_p0 l ssA_z0 hl ssA_k0 ssA_l
theorem ssA_go {l : List Stp} (hl : (l.length : Int) ≤ 100000) : ∀ (k i : Nat), i + k = l.length → ssA_f l (k + 1) (i : Int) = some (0, (l.length : Int)) := by
 intro k
 induction k with
 | zero =>
  intro i hi
  have : i = l.length := by omega
  subst this
  simp [ssA_f]
 | succ k ih =>
  intro i hi
  show (bif decide _ then _ else _) = _
  rw [decide_eq_true (show 0 ≤ (i : Int) ∧ (i : Int) ≤ l.length by omega), cond_true, decide_eq_true (show (i : Int) < l.length by omega), cond_true, show IntKind.i64.wrap ((i : Int) + 1) = ((i + 1 : Nat) : Int) by rw [w8n (by omega) (by omega)]; omega]
  have h := ih (i + 1) (by omega)
  simpa using h
theorem ss_is (l : List Stp) (hl : (l.length : Int) ≤ 100000) : KnownR Try.prog [] 13 [.list (rowA gP l) l.length, .list (rowA gP l) l.length] (.bool true) [] := by
 have h := ssA_go hl l.length 0 (by omega)
 exact ssK l _ hl (by simp) (ssA_ok l hl _ _ _ h)
end Go.Proofs.Ythkjdhjfiofbpaa
