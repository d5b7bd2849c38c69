/- Layer 33: WordBack: Make and Parse of the program. -/
import Derived.Test.YtfpabkpmcmfbhaaDoorWM
import Derived.ProofKit
import Derived.IntWalk
namespace Go.Proofs.YtfpabkpmcmfbhaaDoor
open Go Go.RowKit
set_option linter.unusedVariables false
set_option linter.unusedSimpArgs false
set_option linter.unnecessarySimpa false
set_option maxHeartbeats 8000000
set_option maxRecDepth 100000
noncomputable def cw0_c0 (c : Int) : Int := (bif (decide (c ≥ (1 : Int))) then (bif (!decide (c ≤ (8 : Int))) then ((2 : Int)) else ((0 : Int))) else ((2 : Int)))
theorem cw0_p0 (c : Int)  (hq0 : (decide (c ≥ (1 : Int))) = true) (hq1 : (!decide (c ≤ (8 : Int))) = true) : Known Tryd.prog knWordKnownL 22 [.int .i64 c, .slice none 0 0] (.int .i64 ((2 : Int))) :=
  open_res mix GOk.none (T := GTab.none) (fuel := 3000) (ans := [(0, .b 1), (4, .b 1)]) (log := [(!decide (c ≤ (8 : Int))) = true, (decide (c ≥ (1 : Int))) = true]) (by kernel_rfl) ⟨hq1, hq0, trivial⟩ (by kernel_rfl)
theorem cw0_p1 (c : Int)  (hq0 : (decide (c ≥ (1 : Int))) = true) (hq1 : (!decide (c ≤ (8 : Int))) = false) : Known Tryd.prog knWordKnownL 22 [.int .i64 c, .slice none 0 0] (.int .i64 ((0 : Int))) :=
  open_res mix GOk.none (T := GTab.none) (fuel := 3000) (ans := [(0, .b 1), (4, .b 0)]) (log := [(!decide (c ≤ (8 : Int))) = false, (decide (c ≥ (1 : Int))) = true]) (by kernel_rfl) ⟨hq1, hq0, trivial⟩ (by kernel_rfl)
theorem cw0_p2 (c : Int)  (hq0 : (decide (c ≥ (1 : Int))) = false) : Known Tryd.prog knWordKnownL 22 [.int .i64 c, .slice none 0 0] (.int .i64 ((2 : Int))) :=
  open_res mix GOk.none (T := GTab.none) (fuel := 3000) (ans := [(0, .b 0)]) (log := [(decide (c ≥ (1 : Int))) = false]) (by kernel_rfl) ⟨hq0, trivial⟩ (by kernel_rfl)
set_option maxHeartbeats 8000000 in
theorem cw0 (c : Int)  : Known Tryd.prog knWordKnownL 22 [.int .i64 c, .slice none 0 0] (.int .i64 (cw0_c0 c)) := by
  rcases Bool.eq_false_or_eq_true (decide (c ≥ (1 : Int))) with hq0 | hq0
  ·
    rcases Bool.eq_false_or_eq_true (!decide (c ≤ (8 : Int))) with hq1 | hq1
    ·
      have e0 : cw0_c0 c = ((2 : Int)) := ((bif_t hq0 _ _).trans ((bif_t hq1 _ _).trans rfl)); rw [e0]; exact cw0_p0 c hq0 hq1
    ·
      have e0 : cw0_c0 c = ((0 : Int)) := ((bif_t hq0 _ _).trans ((bif_f hq1 _ _).trans rfl)); rw [e0]; exact cw0_p1 c hq0 hq1
  ·
    have e0 : cw0_c0 c = ((2 : Int)) := ((bif_f hq0 _ _).trans rfl); rw [e0]; exact cw0_p2 c hq0
noncomputable def cw0_k : List Value → Option Value
  | [.int .i64 c, .slice none 0 0] => some (.int .i64 (cw0_c0 c))
  | _ => none
theorem cw0_ok : ∀ args v, cw0_k args = some v → Known Tryd.prog knWordKnownL 22 args v := by
  intro args v h
  unfold cw0_k at h
  split at h
  · injection h with h; subst h; exact cw0 _
  · cases h

noncomputable def cwX (c : Int) : Int := cw0_c0 c
theorem qCw (c : Int) : Known Tryd.prog knWordKnownL 22 [.int .i64 c, .slice none 0 0] (.int .i64 (cwX c)) := cw0 c
noncomputable def qCw_k : List Value → Option Value
  | [.int .i64 c, .slice none 0 0] => some (.int .i64 (cwX c))
  | _ => none
theorem qCw_ok : ∀ args v, qCw_k args = some v → Known Tryd.prog knWordKnownL 22 args v := by
  intro args v h
  unfold qCw_k at h
  split at h
  · injection h with h; subst h; exact qCw _
  · cases h
attribute [local irreducible] btB vlX pbV pwI cwX
noncomputable def tabMk : GTab := (GTab.fn 37 qPb_k (GTab.fn1 22 qCw_k GTab.none))
theorem tabMk_ok : GOk Tryd.prog knWordKnownL tabMk := (GOk.fn qPb_ok (GOk.fn1 qCw_ok GOk.none))
noncomputable def pmA_hd (xs : List Int) (c : Int) : Hd := headD Tryd.prog knWordKnownL tabMk 3000 19 [.list (rowA gI xs) xs.length, .val (.int .i64 c)] [(1, .b 0), (2, .stop)]
noncomputable def pmA_S (xs : List Int) (c : Int) (y0 : Int) (y1 : Int) : St := ((entryK 4 44 [23, 19, 27, 9, 25, 21, 29, 24, 20, 28, 18, 26, 22] 8 0 (pmA_hd xs c).s).updF [(7, .int .i64 y0), (17, .int .i64 y1)] [])
theorem pmA_n (xs : List Int) (c : Int) (hv : cwX c = 0) (hc : 1 ≤ c ∧ c ≤ 8) (hx : xs.length ≤ 20) : 4 = (pmA_hd xs c).s.hs.next := by kernel_rfl
theorem pmA_r (xs : List Int) (c : Int) (hv : cwX c = 0) (hc : 1 ≤ c ∧ c ≤ 8) (hx : xs.length ≤ 20) : (pmA_hd xs c).s.hs.rd < bitOf 4 := by
  have e : (pmA_hd xs c).s.hs.rd = 0 := by kernel_rfl
  rw [e]; exact blt_iff.1 (by kernel_rfl)
theorem pmA_w (xs : List Int) (c : Int) (hv : cwX c = 0) (hc : 1 ≤ c ∧ c ≤ 8) (hx : xs.length ≤ 20) : (pmA_hd xs c).s.hs.wr < bitOf 4 := by
  have e : (pmA_hd xs c).s.hs.wr = 0 := by kernel_rfl
  rw [e]; exact blt_iff.1 (by kernel_rfl)
theorem pmA_e0 (xs : List Int) (c : Int) (hv : cwX c = 0) (hc : 1 ≤ c ∧ c ≤ 8) (hx : xs.length ≤ 20) : canonS 4 44 [] [23, 19, 27, 9, 25, 21, 29, 24, 20, 28, 18, 26, 22] 4 8 0 (pmA_hd xs c).s = some (pmA_S xs c ((0 : Int)) ((0 : Int))) := by kernel_rfl
theorem pmA_e1 (xs : List Int) (c : Int) (hv : cwX c = 0) (hc : 1 ≤ c ∧ c ≤ 8) (hx : xs.length ≤ 20) : canonOk 4 44 [] 4 (pmA_hd xs c).s = true := canonOkF_eq.symm.trans (by kernel_rfl)
def pmA_X : Nat → VX
  | 0 => .ret
  | 1 => .exit 0
  | _ => .normal
noncomputable def pmA_E (kE : Nat) (xs : List Int) (c : Int) (y0 : Int) (y1 : Int) : St := match kE with
  | 0 => ((bodySt (bodyK Tryd.prog (knWordKnownL : Vars).length tabMk 3000 (pmA_hd xs c) (pmA_S xs c y0 y1 ) [(0, .b 1), (1, .b 1), (2, .b 1), (3, .vals ([Value.int IntKind.i64 (el xs y1)])), (4, .b 1), (8, .b 1)] 4 44 [23, 19, 27, 9, 25, 21, 29, 24, 20, 28, 18, 26, 22] 44 8 0)).updF [(7, .int .i64 y0), (17, .int .i64 y1)] [])
  | 1 => ((bodySt (bodyK Tryd.prog (knWordKnownL : Vars).length tabMk 3000 (pmA_hd xs c) (pmA_S xs c y0 y1 ) [(0, .b 0)] 4 44 [23, 19, 27, 9, 25, 21, 29, 24, 20, 28, 18, 26, 22] 44 8 0)).updF [(7, .int .i64 y0), (17, .int .i64 y1)] [])
  | _ => (pmA_hd xs c).s
theorem pmA_p0 (xs : List Int) (c : Int) (y0 : Int) (y1 : Int) : bodyK Tryd.prog (knWordKnownL : Vars).length tabMk 3000 (pmA_hd xs c) (pmA_S xs c y0 y1 ) [(0, .b 1), (1, .b 1), (2, .b 1), (3, .vals ([Value.int IntKind.i64 (el xs y1)])), (4, .b 1), (8, .b 1)] 4 44 [23, 19, 27, 9, 25, 21, 29, 24, 20, 28, 18, 26, 22] 44 8 0 = some (.ret, pmA_E 0 xs c (y0) (y1) , [(!decide (el xs y1 ≤ c)) = true, (decide (el xs y1 ≥ (1 : Int))) = true, segC (rowA (gI) (xs)) (((y1).toNat) * 1 + 0) 1 = some ([Value.int IntKind.i64 (el xs y1)]), (decide (y1 < (↑xs.length : Int))) = true, (decide ((0 : Int) ≤ y1)) = true, (decide (y1 < (↑xs.length : Int))) = true]) := by kernel_rfl
theorem pmA_q0 (xs : List Int) (c : Int) (y0 : Int) (y1 : Int) : (pmA_E 0 xs c (y0) (y1) ).hs.next = 44 := by kernel_rfl
theorem pmA_p1 (xs : List Int) (c : Int) (y0 : Int) (y1 : Int) : bodyK Tryd.prog (knWordKnownL : Vars).length tabMk 3000 (pmA_hd xs c) (pmA_S xs c y0 y1 ) [(0, .b 1), (1, .b 1), (2, .b 1), (3, .vals ([Value.int IntKind.i64 (el xs y1)])), (4, .b 1), (8, .b 0), (9, .b 1)] 4 44 [23, 19, 27, 9, 25, 21, 29, 24, 20, 28, 18, 26, 22] 4 8 0 = some (.normal, (pmA_S xs c (IntKind.i64.wrap (↑(BitVec.ofInt (64 : Nat) y0 ||| BitVec.ofInt (64 : Nat) (pbV (el xs y1))).toNat : Int)) (IntKind.i64.wrap (y1 + (1 : Int)))), [(decide ((1 : Int) ≤ el xs y1 ∧ el xs y1 ≤ (9 : Int))) = true, (!decide (el xs y1 ≤ c)) = false, (decide (el xs y1 ≥ (1 : Int))) = true, segC (rowA (gI) (xs)) (((y1).toNat) * 1 + 0) 1 = some ([Value.int IntKind.i64 (el xs y1)]), (decide (y1 < (↑xs.length : Int))) = true, (decide ((0 : Int) ≤ y1)) = true, (decide (y1 < (↑xs.length : Int))) = true]) := by kernel_rfl
theorem pmA_p2 (xs : List Int) (c : Int) (y0 : Int) (y1 : Int) : bodyK Tryd.prog (knWordKnownL : Vars).length tabMk 3000 (pmA_hd xs c) (pmA_S xs c y0 y1 ) [(0, .b 1), (1, .b 1), (2, .b 1), (3, .vals ([Value.int IntKind.i64 (el xs y1)])), (4, .b 0)] 4 44 [23, 19, 27, 9, 25, 21, 29, 24, 20, 28, 18, 26, 22] 44 8 0 = some (.ret, pmA_E 0 xs c (y0) (y1) , [(decide (el xs y1 ≥ (1 : Int))) = false, segC (rowA (gI) (xs)) (((y1).toNat) * 1 + 0) 1 = some ([Value.int IntKind.i64 (el xs y1)]), (decide (y1 < (↑xs.length : Int))) = true, (decide ((0 : Int) ≤ y1)) = true, (decide (y1 < (↑xs.length : Int))) = true]) := by kernel_rfl
theorem pmA_q2 (xs : List Int) (c : Int) (y0 : Int) (y1 : Int) : (pmA_E 0 xs c (y0) (y1) ).hs.next = 44 := by kernel_rfl
theorem pmA_p3 (xs : List Int) (c : Int) (y0 : Int) (y1 : Int) : bodyK Tryd.prog (knWordKnownL : Vars).length tabMk 3000 (pmA_hd xs c) (pmA_S xs c y0 y1 ) [(0, .b 0)] 4 44 [23, 19, 27, 9, 25, 21, 29, 24, 20, 28, 18, 26, 22] 44 8 0 = some (.exit 0, pmA_E 1 xs c (y0) (y1) , [(decide (y1 < (↑xs.length : Int))) = false]) := by kernel_rfl
theorem pmA_q3 (xs : List Int) (c : Int) (y0 : Int) (y1 : Int) : (pmA_E 1 xs c (y0) (y1) ).hs.next = 44 := by kernel_rfl
theorem pmA_d0 (xs : List Int) (c : Int) (hv : cwX c = 0) (hc : 1 ≤ c ∧ c ≤ 8) (hx : xs.length ≤ 20) (y0 : Int) (y1 : Int) (hi : (decide (0 ≤ y0 ∧ y0 ≤ 255 ∧ 0 ≤ y1 ∧ y1 ≤ 20)) = true) (hq0 : (decide (y1 < (↑xs.length : Int))) = true) : (decide ((0 : Int) ≤ y1)) = true := by
  rcases Bool.eq_false_or_eq_true (decide ((0 : Int) ≤ y1)) with h | h
  · exact h
  · exfalso; (first | (simp_all only [Bool.and_eq_true, Bool.not_eq_true', Bool.false_eq_true, Bool.true_eq_false, reduceCtorEq]; done) | (simp only [sx, sy, eq_self, ne_eq, IntKind.wrap_i64, wrapU64, Int.reduceLT] at * <;> first | contradiction | omega) | omega | ((try simp only [sx, sy, eq_self, ne_eq, IntKind.wrap_i64, wrapU64, Int.reduceLT] at *) <;> omega) | (simp_all; done))
theorem pmA_d1 (xs : List Int) (c : Int) (hv : cwX c = 0) (hc : 1 ≤ c ∧ c ≤ 8) (hx : xs.length ≤ 20) (y0 : Int) (y1 : Int) (hi : (decide (0 ≤ y0 ∧ y0 ≤ 255 ∧ 0 ≤ y1 ∧ y1 ≤ 20)) = true) (hq0 : (decide (y1 < (↑xs.length : Int))) = true) (hq1 : (decide ((0 : Int) ≤ y1)) = true) (hq2 : (decide (el xs y1 ≥ (1 : Int))) = true) (hq3 : (!decide (el xs y1 ≤ c)) = false) : (decide ((1 : Int) ≤ el xs y1 ∧ el xs y1 ≤ (9 : Int))) = true := by
  rcases Bool.eq_false_or_eq_true (decide ((1 : Int) ≤ el xs y1 ∧ el xs y1 ≤ (9 : Int))) with h | h
  · exact h
  · exfalso; (first | (simp_all only [Bool.and_eq_true, Bool.not_eq_true', Bool.false_eq_true, Bool.true_eq_false, reduceCtorEq]; done) | (simp only [sx, sy, eq_self, ne_eq, IntKind.wrap_i64, wrapU64, Int.reduceLT] at * <;> first | contradiction | omega) | omega | ((try simp only [sx, sy, eq_self, ne_eq, IntKind.wrap_i64, wrapU64, Int.reduceLT] at *) <;> omega) | (simp_all; done))
noncomputable def pmA_f (xs : List Int) (c : Int) : Nat → Int → Int → Option (Nat × (Int × Int))
  | 0, _, _ => none
  | fu + 1, y0, y1 => (bif (decide (0 ≤ y0 ∧ y0 ≤ 255 ∧ 0 ≤ y1 ∧ y1 ≤ 20)) then (bif (decide (y1 < (↑xs.length : Int))) then (bif (decide (el xs y1 ≥ (1 : Int))) then (bif (!decide (el xs y1 ≤ c)) then some (0, ((y0), (y1))) else pmA_f xs c fu (IntKind.i64.wrap (↑(BitVec.ofInt (64 : Nat) y0 ||| BitVec.ofInt (64 : Nat) (pbV (el xs y1))).toNat : Int)) (IntKind.i64.wrap (y1 + (1 : Int)))) else some (0, ((y0), (y1)))) else some (1, ((y0), (y1)))) else none)
theorem pmA_fs (xs : List Int) (c : Int) (fu : Nat) (y0 : Int) (y1 : Int) : pmA_f xs c (fu + 1) y0 y1 = (bif (decide (0 ≤ y0 ∧ y0 ≤ 255 ∧ 0 ≤ y1 ∧ y1 ≤ 20)) then (bif (decide (y1 < (↑xs.length : Int))) then (bif (decide (el xs y1 ≥ (1 : Int))) then (bif (!decide (el xs y1 ≤ c)) then some (0, ((y0), (y1))) else pmA_f xs c fu (IntKind.i64.wrap (↑(BitVec.ofInt (64 : Nat) y0 ||| BitVec.ofInt (64 : Nat) (pbV (el xs y1))).toNat : Int)) (IntKind.i64.wrap (y1 + (1 : Int)))) else some (0, ((y0), (y1)))) else some (1, ((y0), (y1)))) else none) := rfl
theorem pmA_f0 (xs : List Int) (c : Int) (y0 : Int) (y1 : Int) : pmA_f xs c 0 y0 y1 = none := rfl
theorem pmA_loop (xs : List Int) (c : Int) (hv : cwX c = 0) (hc : 1 ≤ c ∧ c ≤ 8) (hx : xs.length ≤ 20) : ∀ (fu : Nat) (y0 : Int) (y1 : Int) (kk : Nat) (zz : Int × Int), pmA_f xs c fu y0 y1 = some (kk, zz) → VStep (pmA_hd xs c).s.hs (pmA_S xs c y0 y1 ).hs → RoundsC Tryd.prog knWordKnownL 4 44 (pmA_hd xs c).s.hs (pmA_hd xs c).ro (pmA_hd xs c).a (pmA_S xs c y0 y1 ) (pmA_X kk) (pmA_E kk xs c zz.1 zz.2 ) ∧ ((pmA_E kk xs c zz.1 zz.2 )).hs.next = 44 := by
  intro fu
  induction fu with
  | zero =>
    intro y0 y1 kk zz hf hSz
    have hf := (pmA_f0 xs c y0 y1 ).symm.trans hf
    simp at hf
  | succ fu ih =>
    intro y0 y1 kk zz hf hSz
    have hf := (pmA_fs xs c fu y0 y1 ).symm.trans hf
    rcases bif_or hf with ⟨hi, hf⟩ | ⟨hi, hf⟩
    case inr => cases hf
    rcases bif_or hf with ⟨hq0, hf⟩ | ⟨hq0, hf⟩
    ·
      have hq1 := pmA_d0 xs c hv hc hx y0 y1 hi hq0 
      rcases bif_or hf with ⟨hq2, hf⟩ | ⟨hq2, hf⟩
      ·
        rcases bif_or hf with ⟨hq3, hf⟩ | ⟨hq3, hf⟩
        ·
          injection hf with hf; injection hf with e1 e2; subst e1; subst e2; have hb1 := pmA_p0 xs c y0 y1 ; have hb2 := body_canon hb1; have hb3 := hb2 ⟨hq3, hq2, (seg_row (g := (gI)) (k := 1) (fun _ => rfl) (by first | exact of_decide_eq_true hq1 | simpa using of_decide_eq_true hq1) (by first | exact of_decide_eq_true hq0 | (simpa using of_decide_eq_true hq0; done) | (have hx1 := of_decide_eq_true hq0; have hx2 := of_decide_eq_true hi; simp only [List.length_reverse, List.length_set] at *; omega)) (by decide) rfl), hq0, hq1, hq0, trivial⟩; obtain ⟨sz1, kz1, kz2, kz3⟩ := hb3; exact ⟨rounds_end mix (T := tabMk) tabMk_ok (pmA_n xs c hv hc hx ) (pmA_r xs c hv hc hx ) (pmA_w xs c hv hc hx ) kz1 (fun h => by cases h) hSz kz2 kz3, pmA_q0 xs c y0 y1 ⟩
        ·
          have hq4 := pmA_d1 xs c hv hc hx y0 y1 hi hq0 hq1 hq2 hq3 
          have hb1 := pmA_p1 xs c y0 y1 ; have hb2 := body_canon hb1; have hb3 := hb2 ⟨hq4, hq3, hq2, (seg_row (g := (gI)) (k := 1) (fun _ => rfl) (by first | exact of_decide_eq_true hq1 | simpa using of_decide_eq_true hq1) (by first | exact of_decide_eq_true hq0 | (simpa using of_decide_eq_true hq0; done) | (have hx1 := of_decide_eq_true hq0; have hx2 := of_decide_eq_true hi; simp only [List.length_reverse, List.length_set] at *; omega)) (by decide) rfl), hq0, hq1, hq0, trivial⟩; obtain ⟨sz1, kz1, kz2, kz3⟩ := hb3; obtain ⟨gz1, gz2⟩ := ih (IntKind.i64.wrap (↑(BitVec.ofInt (64 : Nat) y0 ||| BitVec.ofInt (64 : Nat) (pbV (el xs y1))).toNat : Int)) (IntKind.i64.wrap (y1 + (1 : Int))) kk zz hf (rounds_step mix (T := tabMk) tabMk_ok (pmA_n xs c hv hc hx ) (pmA_r xs c hv hc hx ) (pmA_w xs c hv hc hx ) kz1 hSz kz2 kz3); exact ⟨rounds_next mix (T := tabMk) tabMk_ok (pmA_n xs c hv hc hx ) (pmA_r xs c hv hc hx ) (pmA_w xs c hv hc hx ) kz1 hSz kz2 kz3 (fun _ => gz1), gz2⟩
      ·
        injection hf with hf; injection hf with e1 e2; subst e1; subst e2; have hb1 := pmA_p2 xs c y0 y1 ; have hb2 := body_canon hb1; have hb3 := hb2 ⟨hq2, (seg_row (g := (gI)) (k := 1) (fun _ => rfl) (by first | exact of_decide_eq_true hq1 | simpa using of_decide_eq_true hq1) (by first | exact of_decide_eq_true hq0 | (simpa using of_decide_eq_true hq0; done) | (have hx1 := of_decide_eq_true hq0; have hx2 := of_decide_eq_true hi; simp only [List.length_reverse, List.length_set] at *; omega)) (by decide) rfl), hq0, hq1, hq0, trivial⟩; obtain ⟨sz1, kz1, kz2, kz3⟩ := hb3; exact ⟨rounds_end mix (T := tabMk) tabMk_ok (pmA_n xs c hv hc hx ) (pmA_r xs c hv hc hx ) (pmA_w xs c hv hc hx ) kz1 (fun h => by cases h) hSz kz2 kz3, pmA_q2 xs c y0 y1 ⟩
    ·
      injection hf with hf; injection hf with e1 e2; subst e1; subst e2; have hb1 := pmA_p3 xs c y0 y1 ; have hb2 := body_canon hb1; have hb3 := hb2 ⟨hq0, trivial⟩; obtain ⟨sz1, kz1, kz2, kz3⟩ := hb3; exact ⟨rounds_end mix (T := tabMk) tabMk_ok (pmA_n xs c hv hc hx ) (pmA_r xs c hv hc hx ) (pmA_w xs c hv hc hx ) kz1 (fun h => by cases h) hSz kz2 kz3, pmA_q3 xs c y0 y1 ⟩
theorem pmA_ok (xs : List Int) (c : Int) (hv : cwX c = 0) (hc : 1 ≤ c ∧ c ≤ 8) (hx : xs.length ≤ 20) (fu kk : Nat) (zz : Int × Int) (hf : pmA_f xs c fu ((0 : Int)) ((0 : Int)) = some (kk, zz)) : ∀ B : Bd, B.L = knWordKnownL → LoopOk Tryd.prog B (pmA_hd xs c).ro (pmA_hd xs c).a (pmA_hd xs c).s (pmA_X kk) (pmA_E kk xs c zz.1 zz.2 ) := by
  have hSz := begin_step (pmA_n xs c hv hc hx ) (pmA_r xs c hv hc hx ) (pmA_w xs c hv hc hx ) (pmA_e0 xs c hv hc hx ) (pmA_e1 xs c hv hc hx )
  obtain ⟨gz1, gz2⟩ := pmA_loop xs c hv hc hx fu ((0 : Int)) ((0 : Int)) kk zz hf hSz
  exact rounds_ok (pmA_n xs c hv hc hx ) (Nat.le_of_ble_eq_true (by kernel_rfl)) gz2 (rounds_begin (pmA_n xs c hv hc hx ) (pmA_r xs c hv hc hx ) (pmA_w xs c hv hc hx ) (pmA_e0 xs c hv hc hx ) (pmA_e1 xs c hv hc hx ) (fun _ => gz1))

noncomputable def pm1_c0 (xs : List Int) (c : Int) (pmA_z0 : Int) (pmA_z1 : Int)  : Int := (pmA_z0)
theorem pm1_p0 (xs : List Int) (c : Int) (pmA_z0 : Int) (pmA_z1 : Int)  (hv : cwX c = 0) (hc : 1 ≤ c ∧ c ≤ 8) (hx : xs.length ≤ 20) (pmA_k1 : (cwX c != (0 : Int)) = false) (pmA_l : ∀ B : Bd, B.L = knWordKnownL → LoopOk Tryd.prog B (pmA_hd xs c).ro (pmA_hd xs c).a (pmA_hd xs c).s (pmA_X 1) (pmA_E 1 xs c pmA_z0 pmA_z1 )) : KnownR Tryd.prog knWordKnownL 19 [.list (rowA gI xs) xs.length, .val (.int .i64 c)] (.tuple #[(.int .i64 (pmA_z0)), (.int .i64 ((0 : Int)))]) [] :=
  knownR_eq (v := Value.tuple { toList := [Value.int IntKind.i64 pmA_z0, Value.int IntKind.i64 (0 : Int)] }) (bs := []) (open_resD mix (GOk.add tabMk_ok pmA_l) (T := (GTab.add tabMk 7 (pmA_hd xs c).ro (pmA_hd xs c).a (pmA_hd xs c).s (pmA_X 1) (pmA_E 1 xs c pmA_z0 pmA_z1 ) (by kernel_rfl))) (fuel := 3000) (es := []) (ans := [(1, .b 0), (2, .loop (pmA_X 1) (pmA_E 1 xs c pmA_z0 pmA_z1 )), ]) (log := [LoopRes Tryd.prog (knWordKnownL : Vars).length (GTab.add tabMk 7 (pmA_hd xs c).ro (pmA_hd xs c).a (pmA_hd xs c).s (pmA_X 1) (pmA_E 1 xs c pmA_z0 pmA_z1 ) (by kernel_rfl)) (pmA_hd xs c).ro (pmA_hd xs c).a (pmA_hd xs c).s (pmA_X 1) (pmA_E 1 xs c pmA_z0 pmA_z1 ), (cwX c != (0 : Int)) = false]) (by kernel_rfl) ⟨(loop_known2 add_eq), pmA_k1, trivial⟩ (by kernel_rfl)) (by first | rfl | (simp; done) | (simp_all; done)) (by first | rfl | (simp [rowA_nil]; done) | (simp only [rowA_eq]; rfl) | (simp_all [rowA_nil]; done))
set_option maxHeartbeats 8000000 in
theorem pm1 (xs : List Int) (c : Int) (pmA_z0 : Int) (pmA_z1 : Int)  (hv : cwX c = 0) (hc : 1 ≤ c ∧ c ≤ 8) (hx : xs.length ≤ 20) (pmA_k1 : (cwX c != (0 : Int)) = false) (pmA_l : ∀ B : Bd, B.L = knWordKnownL → LoopOk Tryd.prog B (pmA_hd xs c).ro (pmA_hd xs c).a (pmA_hd xs c).s (pmA_X 1) (pmA_E 1 xs c pmA_z0 pmA_z1 )) : KnownR Tryd.prog knWordKnownL 19 [.list (rowA gI xs) xs.length, .val (.int .i64 c)] (.tuple #[(.int .i64 (pm1_c0 xs c pmA_z0 pmA_z1)), (.int .i64 ((0 : Int)))]) [] := by
  have e0 : pm1_c0 xs c pmA_z0 pmA_z1 = (pmA_z0) := rfl; rw [e0]; exact pm1_p0 xs c pmA_z0 pmA_z1 hv hc hx pmA_k1 pmA_l

noncomputable def ppA_hd (s : ByteArray) : Hd := headD Tryd.prog knWordKnownL GTab.none 3000 20 [.val (.string s)] [(0, .b 1), (4, .b 0), (5, .stop)]
noncomputable def ppA_S (s : ByteArray) (y0 : Int) (y1 : Int) : St := ((entryK 4 44 [7, 15, 23, 19, 27, 5, 17, 25, 21, 29, 16, 24, 20, 28, 6, 18, 26, 14, 22] 8 8 (ppA_hd s).s).updF [(2, .int .i64 y0)] [(3, 0, .int .i64 y1)])
theorem ppA_n (s : ByteArray) (hs : 1 ≤ s.size ∧ s.size ≤ 8) : 4 = (ppA_hd s).s.hs.next := by kernel_rfl
theorem ppA_r (s : ByteArray) (hs : 1 ≤ s.size ∧ s.size ≤ 8) : (ppA_hd s).s.hs.rd < bitOf 4 := by
  have e : (ppA_hd s).s.hs.rd = 0 := by kernel_rfl
  rw [e]; exact blt_iff.1 (by kernel_rfl)
theorem ppA_w (s : ByteArray) (hs : 1 ≤ s.size ∧ s.size ≤ 8) : (ppA_hd s).s.hs.wr < bitOf 4 := by
  have e : (ppA_hd s).s.hs.wr = 8 := by kernel_rfl
  rw [e]; exact blt_iff.1 (by kernel_rfl)
theorem ppA_e0 (s : ByteArray) (hs : 1 ≤ s.size ∧ s.size ≤ 8) : canonS 4 44 [] [7, 15, 23, 19, 27, 5, 17, 25, 21, 29, 16, 24, 20, 28, 6, 18, 26, 14, 22] 4 8 8 (ppA_hd s).s = some (ppA_S s ((0 : Int)) (Int.ofNat (nat_lit 0))) := by kernel_rfl
theorem ppA_e1 (s : ByteArray) (hs : 1 ≤ s.size ∧ s.size ≤ 8) : canonOk 4 44 [] 4 (ppA_hd s).s = true := canonOkF_eq.symm.trans (by kernel_rfl)
def ppA_X : Nat → VX
  | 0 => .ret
  | 1 => .exit 0
  | _ => .normal
noncomputable def ppA_E (kE : Nat) (s : ByteArray) (y0 : Int) (y1 : Int) : St := match kE with
  | 0 => ((bodySt (bodyK Tryd.prog (knWordKnownL : Vars).length GTab.none 3000 (ppA_hd s) (ppA_S s y0 y1 ) [(0, .b 1), (2, .b 1), (6, .b 1)] 4 44 [7, 15, 23, 19, 27, 5, 17, 25, 21, 29, 16, 24, 20, 28, 6, 18, 26, 14, 22] 44 8 8)).updF [(2, .int .i64 y0)] [(3, 0, .int .i64 y1)])
  | 1 => ((bodySt (bodyK Tryd.prog (knWordKnownL : Vars).length GTab.none 3000 (ppA_hd s) (ppA_S s y0 y1 ) [(0, .b 0)] 4 44 [7, 15, 23, 19, 27, 5, 17, 25, 21, 29, 16, 24, 20, 28, 6, 18, 26, 14, 22] 44 8 8)).updF [(2, .int .i64 y0)] [(3, 0, .int .i64 y1)])
  | _ => (ppA_hd s).s
noncomputable def ppA_b1 (s : ByteArray) (y0 : Int) (y1 : Int) : Bool := decide (IntKind.i64.wrap (IntKind.i32.wrap ((↑(Utf8.decode s y1.toNat).fst : Int) - (48 : Int))) ≥ (0 : Int))
noncomputable def ppA_b2 (s : ByteArray) (y0 : Int) (y1 : Int) : Bool := !decide (IntKind.i64.wrap (IntKind.i32.wrap ((↑(Utf8.decode s y1.toNat).fst : Int) - (48 : Int))) ≤ (1 : Int))
theorem ppA_p0 (s : ByteArray) (y0 : Int) (y1 : Int) : bodyK Tryd.prog (knWordKnownL : Vars).length GTab.none 3000 (ppA_hd s) (ppA_S s y0 y1 ) [(0, .b 1), (2, .b 1), (6, .b 1)] 4 44 [7, 15, 23, 19, 27, 5, 17, 25, 21, 29, 16, 24, 20, 28, 6, 18, 26, 14, 22] 44 8 8 = some (.ret, ppA_E 0 s ((0 : Int)) (Int.ofNat (y1.toNat + (Utf8.decode s y1.toNat).snd)) , [(ppA_b2 s y0 y1 ) = true, (ppA_b1 s y0 y1 ) = true, (decide (y1.toNat < s.size)) = true]) := by kernel_rfl
theorem ppA_q0 (s : ByteArray) (y0 : Int) (y1 : Int) : (ppA_E 0 s ((0 : Int)) (Int.ofNat (y1.toNat + (Utf8.decode s y1.toNat).snd)) ).hs.next = 44 := by kernel_rfl
theorem ppA_p1 (s : ByteArray) (y0 : Int) (y1 : Int) : bodyK Tryd.prog (knWordKnownL : Vars).length GTab.none 3000 (ppA_hd s) (ppA_S s y0 y1 ) [(0, .b 1), (2, .b 1), (6, .b 0)] 4 44 [7, 15, 23, 19, 27, 5, 17, 25, 21, 29, 16, 24, 20, 28, 6, 18, 26, 14, 22] 4 8 8 = some (.normal, (ppA_S s (IntKind.i64.wrap (↑(BitVec.ofInt (64 : Nat) y0 ||| BitVec.ofInt (64 : Nat) (IntKind.i64.wrap (IntKind.i64.wrap (IntKind.i32.wrap ((↑(Utf8.decode s y1.toNat).fst : Int) - (48 : Int))) * (2 : Int) ^ min (IntKind.u64.wrap (↑y1.toNat : Int)).toNat (64 : Nat)))).toNat : Int)) (Int.ofNat (y1.toNat + (Utf8.decode s y1.toNat).snd))), [(ppA_b2 s y0 y1 ) = false, (ppA_b1 s y0 y1 ) = true, (decide (y1.toNat < s.size)) = true]) := by kernel_rfl
theorem ppA_p2 (s : ByteArray) (y0 : Int) (y1 : Int) : bodyK Tryd.prog (knWordKnownL : Vars).length GTab.none 3000 (ppA_hd s) (ppA_S s y0 y1 ) [(0, .b 1), (2, .b 0)] 4 44 [7, 15, 23, 19, 27, 5, 17, 25, 21, 29, 16, 24, 20, 28, 6, 18, 26, 14, 22] 44 8 8 = some (.ret, ppA_E 0 s ((0 : Int)) (Int.ofNat (y1.toNat + (Utf8.decode s y1.toNat).snd)) , [(ppA_b1 s y0 y1 ) = false, (decide (y1.toNat < s.size)) = true]) := by kernel_rfl
theorem ppA_q2 (s : ByteArray) (y0 : Int) (y1 : Int) : (ppA_E 0 s ((0 : Int)) (Int.ofNat (y1.toNat + (Utf8.decode s y1.toNat).snd)) ).hs.next = 44 := by kernel_rfl
theorem ppA_p3 (s : ByteArray) (y0 : Int) (y1 : Int) : bodyK Tryd.prog (knWordKnownL : Vars).length GTab.none 3000 (ppA_hd s) (ppA_S s y0 y1 ) [(0, .b 0)] 4 44 [7, 15, 23, 19, 27, 5, 17, 25, 21, 29, 16, 24, 20, 28, 6, 18, 26, 14, 22] 44 8 8 = some (.exit 0, ppA_E 1 s (y0) (Int.ofNat y1.toNat) , [(decide (y1.toNat < s.size)) = false]) := by kernel_rfl
theorem ppA_q3 (s : ByteArray) (y0 : Int) (y1 : Int) : (ppA_E 1 s (y0) (Int.ofNat y1.toNat) ).hs.next = 44 := by kernel_rfl
noncomputable def ppA_f (s : ByteArray) : Nat → Int → Int → Option (Nat × (Int × Int))
  | 0, _, _ => none
  | fu + 1, y0, y1 => (bif (decide (0 ≤ y0 ∧ y0 ≤ 255 ∧ 0 ≤ y1 ∧ y1 ≤ 12)) then (bif (decide (y1.toNat < s.size)) then (bif (decide (IntKind.i64.wrap (IntKind.i32.wrap ((↑(Utf8.decode s y1.toNat).fst : Int) - (48 : Int))) ≥ (0 : Int))) then (bif (!decide (IntKind.i64.wrap (IntKind.i32.wrap ((↑(Utf8.decode s y1.toNat).fst : Int) - (48 : Int))) ≤ (1 : Int))) then some (0, (((0 : Int)), (Int.ofNat (y1.toNat + (Utf8.decode s y1.toNat).snd)))) else ppA_f s fu (IntKind.i64.wrap (↑(BitVec.ofInt (64 : Nat) y0 ||| BitVec.ofInt (64 : Nat) (IntKind.i64.wrap (IntKind.i64.wrap (IntKind.i32.wrap ((↑(Utf8.decode s y1.toNat).fst : Int) - (48 : Int))) * (2 : Int) ^ min (IntKind.u64.wrap (↑y1.toNat : Int)).toNat (64 : Nat)))).toNat : Int)) (Int.ofNat (y1.toNat + (Utf8.decode s y1.toNat).snd))) else some (0, (((0 : Int)), (Int.ofNat (y1.toNat + (Utf8.decode s y1.toNat).snd))))) else some (1, ((y0), (Int.ofNat y1.toNat)))) else none)
theorem ppA_fs (s : ByteArray) (fu : Nat) (y0 : Int) (y1 : Int) : ppA_f s (fu + 1) y0 y1 = (bif (decide (0 ≤ y0 ∧ y0 ≤ 255 ∧ 0 ≤ y1 ∧ y1 ≤ 12)) then (bif (decide (y1.toNat < s.size)) then (bif (decide (IntKind.i64.wrap (IntKind.i32.wrap ((↑(Utf8.decode s y1.toNat).fst : Int) - (48 : Int))) ≥ (0 : Int))) then (bif (!decide (IntKind.i64.wrap (IntKind.i32.wrap ((↑(Utf8.decode s y1.toNat).fst : Int) - (48 : Int))) ≤ (1 : Int))) then some (0, (((0 : Int)), (Int.ofNat (y1.toNat + (Utf8.decode s y1.toNat).snd)))) else ppA_f s fu (IntKind.i64.wrap (↑(BitVec.ofInt (64 : Nat) y0 ||| BitVec.ofInt (64 : Nat) (IntKind.i64.wrap (IntKind.i64.wrap (IntKind.i32.wrap ((↑(Utf8.decode s y1.toNat).fst : Int) - (48 : Int))) * (2 : Int) ^ min (IntKind.u64.wrap (↑y1.toNat : Int)).toNat (64 : Nat)))).toNat : Int)) (Int.ofNat (y1.toNat + (Utf8.decode s y1.toNat).snd))) else some (0, (((0 : Int)), (Int.ofNat (y1.toNat + (Utf8.decode s y1.toNat).snd))))) else some (1, ((y0), (Int.ofNat y1.toNat)))) else none) := rfl
theorem ppA_f0 (s : ByteArray) (y0 : Int) (y1 : Int) : ppA_f s 0 y0 y1 = none := rfl
theorem ppA_loop (s : ByteArray) (hs : 1 ≤ s.size ∧ s.size ≤ 8) : ∀ (fu : Nat) (y0 : Int) (y1 : Int) (kk : Nat) (zz : Int × Int), ppA_f s fu y0 y1 = some (kk, zz) → VStep (ppA_hd s).s.hs (ppA_S s y0 y1 ).hs → RoundsC Tryd.prog knWordKnownL 4 44 (ppA_hd s).s.hs (ppA_hd s).ro (ppA_hd s).a (ppA_S s y0 y1 ) (ppA_X kk) (ppA_E kk s zz.1 zz.2 ) ∧ ((ppA_E kk s zz.1 zz.2 )).hs.next = 44 := by
  intro fu
  induction fu with
  | zero =>
    intro y0 y1 kk zz hf hSz
    have hf := (ppA_f0 s y0 y1 ).symm.trans hf
    simp at hf
  | succ fu ih =>
    intro y0 y1 kk zz hf hSz
    have hf := (ppA_fs s fu y0 y1 ).symm.trans hf
    rcases bif_or hf with ⟨hi, hf⟩ | ⟨hi, hf⟩
    case inr => cases hf
    rcases bif_or hf with ⟨hq0, hf⟩ | ⟨hq0, hf⟩
    ·
      rcases bif_or hf with ⟨hq1, hf⟩ | ⟨hq1, hf⟩
      ·
        rcases bif_or hf with ⟨hq2, hf⟩ | ⟨hq2, hf⟩
        ·
          injection hf with hf; injection hf with e1 e2; subst e1; subst e2; have hb1 := ppA_p0 s y0 y1 ; have hb2 := body_canon hb1; have hb3 := hb2 ⟨hq2, hq1, hq0, trivial⟩; obtain ⟨sz1, kz1, kz2, kz3⟩ := hb3; exact ⟨rounds_end mix (T := GTab.none) GOk.none (ppA_n s hs ) (ppA_r s hs ) (ppA_w s hs ) kz1 (fun h => by cases h) hSz kz2 kz3, ppA_q0 s y0 y1 ⟩
        ·
          have hb1 := ppA_p1 s y0 y1 ; have hb2 := body_canon hb1; have hb3 := hb2 ⟨hq2, hq1, hq0, trivial⟩; obtain ⟨sz1, kz1, kz2, kz3⟩ := hb3; obtain ⟨gz1, gz2⟩ := ih (IntKind.i64.wrap (↑(BitVec.ofInt (64 : Nat) y0 ||| BitVec.ofInt (64 : Nat) (IntKind.i64.wrap (IntKind.i64.wrap (IntKind.i32.wrap ((↑(Utf8.decode s y1.toNat).fst : Int) - (48 : Int))) * (2 : Int) ^ min (IntKind.u64.wrap (↑y1.toNat : Int)).toNat (64 : Nat)))).toNat : Int)) (Int.ofNat (y1.toNat + (Utf8.decode s y1.toNat).snd)) kk zz hf (rounds_step mix (T := GTab.none) GOk.none (ppA_n s hs ) (ppA_r s hs ) (ppA_w s hs ) kz1 hSz kz2 kz3); exact ⟨rounds_next mix (T := GTab.none) GOk.none (ppA_n s hs ) (ppA_r s hs ) (ppA_w s hs ) kz1 hSz kz2 kz3 (fun _ => gz1), gz2⟩
      ·
        injection hf with hf; injection hf with e1 e2; subst e1; subst e2; have hb1 := ppA_p2 s y0 y1 ; have hb2 := body_canon hb1; have hb3 := hb2 ⟨hq1, hq0, trivial⟩; obtain ⟨sz1, kz1, kz2, kz3⟩ := hb3; exact ⟨rounds_end mix (T := GTab.none) GOk.none (ppA_n s hs ) (ppA_r s hs ) (ppA_w s hs ) kz1 (fun h => by cases h) hSz kz2 kz3, ppA_q2 s y0 y1 ⟩
    ·
      injection hf with hf; injection hf with e1 e2; subst e1; subst e2; have hb1 := ppA_p3 s y0 y1 ; have hb2 := body_canon hb1; have hb3 := hb2 ⟨hq0, trivial⟩; obtain ⟨sz1, kz1, kz2, kz3⟩ := hb3; exact ⟨rounds_end mix (T := GTab.none) GOk.none (ppA_n s hs ) (ppA_r s hs ) (ppA_w s hs ) kz1 (fun h => by cases h) hSz kz2 kz3, ppA_q3 s y0 y1 ⟩
theorem ppA_ok (s : ByteArray) (hs : 1 ≤ s.size ∧ s.size ≤ 8) (fu kk : Nat) (zz : Int × Int) (hf : ppA_f s fu ((0 : Int)) (Int.ofNat (nat_lit 0)) = some (kk, zz)) : ∀ B : Bd, B.L = knWordKnownL → LoopOk Tryd.prog B (ppA_hd s).ro (ppA_hd s).a (ppA_hd s).s (ppA_X kk) (ppA_E kk s zz.1 zz.2 ) := by
  have hSz := begin_step (ppA_n s hs ) (ppA_r s hs ) (ppA_w s hs ) (ppA_e0 s hs ) (ppA_e1 s hs )
  obtain ⟨gz1, gz2⟩ := ppA_loop s hs fu ((0 : Int)) (Int.ofNat (nat_lit 0)) kk zz hf hSz
  exact rounds_ok (ppA_n s hs ) (Nat.le_of_ble_eq_true (by kernel_rfl)) gz2 (rounds_begin (ppA_n s hs ) (ppA_r s hs ) (ppA_w s hs ) (ppA_e0 s hs ) (ppA_e1 s hs ) (fun _ => gz1))

noncomputable def pp1_c0 (s : ByteArray) (ppA_z0 : Int) (ppA_z1 : Int)  : Int := (ppA_z0)
noncomputable def pp1_c1 (s : ByteArray) (ppA_z0 : Int) (ppA_z1 : Int)  : Int := ((↑s.size : Int))
theorem pp1_p0 (s : ByteArray) (ppA_z0 : Int) (ppA_z1 : Int)  (hs : 1 ≤ s.size ∧ s.size ≤ 8) (ppA_k0 : (decide ((↑s.size : Int) ≥ (1 : Int))) = true) (ppA_k4 : (!decide ((↑s.size : Int) ≤ (8 : Int))) = false) (ppA_l : ∀ B : Bd, B.L = knWordKnownL → LoopOk Tryd.prog B (ppA_hd s).ro (ppA_hd s).a (ppA_hd s).s (ppA_X 1) (ppA_E 1 s ppA_z0 ppA_z1 )) : KnownR Tryd.prog knWordKnownL 20 [.val (.string s)] (.tuple #[(.int .i64 (ppA_z0)), (.int .i64 ((↑s.size : Int))), (.int .i64 ((0 : Int)))]) [] :=
  knownR_eq (v := Value.tuple { toList := [Value.int IntKind.i64 ppA_z0, Value.int IntKind.i64 (↑s.size : Int), Value.int IntKind.i64 (0 : Int)] }) (bs := []) (open_resD mix (GOk.add GOk.none ppA_l) (T := (GTab.add GTab.none 5 (ppA_hd s).ro (ppA_hd s).a (ppA_hd s).s (ppA_X 1) (ppA_E 1 s ppA_z0 ppA_z1 ) (by kernel_rfl))) (fuel := 3000) (es := []) (ans := [(0, .b 1), (4, .b 0), (5, .loop (ppA_X 1) (ppA_E 1 s ppA_z0 ppA_z1 )), ]) (log := [LoopRes Tryd.prog (knWordKnownL : Vars).length (GTab.add GTab.none 5 (ppA_hd s).ro (ppA_hd s).a (ppA_hd s).s (ppA_X 1) (ppA_E 1 s ppA_z0 ppA_z1 ) (by kernel_rfl)) (ppA_hd s).ro (ppA_hd s).a (ppA_hd s).s (ppA_X 1) (ppA_E 1 s ppA_z0 ppA_z1 ), (!decide ((↑s.size : Int) ≤ (8 : Int))) = false, (decide ((↑s.size : Int) ≥ (1 : Int))) = true]) (by kernel_rfl) ⟨(loop_known2 add_eq), ppA_k4, ppA_k0, trivial⟩ (by kernel_rfl)) (by first | rfl | (simp; done) | (simp_all; done)) (by first | rfl | (simp [rowA_nil]; done) | (simp only [rowA_eq]; rfl) | (simp_all [rowA_nil]; done))
set_option maxHeartbeats 8000000 in
theorem pp1 (s : ByteArray) (ppA_z0 : Int) (ppA_z1 : Int)  (hs : 1 ≤ s.size ∧ s.size ≤ 8) (ppA_k0 : (decide ((↑s.size : Int) ≥ (1 : Int))) = true) (ppA_k4 : (!decide ((↑s.size : Int) ≤ (8 : Int))) = false) (ppA_l : ∀ B : Bd, B.L = knWordKnownL → LoopOk Tryd.prog B (ppA_hd s).ro (ppA_hd s).a (ppA_hd s).s (ppA_X 1) (ppA_E 1 s ppA_z0 ppA_z1 )) : KnownR Tryd.prog knWordKnownL 20 [.val (.string s)] (.tuple #[(.int .i64 (pp1_c0 s ppA_z0 ppA_z1)), (.int .i64 (pp1_c1 s ppA_z0 ppA_z1)), (.int .i64 ((0 : Int)))]) [] := by
  have e0 : pp1_c0 s ppA_z0 ppA_z1 = (ppA_z0) := rfl; rw [e0]; have e1 : pp1_c1 s ppA_z0 ppA_z1 = ((↑s.size : Int)) := rfl; rw [e1]; exact pp1_p0 s ppA_z0 ppA_z1 hs ppA_k0 ppA_k4 ppA_l

end Go.Proofs.YtfpabkpmcmfbhaaDoor
