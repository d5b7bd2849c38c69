/- Layer 33: lists: light, copies, compared. -/
import Derived.Test.YtfpabkpmcmfbhaaOgA
import Derived.ProofKit
import Derived.IntWalk
namespace Go.Proofs.Ytfpabkpmcmfbhaa
open Go Go.RowKit
set_option linter.unusedVariables false
set_option linter.unusedSimpArgs false
set_option linter.unnecessarySimpa false
set_option maxHeartbeats 8000000
set_option maxRecDepth 100000
noncomputable def ltA_hd (ld : List Int) (es : List En) : Hd := headD Try.prog [] GTab.none 3000 8 [.list (rowA gI ld) ld.length, .list (rowA gE es) es.length] [(0, .b 0), (4, .b 0), (14, .b 0), (15, .stop)]
noncomputable def ltA_S (ld : List Int) (es : List En) (y0 : Int) : St := ((entryK 2 42 [31, 35, 27, 33, 25, 29, 32, 24, 36, 28, 34, 26, 30] 2 0 (ltA_hd ld es).s).updF [(5, .int .i64 y0)] [])
theorem ltA_n (ld : List Int) (es : List En) (h1 : (ld.length : Int) ≤ 12) (h2 : (es.length : Int) ≤ 60) : 2 = (ltA_hd ld es).s.hs.next := by kernel_rfl
theorem ltA_r (ld : List Int) (es : List En) (h1 : (ld.length : Int) ≤ 12) (h2 : (es.length : Int) ≤ 60) : (ltA_hd ld es).s.hs.rd < bitOf 2 := by
  have e : (ltA_hd ld es).s.hs.rd = 0 := by kernel_rfl
  rw [e]; exact blt_iff.1 (by kernel_rfl)
theorem ltA_w (ld : List Int) (es : List En) (h1 : (ld.length : Int) ≤ 12) (h2 : (es.length : Int) ≤ 60) : (ltA_hd ld es).s.hs.wr < bitOf 2 := by
  have e : (ltA_hd ld es).s.hs.wr = 0 := by kernel_rfl
  rw [e]; exact blt_iff.1 (by kernel_rfl)
theorem ltA_e0 (ld : List Int) (es : List En) (h1 : (ld.length : Int) ≤ 12) (h2 : (es.length : Int) ≤ 60) : canonS 2 42 [] [31, 35, 27, 33, 25, 29, 32, 24, 36, 28, 34, 26, 30] 2 2 0 (ltA_hd ld es).s = some (ltA_S ld es ((0 : Int))) := by kernel_rfl
theorem ltA_e1 (ld : List Int) (es : List En) (h1 : (ld.length : Int) ≤ 12) (h2 : (es.length : Int) ≤ 60) : canonOk 2 42 [] 2 (ltA_hd ld es).s = true := canonOkF_eq.symm.trans (by kernel_rfl)
def ltA_X : Nat → VX
  | 0 => .ret
  | 1 => .exit 0
  | _ => .normal
noncomputable def ltA_E (kE : Nat) (ld : List Int) (es : List En) (y0 : Int) : St := match kE with
  | 0 => ((bodySt (bodyK Try.prog ([] : Vars).length GTab.none 3000 (ltA_hd ld es) (ltA_S ld es y0 ) [(0, .b 1), (1, .b 1), (2, .b 1), (3, .vals ([Value.string (el es y0).snd.snd.snd.fst])), (4, .b 1)] 2 42 [31, 35, 27, 33, 25, 29, 32, 24, 36, 28, 34, 26, 30] 42 2 0)).updF [(5, .int .i64 y0)] [])
  | 1 => ((bodySt (bodyK Try.prog ([] : Vars).length GTab.none 3000 (ltA_hd ld es) (ltA_S ld es y0 ) [(0, .b 0)] 2 42 [31, 35, 27, 33, 25, 29, 32, 24, 36, 28, 34, 26, 30] 42 2 0)).updF [(5, .int .i64 y0)] [])
  | _ => (ltA_hd ld es).s
theorem ltA_p0 (ld : List Int) (es : List En) (y0 : Int) : bodyK Try.prog ([] : Vars).length GTab.none 3000 (ltA_hd ld es) (ltA_S ld es y0 ) [(0, .b 1), (1, .b 1), (2, .b 1), (3, .vals ([Value.string (el es y0).snd.snd.snd.fst])), (4, .b 1)] 2 42 [31, 35, 27, 33, 25, 29, 32, 24, 36, 28, 34, 26, 30] 42 2 0 = some (.ret, ltA_E 0 ld es (y0), [(decide ((↑(el es y0).snd.snd.snd.fst.size : Int) > (100 : Int))) = true, segC (rowA (gE) (es)) (((y0).toNat) * 7 + 3) 1 = some ([Value.string (el es y0).snd.snd.snd.fst]), (decide (y0 < (↑es.length : Int))) = true, (decide ((0 : Int) ≤ y0)) = true, (decide (y0 < (↑es.length : Int))) = true]) := by kernel_rfl
theorem ltA_q0 (ld : List Int) (es : List En) (y0 : Int) : (ltA_E 0 ld es (y0)).hs.next = 42 := by kernel_rfl
theorem ltA_p1 (ld : List Int) (es : List En) (y0 : Int) : bodyK Try.prog ([] : Vars).length GTab.none 3000 (ltA_hd ld es) (ltA_S ld es y0 ) [(0, .b 1), (1, .b 1), (2, .b 1), (3, .vals ([Value.string (el es y0).snd.snd.snd.fst])), (4, .b 0)] 2 42 [31, 35, 27, 33, 25, 29, 32, 24, 36, 28, 34, 26, 30] 2 2 0 = some (.normal, (ltA_S ld es (IntKind.i64.wrap (y0 + (1 : Int)))), [(decide ((↑(el es y0).snd.snd.snd.fst.size : Int) > (100 : Int))) = false, segC (rowA (gE) (es)) (((y0).toNat) * 7 + 3) 1 = some ([Value.string (el es y0).snd.snd.snd.fst]), (decide (y0 < (↑es.length : Int))) = true, (decide ((0 : Int) ≤ y0)) = true, (decide (y0 < (↑es.length : Int))) = true]) := by kernel_rfl
theorem ltA_p2 (ld : List Int) (es : List En) (y0 : Int) : bodyK Try.prog ([] : Vars).length GTab.none 3000 (ltA_hd ld es) (ltA_S ld es y0 ) [(0, .b 0)] 2 42 [31, 35, 27, 33, 25, 29, 32, 24, 36, 28, 34, 26, 30] 42 2 0 = some (.exit 0, ltA_E 1 ld es (y0), [(decide (y0 < (↑es.length : Int))) = false]) := by kernel_rfl
theorem ltA_q2 (ld : List Int) (es : List En) (y0 : Int) : (ltA_E 1 ld es (y0)).hs.next = 42 := by kernel_rfl
theorem ltA_d0 (ld : List Int) (es : List En) (h1 : (ld.length : Int) ≤ 12) (h2 : (es.length : Int) ≤ 60) (y0 : Int) (hi : (decide (0 ≤ y0 ∧ y0 ≤ (es.length : Int))) = true) (hq0 : (decide (y0 < (↑es.length : Int))) = true) : (decide ((0 : Int) ≤ y0)) = true := by
  rcases Bool.eq_false_or_eq_true (decide ((0 : Int) ≤ y0)) with h | h
  · exact h
  · exfalso; (first | (simp_all only [Bool.and_eq_true, Bool.not_eq_true', Bool.false_eq_true, Bool.true_eq_false, reduceCtorEq]; done) | (simp only [sx, sy, eq_self, ne_eq, IntKind.wrap_i64, wrapU64, Int.reduceLT] at * <;> first | contradiction | omega) | omega | ((try simp only [sx, sy, eq_self, ne_eq, IntKind.wrap_i64, wrapU64, Int.reduceLT] at *) <;> omega) | (simp_all; done))
noncomputable def ltA_f (ld : List Int) (es : List En) : Nat → Int → Option (Nat × (Int))
  | 0, _ => none
  | fu + 1, y0 => (bif (decide (0 ≤ y0 ∧ y0 ≤ (es.length : Int))) then (bif (decide (y0 < (↑es.length : Int))) then (bif (decide ((↑(el es y0).snd.snd.snd.fst.size : Int) > (100 : Int))) then some (0, (y0)) else ltA_f ld es fu (IntKind.i64.wrap (y0 + (1 : Int)))) else some (1, (y0))) else none)
theorem ltA_fs (ld : List Int) (es : List En) (fu : Nat) (y0 : Int) : ltA_f ld es (fu + 1) y0 = (bif (decide (0 ≤ y0 ∧ y0 ≤ (es.length : Int))) then (bif (decide (y0 < (↑es.length : Int))) then (bif (decide ((↑(el es y0).snd.snd.snd.fst.size : Int) > (100 : Int))) then some (0, (y0)) else ltA_f ld es fu (IntKind.i64.wrap (y0 + (1 : Int)))) else some (1, (y0))) else none) := rfl
theorem ltA_f0 (ld : List Int) (es : List En) (y0 : Int) : ltA_f ld es 0 y0 = none := rfl
theorem ltA_loop (ld : List Int) (es : List En) (h1 : (ld.length : Int) ≤ 12) (h2 : (es.length : Int) ≤ 60) : ∀ (fu : Nat) (y0 : Int) (kk : Nat) (zz : Int), ltA_f ld es fu y0 = some (kk, zz) → VStep (ltA_hd ld es).s.hs (ltA_S ld es y0 ).hs → RoundsC Try.prog [] 2 42 (ltA_hd ld es).s.hs (ltA_hd ld es).ro (ltA_hd ld es).a (ltA_S ld es y0 ) (ltA_X kk) (ltA_E kk ld es zz ) ∧ ((ltA_E kk ld es zz )).hs.next = 42 := by
  intro fu
  induction fu with
  | zero =>
    intro y0 kk zz hf hSz
    have hf := (ltA_f0 ld es y0 ).symm.trans hf
    simp at hf
  | succ fu ih =>
    intro y0 kk zz hf hSz
    have hf := (ltA_fs ld es fu y0 ).symm.trans hf
    rcases bif_or hf with ⟨hi, hf⟩ | ⟨hi, hf⟩
    case inr => cases hf
    rcases bif_or hf with ⟨hq0, hf⟩ | ⟨hq0, hf⟩
    ·
      have hq1 := ltA_d0 ld es h1 h2 y0 hi hq0 
      rcases bif_or hf with ⟨hq2, hf⟩ | ⟨hq2, hf⟩
      ·
        injection hf with hf; injection hf with e1 e2; subst e1; subst e2; have hb1 := ltA_p0 ld es y0 ; have hb2 := body_canon hb1; have hb3 := hb2 ⟨hq2, (seg_row (g := (gE)) (k := 7) (fun _ => rfl) (by first | exact of_decide_eq_true hq1 | simpa using of_decide_eq_true hq1) (by first | exact of_decide_eq_true hq0 | (simpa using of_decide_eq_true hq0; done) | (have hx1 := of_decide_eq_true hq0; have hx2 := of_decide_eq_true hi; simp only [List.length_reverse, List.length_set] at *; omega)) (by decide) rfl), hq0, hq1, hq0, trivial⟩; obtain ⟨sz1, kz1, kz2, kz3⟩ := hb3; exact ⟨rounds_end mix (T := GTab.none) GOk.none (ltA_n ld es h1 h2 ) (ltA_r ld es h1 h2 ) (ltA_w ld es h1 h2 ) kz1 (fun h => by cases h) hSz kz2 kz3, ltA_q0 ld es y0 ⟩
      ·
        have hb1 := ltA_p1 ld es y0 ; have hb2 := body_canon hb1; have hb3 := hb2 ⟨hq2, (seg_row (g := (gE)) (k := 7) (fun _ => rfl) (by first | exact of_decide_eq_true hq1 | simpa using of_decide_eq_true hq1) (by first | exact of_decide_eq_true hq0 | (simpa using of_decide_eq_true hq0; done) | (have hx1 := of_decide_eq_true hq0; have hx2 := of_decide_eq_true hi; simp only [List.length_reverse, List.length_set] at *; omega)) (by decide) rfl), hq0, hq1, hq0, trivial⟩; obtain ⟨sz1, kz1, kz2, kz3⟩ := hb3; obtain ⟨gz1, gz2⟩ := ih (IntKind.i64.wrap (y0 + (1 : Int))) kk zz hf (rounds_step mix (T := GTab.none) GOk.none (ltA_n ld es h1 h2 ) (ltA_r ld es h1 h2 ) (ltA_w ld es h1 h2 ) kz1 hSz kz2 kz3); exact ⟨rounds_next mix (T := GTab.none) GOk.none (ltA_n ld es h1 h2 ) (ltA_r ld es h1 h2 ) (ltA_w ld es h1 h2 ) kz1 hSz kz2 kz3 (fun _ => gz1), gz2⟩
    ·
      injection hf with hf; injection hf with e1 e2; subst e1; subst e2; have hb1 := ltA_p2 ld es y0 ; have hb2 := body_canon hb1; have hb3 := hb2 ⟨hq0, trivial⟩; obtain ⟨sz1, kz1, kz2, kz3⟩ := hb3; exact ⟨rounds_end mix (T := GTab.none) GOk.none (ltA_n ld es h1 h2 ) (ltA_r ld es h1 h2 ) (ltA_w ld es h1 h2 ) kz1 (fun h => by cases h) hSz kz2 kz3, ltA_q2 ld es y0 ⟩
theorem ltA_ok (ld : List Int) (es : List En) (h1 : (ld.length : Int) ≤ 12) (h2 : (es.length : Int) ≤ 60) (fu kk : Nat) (zz : Int) (hf : ltA_f ld es fu ((0 : Int)) = some (kk, zz)) : ∀ B : Bd, B.L = [] → LoopOk Try.prog B (ltA_hd ld es).ro (ltA_hd ld es).a (ltA_hd ld es).s (ltA_X kk) (ltA_E kk ld es zz ) := by
  have hSz := begin_step (ltA_n ld es h1 h2 ) (ltA_r ld es h1 h2 ) (ltA_w ld es h1 h2 ) (ltA_e0 ld es h1 h2 ) (ltA_e1 ld es h1 h2 )
  obtain ⟨gz1, gz2⟩ := ltA_loop ld es h1 h2 fu ((0 : Int)) kk zz hf hSz
  exact rounds_ok (ltA_n ld es h1 h2 ) (Nat.le_of_ble_eq_true (by kernel_rfl)) gz2 (rounds_begin (ltA_n ld es h1 h2 ) (ltA_r ld es h1 h2 ) (ltA_w ld es h1 h2 ) (ltA_e0 ld es h1 h2 ) (ltA_e1 ld es h1 h2 ) (fun _ => gz1))

theorem lt0_p0 (ld : List Int) (es : List En) (ltA_z0 : Int)  (h1 : (ld.length : Int) ≤ 12) (h2 : (es.length : Int) ≤ 60) (ltA_k0 : (decide ((↑ld.length : Int) > (12 : Int))) = false) (ltA_k4 : (decide ((↑es.length : Int) > (60 : Int))) = false) (ltA_k14 : (decide ((↑es.length : Int) > (2010 : Int))) = false) (ltA_l : ∀ B : Bd, B.L = [] → LoopOk Try.prog B (ltA_hd ld es).ro (ltA_hd ld es).a (ltA_hd ld es).s (ltA_X 0) (ltA_E 0 ld es ltA_z0 )) : KnownR Try.prog [] 8 [.list (rowA gI ld) ld.length, .list (rowA gE es) es.length] (.bool (false)) [] :=
  knownR_eq (v := Value.bool false) (bs := []) (open_resD mix (GOk.add GOk.none ltA_l) (T := (GTab.add GTab.none 5 (ltA_hd ld es).ro (ltA_hd ld es).a (ltA_hd ld es).s (ltA_X 0) (ltA_E 0 ld es ltA_z0 ) (by kernel_rfl))) (fuel := 3000) (es := []) (ans := [(0, .b 0), (4, .b 0), (14, .b 0), (15, .loop (ltA_X 0) (ltA_E 0 ld es ltA_z0 )), ]) (log := [LoopRes Try.prog ([] : Vars).length (GTab.add GTab.none 5 (ltA_hd ld es).ro (ltA_hd ld es).a (ltA_hd ld es).s (ltA_X 0) (ltA_E 0 ld es ltA_z0 ) (by kernel_rfl)) (ltA_hd ld es).ro (ltA_hd ld es).a (ltA_hd ld es).s (ltA_X 0) (ltA_E 0 ld es ltA_z0 ), (decide ((↑es.length : Int) > (2010 : Int))) = false, (decide ((↑es.length : Int) > (60 : Int))) = false, (decide ((↑ld.length : Int) > (12 : Int))) = false]) (by kernel_rfl) ⟨(loop_known2 add_eq), ltA_k14, ltA_k4, ltA_k0, trivial⟩ (by kernel_rfl)) (by first | rfl | (simp; done) | (simp_all; done)) (by first | rfl | (simp [rowA_nil]; done) | (simp only [rowA_eq]; rfl) | (simp_all [rowA_nil]; done))
set_option maxHeartbeats 8000000 in
theorem lt0 (ld : List Int) (es : List En) (ltA_z0 : Int)  (h1 : (ld.length : Int) ≤ 12) (h2 : (es.length : Int) ≤ 60) (ltA_k0 : (decide ((↑ld.length : Int) > (12 : Int))) = false) (ltA_k4 : (decide ((↑es.length : Int) > (60 : Int))) = false) (ltA_k14 : (decide ((↑es.length : Int) > (2010 : Int))) = false) (ltA_l : ∀ B : Bd, B.L = [] → LoopOk Try.prog B (ltA_hd ld es).ro (ltA_hd ld es).a (ltA_hd ld es).s (ltA_X 0) (ltA_E 0 ld es ltA_z0 )) : KnownR Try.prog [] 8 [.list (rowA gI ld) ld.length, .list (rowA gE es) es.length] (.bool (false)) [] := by
  exact lt0_p0 ld es ltA_z0 h1 h2 ltA_k0 ltA_k4 ltA_k14 ltA_l

theorem lt1_p0 (ld : List Int) (es : List En) (ltA_z0 : Int)  (h1 : (ld.length : Int) ≤ 12) (h2 : (es.length : Int) ≤ 60) (ltA_k0 : (decide ((↑ld.length : Int) > (12 : Int))) = false) (ltA_k4 : (decide ((↑es.length : Int) > (60 : Int))) = false) (ltA_k14 : (decide ((↑es.length : Int) > (2010 : Int))) = false) (ltA_l : ∀ B : Bd, B.L = [] → LoopOk Try.prog B (ltA_hd ld es).ro (ltA_hd ld es).a (ltA_hd ld es).s (ltA_X 1) (ltA_E 1 ld es ltA_z0 )) : KnownR Try.prog [] 8 [.list (rowA gI ld) ld.length, .list (rowA gE es) es.length] (.bool (true)) [] :=
  knownR_eq (v := Value.bool true) (bs := []) (open_resD mix (GOk.add GOk.none ltA_l) (T := (GTab.add GTab.none 5 (ltA_hd ld es).ro (ltA_hd ld es).a (ltA_hd ld es).s (ltA_X 1) (ltA_E 1 ld es ltA_z0 ) (by kernel_rfl))) (fuel := 3000) (es := []) (ans := [(0, .b 0), (4, .b 0), (14, .b 0), (15, .loop (ltA_X 1) (ltA_E 1 ld es ltA_z0 )), ]) (log := [LoopRes Try.prog ([] : Vars).length (GTab.add GTab.none 5 (ltA_hd ld es).ro (ltA_hd ld es).a (ltA_hd ld es).s (ltA_X 1) (ltA_E 1 ld es ltA_z0 ) (by kernel_rfl)) (ltA_hd ld es).ro (ltA_hd ld es).a (ltA_hd ld es).s (ltA_X 1) (ltA_E 1 ld es ltA_z0 ), (decide ((↑es.length : Int) > (2010 : Int))) = false, (decide ((↑es.length : Int) > (60 : Int))) = false, (decide ((↑ld.length : Int) > (12 : Int))) = false]) (by kernel_rfl) ⟨(loop_known2 add_eq), ltA_k14, ltA_k4, ltA_k0, trivial⟩ (by kernel_rfl)) (by first | rfl | (simp; done) | (simp_all; done)) (by first | rfl | (simp [rowA_nil]; done) | (simp only [rowA_eq]; rfl) | (simp_all [rowA_nil]; done))
set_option maxHeartbeats 8000000 in
theorem lt1 (ld : List Int) (es : List En) (ltA_z0 : Int)  (h1 : (ld.length : Int) ≤ 12) (h2 : (es.length : Int) ≤ 60) (ltA_k0 : (decide ((↑ld.length : Int) > (12 : Int))) = false) (ltA_k4 : (decide ((↑es.length : Int) > (60 : Int))) = false) (ltA_k14 : (decide ((↑es.length : Int) > (2010 : Int))) = false) (ltA_l : ∀ B : Bd, B.L = [] → LoopOk Try.prog B (ltA_hd ld es).ro (ltA_hd ld es).a (ltA_hd ld es).s (ltA_X 1) (ltA_E 1 ld es ltA_z0 )) : KnownR Try.prog [] 8 [.list (rowA gI ld) ld.length, .list (rowA gE es) es.length] (.bool (true)) [] := by
  exact lt1_p0 ld es ltA_z0 h1 h2 ltA_k0 ltA_k4 ltA_k14 ltA_l

noncomputable def luA_hd (ld : List Int) (es : List En) : Hd := headD Try.prog [] GTab.none 3000 8 [.list (rowA gI ld) ld.length, .list (rowA gE es) es.length] [(0, .b 0), (4, .b 1), (10, .b 0), (14, .b 0), (15, .stop)]
noncomputable def luA_S (ld : List Int) (es : List En) (y0 : Int) : St := ((entryK 2 42 [31, 35, 27, 33, 25, 29, 32, 24, 36, 28, 34, 26, 30] 2 0 (luA_hd ld es).s).updF [(5, .int .i64 y0)] [])
theorem luA_n (ld : List Int) (es : List En) (h1 : (ld.length : Int) ≤ 12) (h2 : 2000 < (es.length : Int) ∧ (es.length : Int) ≤ 2010) : 2 = (luA_hd ld es).s.hs.next := by kernel_rfl
theorem luA_r (ld : List Int) (es : List En) (h1 : (ld.length : Int) ≤ 12) (h2 : 2000 < (es.length : Int) ∧ (es.length : Int) ≤ 2010) : (luA_hd ld es).s.hs.rd < bitOf 2 := by
  have e : (luA_hd ld es).s.hs.rd = 0 := by kernel_rfl
  rw [e]; exact blt_iff.1 (by kernel_rfl)
theorem luA_w (ld : List Int) (es : List En) (h1 : (ld.length : Int) ≤ 12) (h2 : 2000 < (es.length : Int) ∧ (es.length : Int) ≤ 2010) : (luA_hd ld es).s.hs.wr < bitOf 2 := by
  have e : (luA_hd ld es).s.hs.wr = 0 := by kernel_rfl
  rw [e]; exact blt_iff.1 (by kernel_rfl)
theorem luA_e0 (ld : List Int) (es : List En) (h1 : (ld.length : Int) ≤ 12) (h2 : 2000 < (es.length : Int) ∧ (es.length : Int) ≤ 2010) : canonS 2 42 [] [31, 35, 27, 33, 25, 29, 32, 24, 36, 28, 34, 26, 30] 2 2 0 (luA_hd ld es).s = some (luA_S ld es ((0 : Int))) := by kernel_rfl
theorem luA_e1 (ld : List Int) (es : List En) (h1 : (ld.length : Int) ≤ 12) (h2 : 2000 < (es.length : Int) ∧ (es.length : Int) ≤ 2010) : canonOk 2 42 [] 2 (luA_hd ld es).s = true := canonOkF_eq.symm.trans (by kernel_rfl)
def luA_X : Nat → VX
  | 0 => .ret
  | 1 => .exit 0
  | _ => .normal
noncomputable def luA_E (kE : Nat) (ld : List Int) (es : List En) (y0 : Int) : St := match kE with
  | 0 => ((bodySt (bodyK Try.prog ([] : Vars).length GTab.none 3000 (luA_hd ld es) (luA_S ld es y0 ) [(0, .b 1), (1, .b 1), (2, .b 1), (3, .vals ([Value.string (el es y0).snd.snd.snd.fst])), (4, .b 1)] 2 42 [31, 35, 27, 33, 25, 29, 32, 24, 36, 28, 34, 26, 30] 42 2 0)).updF [(5, .int .i64 y0)] [])
  | 1 => ((bodySt (bodyK Try.prog ([] : Vars).length GTab.none 3000 (luA_hd ld es) (luA_S ld es y0 ) [(0, .b 0)] 2 42 [31, 35, 27, 33, 25, 29, 32, 24, 36, 28, 34, 26, 30] 42 2 0)).updF [(5, .int .i64 y0)] [])
  | _ => (luA_hd ld es).s
theorem luA_p0 (ld : List Int) (es : List En) (y0 : Int) : bodyK Try.prog ([] : Vars).length GTab.none 3000 (luA_hd ld es) (luA_S ld es y0 ) [(0, .b 1), (1, .b 1), (2, .b 1), (3, .vals ([Value.string (el es y0).snd.snd.snd.fst])), (4, .b 1)] 2 42 [31, 35, 27, 33, 25, 29, 32, 24, 36, 28, 34, 26, 30] 42 2 0 = some (.ret, luA_E 0 ld es (y0), [(decide ((↑(el es y0).snd.snd.snd.fst.size : Int) > (100 : Int))) = true, segC (rowA (gE) (es)) (((y0).toNat) * 7 + 3) 1 = some ([Value.string (el es y0).snd.snd.snd.fst]), (decide (y0 < (↑es.length : Int))) = true, (decide ((0 : Int) ≤ y0)) = true, (decide (y0 < (↑es.length : Int))) = true]) := by kernel_rfl
theorem luA_q0 (ld : List Int) (es : List En) (y0 : Int) : (luA_E 0 ld es (y0)).hs.next = 42 := by kernel_rfl
theorem luA_p1 (ld : List Int) (es : List En) (y0 : Int) : bodyK Try.prog ([] : Vars).length GTab.none 3000 (luA_hd ld es) (luA_S ld es y0 ) [(0, .b 1), (1, .b 1), (2, .b 1), (3, .vals ([Value.string (el es y0).snd.snd.snd.fst])), (4, .b 0)] 2 42 [31, 35, 27, 33, 25, 29, 32, 24, 36, 28, 34, 26, 30] 2 2 0 = some (.normal, (luA_S ld es (IntKind.i64.wrap (y0 + (1 : Int)))), [(decide ((↑(el es y0).snd.snd.snd.fst.size : Int) > (100 : Int))) = false, segC (rowA (gE) (es)) (((y0).toNat) * 7 + 3) 1 = some ([Value.string (el es y0).snd.snd.snd.fst]), (decide (y0 < (↑es.length : Int))) = true, (decide ((0 : Int) ≤ y0)) = true, (decide (y0 < (↑es.length : Int))) = true]) := by kernel_rfl
theorem luA_p2 (ld : List Int) (es : List En) (y0 : Int) : bodyK Try.prog ([] : Vars).length GTab.none 3000 (luA_hd ld es) (luA_S ld es y0 ) [(0, .b 0)] 2 42 [31, 35, 27, 33, 25, 29, 32, 24, 36, 28, 34, 26, 30] 42 2 0 = some (.exit 0, luA_E 1 ld es (y0), [(decide (y0 < (↑es.length : Int))) = false]) := by kernel_rfl
theorem luA_q2 (ld : List Int) (es : List En) (y0 : Int) : (luA_E 1 ld es (y0)).hs.next = 42 := by kernel_rfl
theorem luA_d0 (ld : List Int) (es : List En) (h1 : (ld.length : Int) ≤ 12) (h2 : 2000 < (es.length : Int) ∧ (es.length : Int) ≤ 2010) (y0 : Int) (hi : (decide (0 ≤ y0 ∧ y0 ≤ (es.length : Int))) = true) (hq0 : (decide (y0 < (↑es.length : Int))) = true) : (decide ((0 : Int) ≤ y0)) = true := by
  rcases Bool.eq_false_or_eq_true (decide ((0 : Int) ≤ y0)) with h | h
  · exact h
  · exfalso; (first | (simp_all only [Bool.and_eq_true, Bool.not_eq_true', Bool.false_eq_true, Bool.true_eq_false, reduceCtorEq]; done) | (simp only [sx, sy, eq_self, ne_eq, IntKind.wrap_i64, wrapU64, Int.reduceLT] at * <;> first | contradiction | omega) | omega | ((try simp only [sx, sy, eq_self, ne_eq, IntKind.wrap_i64, wrapU64, Int.reduceLT] at *) <;> omega) | (simp_all; done))
noncomputable def luA_f (ld : List Int) (es : List En) : Nat → Int → Option (Nat × (Int))
  | 0, _ => none
  | fu + 1, y0 => (bif (decide (0 ≤ y0 ∧ y0 ≤ (es.length : Int))) then (bif (decide (y0 < (↑es.length : Int))) then (bif (decide ((↑(el es y0).snd.snd.snd.fst.size : Int) > (100 : Int))) then some (0, (y0)) else luA_f ld es fu (IntKind.i64.wrap (y0 + (1 : Int)))) else some (1, (y0))) else none)
theorem luA_fs (ld : List Int) (es : List En) (fu : Nat) (y0 : Int) : luA_f ld es (fu + 1) y0 = (bif (decide (0 ≤ y0 ∧ y0 ≤ (es.length : Int))) then (bif (decide (y0 < (↑es.length : Int))) then (bif (decide ((↑(el es y0).snd.snd.snd.fst.size : Int) > (100 : Int))) then some (0, (y0)) else luA_f ld es fu (IntKind.i64.wrap (y0 + (1 : Int)))) else some (1, (y0))) else none) := rfl
theorem luA_f0 (ld : List Int) (es : List En) (y0 : Int) : luA_f ld es 0 y0 = none := rfl
theorem luA_loop (ld : List Int) (es : List En) (h1 : (ld.length : Int) ≤ 12) (h2 : 2000 < (es.length : Int) ∧ (es.length : Int) ≤ 2010) : ∀ (fu : Nat) (y0 : Int) (kk : Nat) (zz : Int), luA_f ld es fu y0 = some (kk, zz) → VStep (luA_hd ld es).s.hs (luA_S ld es y0 ).hs → RoundsC Try.prog [] 2 42 (luA_hd ld es).s.hs (luA_hd ld es).ro (luA_hd ld es).a (luA_S ld es y0 ) (luA_X kk) (luA_E kk ld es zz ) ∧ ((luA_E kk ld es zz )).hs.next = 42 := by
  intro fu
  induction fu with
  | zero =>
    intro y0 kk zz hf hSz
    have hf := (luA_f0 ld es y0 ).symm.trans hf
    simp at hf
  | succ fu ih =>
    intro y0 kk zz hf hSz
    have hf := (luA_fs ld es fu y0 ).symm.trans hf
    rcases bif_or hf with ⟨hi, hf⟩ | ⟨hi, hf⟩
    case inr => cases hf
    rcases bif_or hf with ⟨hq0, hf⟩ | ⟨hq0, hf⟩
    ·
      have hq1 := luA_d0 ld es h1 h2 y0 hi hq0 
      rcases bif_or hf with ⟨hq2, hf⟩ | ⟨hq2, hf⟩
      ·
        injection hf with hf; injection hf with e1 e2; subst e1; subst e2; have hb1 := luA_p0 ld es y0 ; have hb2 := body_canon hb1; have hb3 := hb2 ⟨hq2, (seg_row (g := (gE)) (k := 7) (fun _ => rfl) (by first | exact of_decide_eq_true hq1 | simpa using of_decide_eq_true hq1) (by first | exact of_decide_eq_true hq0 | (simpa using of_decide_eq_true hq0; done) | (have hx1 := of_decide_eq_true hq0; have hx2 := of_decide_eq_true hi; simp only [List.length_reverse, List.length_set] at *; omega)) (by decide) rfl), hq0, hq1, hq0, trivial⟩; obtain ⟨sz1, kz1, kz2, kz3⟩ := hb3; exact ⟨rounds_end mix (T := GTab.none) GOk.none (luA_n ld es h1 h2 ) (luA_r ld es h1 h2 ) (luA_w ld es h1 h2 ) kz1 (fun h => by cases h) hSz kz2 kz3, luA_q0 ld es y0 ⟩
      ·
        have hb1 := luA_p1 ld es y0 ; have hb2 := body_canon hb1; have hb3 := hb2 ⟨hq2, (seg_row (g := (gE)) (k := 7) (fun _ => rfl) (by first | exact of_decide_eq_true hq1 | simpa using of_decide_eq_true hq1) (by first | exact of_decide_eq_true hq0 | (simpa using of_decide_eq_true hq0; done) | (have hx1 := of_decide_eq_true hq0; have hx2 := of_decide_eq_true hi; simp only [List.length_reverse, List.length_set] at *; omega)) (by decide) rfl), hq0, hq1, hq0, trivial⟩; obtain ⟨sz1, kz1, kz2, kz3⟩ := hb3; obtain ⟨gz1, gz2⟩ := ih (IntKind.i64.wrap (y0 + (1 : Int))) kk zz hf (rounds_step mix (T := GTab.none) GOk.none (luA_n ld es h1 h2 ) (luA_r ld es h1 h2 ) (luA_w ld es h1 h2 ) kz1 hSz kz2 kz3); exact ⟨rounds_next mix (T := GTab.none) GOk.none (luA_n ld es h1 h2 ) (luA_r ld es h1 h2 ) (luA_w ld es h1 h2 ) kz1 hSz kz2 kz3 (fun _ => gz1), gz2⟩
    ·
      injection hf with hf; injection hf with e1 e2; subst e1; subst e2; have hb1 := luA_p2 ld es y0 ; have hb2 := body_canon hb1; have hb3 := hb2 ⟨hq0, trivial⟩; obtain ⟨sz1, kz1, kz2, kz3⟩ := hb3; exact ⟨rounds_end mix (T := GTab.none) GOk.none (luA_n ld es h1 h2 ) (luA_r ld es h1 h2 ) (luA_w ld es h1 h2 ) kz1 (fun h => by cases h) hSz kz2 kz3, luA_q2 ld es y0 ⟩
theorem luA_ok (ld : List Int) (es : List En) (h1 : (ld.length : Int) ≤ 12) (h2 : 2000 < (es.length : Int) ∧ (es.length : Int) ≤ 2010) (fu kk : Nat) (zz : Int) (hf : luA_f ld es fu ((0 : Int)) = some (kk, zz)) : ∀ B : Bd, B.L = [] → LoopOk Try.prog B (luA_hd ld es).ro (luA_hd ld es).a (luA_hd ld es).s (luA_X kk) (luA_E kk ld es zz ) := by
  have hSz := begin_step (luA_n ld es h1 h2 ) (luA_r ld es h1 h2 ) (luA_w ld es h1 h2 ) (luA_e0 ld es h1 h2 ) (luA_e1 ld es h1 h2 )
  obtain ⟨gz1, gz2⟩ := luA_loop ld es h1 h2 fu ((0 : Int)) kk zz hf hSz
  exact rounds_ok (luA_n ld es h1 h2 ) (Nat.le_of_ble_eq_true (by kernel_rfl)) gz2 (rounds_begin (luA_n ld es h1 h2 ) (luA_r ld es h1 h2 ) (luA_w ld es h1 h2 ) (luA_e0 ld es h1 h2 ) (luA_e1 ld es h1 h2 ) (fun _ => gz1))

theorem lu0_p0 (ld : List Int) (es : List En) (luA_z0 : Int)  (h1 : (ld.length : Int) ≤ 12) (h2 : 2000 < (es.length : Int) ∧ (es.length : Int) ≤ 2010) (luA_k0 : (decide ((↑ld.length : Int) > (12 : Int))) = false) (luA_k4 : (decide ((↑es.length : Int) > (60 : Int))) = true) (luA_k10 : (decide ((↑es.length : Int) ≤ (2000 : Int))) = false) (luA_k14 : (decide ((↑es.length : Int) > (2010 : Int))) = false) (luA_l : ∀ B : Bd, B.L = [] → LoopOk Try.prog B (luA_hd ld es).ro (luA_hd ld es).a (luA_hd ld es).s (luA_X 0) (luA_E 0 ld es luA_z0 )) : KnownR Try.prog [] 8 [.list (rowA gI ld) ld.length, .list (rowA gE es) es.length] (.bool (false)) [] :=
  knownR_eq (v := Value.bool false) (bs := []) (open_resD mix (GOk.add GOk.none luA_l) (T := (GTab.add GTab.none 5 (luA_hd ld es).ro (luA_hd ld es).a (luA_hd ld es).s (luA_X 0) (luA_E 0 ld es luA_z0 ) (by kernel_rfl))) (fuel := 3000) (es := []) (ans := [(0, .b 0), (4, .b 1), (10, .b 0), (14, .b 0), (15, .loop (luA_X 0) (luA_E 0 ld es luA_z0 )), ]) (log := [LoopRes Try.prog ([] : Vars).length (GTab.add GTab.none 5 (luA_hd ld es).ro (luA_hd ld es).a (luA_hd ld es).s (luA_X 0) (luA_E 0 ld es luA_z0 ) (by kernel_rfl)) (luA_hd ld es).ro (luA_hd ld es).a (luA_hd ld es).s (luA_X 0) (luA_E 0 ld es luA_z0 ), (decide ((↑es.length : Int) > (2010 : Int))) = false, (decide ((↑es.length : Int) ≤ (2000 : Int))) = false, (decide ((↑es.length : Int) > (60 : Int))) = true, (decide ((↑ld.length : Int) > (12 : Int))) = false]) (by kernel_rfl) ⟨(loop_known2 add_eq), luA_k14, luA_k10, luA_k4, luA_k0, trivial⟩ (by kernel_rfl)) (by first | rfl | (simp; done) | (simp_all; done)) (by first | rfl | (simp [rowA_nil]; done) | (simp only [rowA_eq]; rfl) | (simp_all [rowA_nil]; done))
set_option maxHeartbeats 8000000 in
theorem lu0 (ld : List Int) (es : List En) (luA_z0 : Int)  (h1 : (ld.length : Int) ≤ 12) (h2 : 2000 < (es.length : Int) ∧ (es.length : Int) ≤ 2010) (luA_k0 : (decide ((↑ld.length : Int) > (12 : Int))) = false) (luA_k4 : (decide ((↑es.length : Int) > (60 : Int))) = true) (luA_k10 : (decide ((↑es.length : Int) ≤ (2000 : Int))) = false) (luA_k14 : (decide ((↑es.length : Int) > (2010 : Int))) = false) (luA_l : ∀ B : Bd, B.L = [] → LoopOk Try.prog B (luA_hd ld es).ro (luA_hd ld es).a (luA_hd ld es).s (luA_X 0) (luA_E 0 ld es luA_z0 )) : KnownR Try.prog [] 8 [.list (rowA gI ld) ld.length, .list (rowA gE es) es.length] (.bool (false)) [] := by
  exact lu0_p0 ld es luA_z0 h1 h2 luA_k0 luA_k4 luA_k10 luA_k14 luA_l

theorem lu1_p0 (ld : List Int) (es : List En) (luA_z0 : Int)  (h1 : (ld.length : Int) ≤ 12) (h2 : 2000 < (es.length : Int) ∧ (es.length : Int) ≤ 2010) (luA_k0 : (decide ((↑ld.length : Int) > (12 : Int))) = false) (luA_k4 : (decide ((↑es.length : Int) > (60 : Int))) = true) (luA_k10 : (decide ((↑es.length : Int) ≤ (2000 : Int))) = false) (luA_k14 : (decide ((↑es.length : Int) > (2010 : Int))) = false) (luA_l : ∀ B : Bd, B.L = [] → LoopOk Try.prog B (luA_hd ld es).ro (luA_hd ld es).a (luA_hd ld es).s (luA_X 1) (luA_E 1 ld es luA_z0 )) : KnownR Try.prog [] 8 [.list (rowA gI ld) ld.length, .list (rowA gE es) es.length] (.bool (true)) [] :=
  knownR_eq (v := Value.bool true) (bs := []) (open_resD mix (GOk.add GOk.none luA_l) (T := (GTab.add GTab.none 5 (luA_hd ld es).ro (luA_hd ld es).a (luA_hd ld es).s (luA_X 1) (luA_E 1 ld es luA_z0 ) (by kernel_rfl))) (fuel := 3000) (es := []) (ans := [(0, .b 0), (4, .b 1), (10, .b 0), (14, .b 0), (15, .loop (luA_X 1) (luA_E 1 ld es luA_z0 )), ]) (log := [LoopRes Try.prog ([] : Vars).length (GTab.add GTab.none 5 (luA_hd ld es).ro (luA_hd ld es).a (luA_hd ld es).s (luA_X 1) (luA_E 1 ld es luA_z0 ) (by kernel_rfl)) (luA_hd ld es).ro (luA_hd ld es).a (luA_hd ld es).s (luA_X 1) (luA_E 1 ld es luA_z0 ), (decide ((↑es.length : Int) > (2010 : Int))) = false, (decide ((↑es.length : Int) ≤ (2000 : Int))) = false, (decide ((↑es.length : Int) > (60 : Int))) = true, (decide ((↑ld.length : Int) > (12 : Int))) = false]) (by kernel_rfl) ⟨(loop_known2 add_eq), luA_k14, luA_k10, luA_k4, luA_k0, trivial⟩ (by kernel_rfl)) (by first | rfl | (simp; done) | (simp_all; done)) (by first | rfl | (simp [rowA_nil]; done) | (simp only [rowA_eq]; rfl) | (simp_all [rowA_nil]; done))
set_option maxHeartbeats 8000000 in
theorem lu1 (ld : List Int) (es : List En) (luA_z0 : Int)  (h1 : (ld.length : Int) ≤ 12) (h2 : 2000 < (es.length : Int) ∧ (es.length : Int) ≤ 2010) (luA_k0 : (decide ((↑ld.length : Int) > (12 : Int))) = false) (luA_k4 : (decide ((↑es.length : Int) > (60 : Int))) = true) (luA_k10 : (decide ((↑es.length : Int) ≤ (2000 : Int))) = false) (luA_k14 : (decide ((↑es.length : Int) > (2010 : Int))) = false) (luA_l : ∀ B : Bd, B.L = [] → LoopOk Try.prog B (luA_hd ld es).ro (luA_hd ld es).a (luA_hd ld es).s (luA_X 1) (luA_E 1 ld es luA_z0 )) : KnownR Try.prog [] 8 [.list (rowA gI ld) ld.length, .list (rowA gE es) es.length] (.bool (true)) [] := by
  exact lu1_p0 ld es luA_z0 h1 h2 luA_k0 luA_k4 luA_k10 luA_k14 luA_l

theorem ltE_p0 (ld : List Int) (es : List En) (hE : ¬ ((ld.length : Int) ≤ 12 ∧ ((es.length : Int) ≤ 60 ∨ (2000 < (es.length : Int) ∧ (es.length : Int) ≤ 2010)))) (hq0 : (decide ((↑ld.length : Int) > (12 : Int))) = true) : KnownR Try.prog [] 8 [.list (rowA gI ld) ld.length, .list (rowA gE es) es.length] (.bool (false)) [] :=
  knownR_eq (v := Value.bool false) (bs := []) (open_resD mix GOk.none (T := GTab.none) (fuel := 3000) (es := []) (ans := [(0, .b 1)]) (log := [(decide ((↑ld.length : Int) > (12 : Int))) = true]) (by kernel_rfl) ⟨hq0, trivial⟩ (by kernel_rfl)) (by first | rfl | (simp; done) | (simp_all; done)) (by first | rfl | (simp [rowA_nil]; done) | (simp only [rowA_eq]; rfl) | (simp_all [rowA_nil]; done))
theorem ltE_p1 (ld : List Int) (es : List En) (hE : ¬ ((ld.length : Int) ≤ 12 ∧ ((es.length : Int) ≤ 60 ∨ (2000 < (es.length : Int) ∧ (es.length : Int) ≤ 2010)))) (hq0 : (decide ((↑ld.length : Int) > (12 : Int))) = false) (hq1 : (decide ((↑es.length : Int) > (60 : Int))) = true) (hq2 : (decide ((↑es.length : Int) ≤ (2000 : Int))) = true) : KnownR Try.prog [] 8 [.list (rowA gI ld) ld.length, .list (rowA gE es) es.length] (.bool (false)) [] :=
  knownR_eq (v := Value.bool false) (bs := []) (open_resD mix GOk.none (T := GTab.none) (fuel := 3000) (es := []) (ans := [(0, .b 0), (4, .b 1), (10, .b 1)]) (log := [(decide ((↑es.length : Int) ≤ (2000 : Int))) = true, (decide ((↑es.length : Int) > (60 : Int))) = true, (decide ((↑ld.length : Int) > (12 : Int))) = false]) (by kernel_rfl) ⟨hq2, hq1, hq0, trivial⟩ (by kernel_rfl)) (by first | rfl | (simp; done) | (simp_all; done)) (by first | rfl | (simp [rowA_nil]; done) | (simp only [rowA_eq]; rfl) | (simp_all [rowA_nil]; done))
theorem ltE_p2 (ld : List Int) (es : List En) (hE : ¬ ((ld.length : Int) ≤ 12 ∧ ((es.length : Int) ≤ 60 ∨ (2000 < (es.length : Int) ∧ (es.length : Int) ≤ 2010)))) (hq0 : (decide ((↑ld.length : Int) > (12 : Int))) = false) (hq1 : (decide ((↑es.length : Int) > (60 : Int))) = true) (hq2 : (decide ((↑es.length : Int) ≤ (2000 : Int))) = false) (hq3 : (decide ((↑es.length : Int) > (2010 : Int))) = true) : KnownR Try.prog [] 8 [.list (rowA gI ld) ld.length, .list (rowA gE es) es.length] (.bool (false)) [] :=
  knownR_eq (v := Value.bool false) (bs := []) (open_resD mix GOk.none (T := GTab.none) (fuel := 3000) (es := []) (ans := [(0, .b 0), (4, .b 1), (10, .b 0), (14, .b 1)]) (log := [(decide ((↑es.length : Int) > (2010 : Int))) = true, (decide ((↑es.length : Int) ≤ (2000 : Int))) = false, (decide ((↑es.length : Int) > (60 : Int))) = true, (decide ((↑ld.length : Int) > (12 : Int))) = false]) (by kernel_rfl) ⟨hq3, hq2, hq1, hq0, trivial⟩ (by kernel_rfl)) (by first | rfl | (simp; done) | (simp_all; done)) (by first | rfl | (simp [rowA_nil]; done) | (simp only [rowA_eq]; rfl) | (simp_all [rowA_nil]; done))
set_option maxHeartbeats 8000000 in
theorem ltE (ld : List Int) (es : List En) (hE : ¬ ((ld.length : Int) ≤ 12 ∧ ((es.length : Int) ≤ 60 ∨ (2000 < (es.length : Int) ∧ (es.length : Int) ≤ 2010)))) : KnownR Try.prog [] 8 [.list (rowA gI ld) ld.length, .list (rowA gE es) es.length] (.bool (false)) [] := by
  rcases Bool.eq_false_or_eq_true (decide ((↑ld.length : Int) > (12 : Int))) with hq0 | hq0
  ·
    exact ltE_p0 ld es hE hq0
  ·
    have hq1 : (decide ((↑es.length : Int) > (60 : Int))) = true := by
      rcases Bool.eq_false_or_eq_true (decide ((↑es.length : Int) > (60 : Int))) with h | h
      · exact h
      · exfalso; (first | (simp_all only [Bool.and_eq_true, Bool.not_eq_true', Bool.false_eq_true, Bool.true_eq_false, reduceCtorEq]; done) | (simp only [sx, sy, eq_self, ne_eq, IntKind.wrap_i64, wrapU64, Int.reduceLT] at * <;> first | contradiction | omega) | omega | ((try simp only [sx, sy, eq_self, ne_eq, IntKind.wrap_i64, wrapU64, Int.reduceLT] at *) <;> omega) | (simp_all; done))
    rcases Bool.eq_false_or_eq_true (decide ((↑es.length : Int) ≤ (2000 : Int))) with hq2 | hq2
    ·
      exact ltE_p1 ld es hE hq0 hq1 hq2
    ·
      have hq3 : (decide ((↑es.length : Int) > (2010 : Int))) = true := by
        rcases Bool.eq_false_or_eq_true (decide ((↑es.length : Int) > (2010 : Int))) with h | h
        · exact h
        · exfalso; (first | (simp_all only [Bool.and_eq_true, Bool.not_eq_true', Bool.false_eq_true, Bool.true_eq_false, reduceCtorEq]; done) | (simp only [sx, sy, eq_self, ne_eq, IntKind.wrap_i64, wrapU64, Int.reduceLT] at * <;> first | contradiction | omega) | omega | ((try simp only [sx, sy, eq_self, ne_eq, IntKind.wrap_i64, wrapU64, Int.reduceLT] at *) <;> omega) | (simp_all; done))
      exact ltE_p2 ld es hE hq0 hq1 hq2 hq3

noncomputable def owI_c0 (xs : List Int) : List Int := (xs)
theorem owI_p0 (xs : List Int) (hl : (xs.length : Int) ≤ 40) (hq0 : (decide (xs.length * (8 : Nat) < (1000000000 : Nat))) = true) : KnownR Try.prog [] 10 [.list (rowA gI xs) xs.length] (.complex .f64 0 ((xs)).length) [(rowA gI ((xs)), 3)] :=
  knownR_eq (v := Value.complex FloatKind.f64 (nat_lit 0) xs.length) (bs := [(rowA gI xs, nat_lit 3)]) (open_resD mix GOk.none (T := GTab.none) (fuel := 3000) (es := [3]) (ans := [(0, .vals (List.flatMap (gI) (xs))), (1, .b 1), (2, .arr (rowA (gI) (xs)))]) (log := [(List.flatMap (gI) (xs)).toArray = rowA (gI) (xs), (decide (xs.length * (8 : Nat) < (1000000000 : Nat))) = true, segC (rowA (gI) (xs)) 0 ((xs.length) * 1) = some (List.flatMap (gI) (xs))]) (by kernel_rfl) ⟨(row_new (g := (gI)) rfl), hq0, (seg_all2 (g := (gI)) (k := 1) (fun _ => rfl) (by first | rfl | (simp; done) | (simp; omega))), trivial⟩ (by kernel_rfl)) (by first | rfl | (simp; done) | (simp_all; done)) (by first | rfl | (simp [rowA_nil]; done) | (simp only [rowA_eq]; rfl) | (simp_all [rowA_nil]; done))
set_option maxHeartbeats 8000000 in
theorem owI (xs : List Int) (hl : (xs.length : Int) ≤ 40) : KnownR Try.prog [] 10 [.list (rowA gI xs) xs.length] (.complex .f64 0 ((owI_c0 xs)).length) [(rowA gI ((owI_c0 xs)), 3)] := by
  have hq0 : (decide (xs.length * (8 : Nat) < (1000000000 : Nat))) = true := by
    rcases Bool.eq_false_or_eq_true (decide (xs.length * (8 : Nat) < (1000000000 : Nat))) with h | h
    · exact h
    · exfalso; (first | (simp_all only [Bool.and_eq_true, Bool.not_eq_true', Bool.false_eq_true, Bool.true_eq_false, reduceCtorEq]; done) | (simp only [sx, sy, eq_self, ne_eq, IntKind.wrap_i64, wrapU64, Int.reduceLT] at * <;> first | contradiction | omega) | omega | ((try simp only [sx, sy, eq_self, ne_eq, IntKind.wrap_i64, wrapU64, Int.reduceLT] at *) <;> omega) | (simp_all; done))
  have e0 : owI_c0 xs = (xs) := rfl; rw [e0]; exact owI_p0 xs hl hq0

noncomputable def owE_c0 (xs : List En) : List En := (xs)
theorem owE_p0 (xs : List En) (hl : (xs.length : Int) ≤ 2010) (hq0 : (decide (xs.length * (64 : Nat) < (1000000000 : Nat))) = true) : KnownR Try.prog [] 11 [.list (rowA gE xs) xs.length] (.complex .f64 0 ((xs)).length) [(rowA gE ((xs)), 48)] :=
  knownR_eq (v := Value.complex FloatKind.f64 (nat_lit 0) xs.length) (bs := [(rowA gE xs, nat_lit 48)]) (open_resD mix GOk.none (T := GTab.none) (fuel := 3000) (es := [48]) (ans := [(0, .vals (List.flatMap (gE) (xs))), (1, .b 1), (2, .arr (rowA (gE) (xs)))]) (log := [(List.flatMap (gE) (xs)).toArray = rowA (gE) (xs), (decide (xs.length * (64 : Nat) < (1000000000 : Nat))) = true, segC (rowA (gE) (xs)) 0 ((xs.length) * 7) = some (List.flatMap (gE) (xs))]) (by kernel_rfl) ⟨(row_new (g := (gE)) rfl), hq0, (seg_all2 (g := (gE)) (k := 7) (fun _ => rfl) (by first | rfl | (simp; done) | (simp; omega))), trivial⟩ (by kernel_rfl)) (by first | rfl | (simp; done) | (simp_all; done)) (by first | rfl | (simp [rowA_nil]; done) | (simp only [rowA_eq]; rfl) | (simp_all [rowA_nil]; done))
set_option maxHeartbeats 8000000 in
theorem owE (xs : List En) (hl : (xs.length : Int) ≤ 2010) : KnownR Try.prog [] 11 [.list (rowA gE xs) xs.length] (.complex .f64 0 ((owE_c0 xs)).length) [(rowA gE ((owE_c0 xs)), 48)] := by
  have hq0 : (decide (xs.length * (64 : Nat) < (1000000000 : Nat))) = true := by
    rcases Bool.eq_false_or_eq_true (decide (xs.length * (64 : Nat) < (1000000000 : Nat))) with h | h
    · exact h
    · exfalso; (first | (simp_all only [Bool.and_eq_true, Bool.not_eq_true', Bool.false_eq_true, Bool.true_eq_false, reduceCtorEq]; done) | (simp only [sx, sy, eq_self, ne_eq, IntKind.wrap_i64, wrapU64, Int.reduceLT] at * <;> first | contradiction | omega) | omega | ((try simp only [sx, sy, eq_self, ne_eq, IntKind.wrap_i64, wrapU64, Int.reduceLT] at *) <;> omega) | (simp_all; done))
  have e0 : owE_c0 xs = (xs) := rfl; rw [e0]; exact owE_p0 xs hl hq0

noncomputable def siA_hd (l : List Int) : Hd := headD Try.prog [] GTab.none 3000 14 [.list (rowA gI l) l.length, .list (rowA gI l) l.length] [(0, .b 0), (1, .stop)]
noncomputable def siA_S (l : List Int) (y0 : Int) : St := ((entryK 2 42 [15, 23, 11, 19, 17, 25, 13, 21, 16, 24, 12, 20, 18, 14, 22] 3 0 (siA_hd l).s).updF [(5, .int .i64 y0)] [])
theorem siA_n (l : List Int) (hl : (l.length : Int) ≤ 100000) : 2 = (siA_hd l).s.hs.next := by kernel_rfl
theorem siA_r (l : List Int) (hl : (l.length : Int) ≤ 100000) : (siA_hd l).s.hs.rd < bitOf 2 := by
  have e : (siA_hd l).s.hs.rd = 0 := by kernel_rfl
  rw [e]; exact blt_iff.1 (by kernel_rfl)
theorem siA_w (l : List Int) (hl : (l.length : Int) ≤ 100000) : (siA_hd l).s.hs.wr < bitOf 2 := by
  have e : (siA_hd l).s.hs.wr = 0 := by kernel_rfl
  rw [e]; exact blt_iff.1 (by kernel_rfl)
theorem siA_e0 (l : List Int) (hl : (l.length : Int) ≤ 100000) : canonS 2 42 [] [15, 23, 11, 19, 17, 25, 13, 21, 16, 24, 12, 20, 18, 14, 22] 2 3 0 (siA_hd l).s = some (siA_S l ((0 : Int))) := by kernel_rfl
theorem siA_e1 (l : List Int) (hl : (l.length : Int) ≤ 100000) : canonOk 2 42 [] 2 (siA_hd l).s = true := canonOkF_eq.symm.trans (by kernel_rfl)
def siA_X : Nat → VX
  | 0 => .exit 0
  | _ => .normal
noncomputable def siA_E (kE : Nat) (l : List Int) (y0 : Int) : St := match kE with
  | 0 => ((bodySt (bodyK Try.prog ([] : Vars).length GTab.none 3000 (siA_hd l) (siA_S l y0 ) [(0, .b 0)] 2 42 [15, 23, 11, 19, 17, 25, 13, 21, 16, 24, 12, 20, 18, 14, 22] 42 3 0)).updF [(5, .int .i64 y0)] [])
  | _ => (siA_hd l).s
theorem siA_p0 (l : List Int) (y0 : Int) : bodyK Try.prog ([] : Vars).length GTab.none 3000 (siA_hd l) (siA_S l y0 ) [(0, .b 1), (1, .b 1), (2, .b 1), (3, .vals ([Value.int IntKind.i64 (el l y0)])), (4, .b 1), (5, .b 1), (6, .vals ([Value.int IntKind.i64 (el l y0)])), (7, .b 0)] 2 42 [15, 23, 11, 19, 17, 25, 13, 21, 16, 24, 12, 20, 18, 14, 22] 2 3 0 = some (.normal, (siA_S l (IntKind.i64.wrap (y0 + (1 : Int)))), [(el l y0 != el l y0) = false, segC (rowA (gI) (l)) (((y0).toNat) * 1 + 0) 1 = some ([Value.int IntKind.i64 (el l y0)]), (decide (y0 < (↑l.length : Int))) = true, (decide ((0 : Int) ≤ y0)) = true, segC (rowA (gI) (l)) (((y0).toNat) * 1 + 0) 1 = some ([Value.int IntKind.i64 (el l y0)]), (decide (y0 < (↑l.length : Int))) = true, (decide ((0 : Int) ≤ y0)) = true, (decide (y0 < (↑l.length : Int))) = true]) := by kernel_rfl
theorem siA_p1 (l : List Int) (y0 : Int) : bodyK Try.prog ([] : Vars).length GTab.none 3000 (siA_hd l) (siA_S l y0 ) [(0, .b 0)] 2 42 [15, 23, 11, 19, 17, 25, 13, 21, 16, 24, 12, 20, 18, 14, 22] 42 3 0 = some (.exit 0, siA_E 0 l (y0), [(decide (y0 < (↑l.length : Int))) = false]) := by kernel_rfl
theorem siA_q1 (l : List Int) (y0 : Int) : (siA_E 0 l (y0)).hs.next = 42 := by kernel_rfl
theorem siA_d0 (l : List Int) (hl : (l.length : Int) ≤ 100000) (y0 : Int) (hi : (decide (0 ≤ y0 ∧ y0 ≤ (l.length : Int))) = true) (hq0 : (decide (y0 < (↑l.length : Int))) = true) : (decide ((0 : Int) ≤ y0)) = true := by
  rcases Bool.eq_false_or_eq_true (decide ((0 : Int) ≤ y0)) with h | h
  · exact h
  · exfalso; (first | (simp_all only [Bool.and_eq_true, Bool.not_eq_true', Bool.false_eq_true, Bool.true_eq_false, reduceCtorEq]; done) | (simp only [sx, sy, eq_self, ne_eq, IntKind.wrap_i64, wrapU64, Int.reduceLT] at * <;> first | contradiction | omega) | omega | ((try simp only [sx, sy, eq_self, ne_eq, IntKind.wrap_i64, wrapU64, Int.reduceLT] at *) <;> omega) | (simp_all; done))
theorem siA_d1 (l : List Int) (hl : (l.length : Int) ≤ 100000) (y0 : Int) (hi : (decide (0 ≤ y0 ∧ y0 ≤ (l.length : Int))) = true) (hq0 : (decide (y0 < (↑l.length : Int))) = true) (hq1 : (decide ((0 : Int) ≤ y0)) = true) : (el l y0 != el l y0) = false := by
  rcases Bool.eq_false_or_eq_true (el l y0 != el l y0) with h | h
  · exfalso; (first | (simp_all only [Bool.and_eq_true, Bool.not_eq_true', Bool.false_eq_true, Bool.true_eq_false, reduceCtorEq]; done) | (simp only [sx, sy, eq_self, ne_eq, IntKind.wrap_i64, wrapU64, Int.reduceLT] at * <;> first | contradiction | omega) | omega | ((try simp only [sx, sy, eq_self, ne_eq, IntKind.wrap_i64, wrapU64, Int.reduceLT] at *) <;> omega) | (simp_all; done))
  · exact h
noncomputable def siA_f (l : List Int) : Nat → Int → Option (Nat × (Int))
  | 0, _ => none
  | fu + 1, y0 => (bif (decide (0 ≤ y0 ∧ y0 ≤ (l.length : Int))) then (bif (decide (y0 < (↑l.length : Int))) then siA_f l fu (IntKind.i64.wrap (y0 + (1 : Int))) else some (0, (y0))) else none)
theorem siA_fs (l : List Int) (fu : Nat) (y0 : Int) : siA_f l (fu + 1) y0 = (bif (decide (0 ≤ y0 ∧ y0 ≤ (l.length : Int))) then (bif (decide (y0 < (↑l.length : Int))) then siA_f l fu (IntKind.i64.wrap (y0 + (1 : Int))) else some (0, (y0))) else none) := rfl
theorem siA_f0 (l : List Int) (y0 : Int) : siA_f l 0 y0 = none := rfl
theorem siA_loop (l : List Int) (hl : (l.length : Int) ≤ 100000) : ∀ (fu : Nat) (y0 : Int) (kk : Nat) (zz : Int), siA_f l fu y0 = some (kk, zz) → VStep (siA_hd l).s.hs (siA_S l y0 ).hs → RoundsC Try.prog [] 2 42 (siA_hd l).s.hs (siA_hd l).ro (siA_hd l).a (siA_S l y0 ) (siA_X kk) (siA_E kk l zz ) ∧ ((siA_E kk l zz )).hs.next = 42 := by
  intro fu
  induction fu with
  | zero =>
    intro y0 kk zz hf hSz
    have hf := (siA_f0 l y0 ).symm.trans hf
    simp at hf
  | succ fu ih =>
    intro y0 kk zz hf hSz
    have hf := (siA_fs l fu y0 ).symm.trans hf
    rcases bif_or hf with ⟨hi, hf⟩ | ⟨hi, hf⟩
    case inr => cases hf
    rcases bif_or hf with ⟨hq0, hf⟩ | ⟨hq0, hf⟩
    ·
      have hq1 := siA_d0 l hl y0 hi hq0 
      have hq2 := siA_d1 l hl y0 hi hq0 hq1 
      have hb1 := siA_p0 l y0 ; have hb2 := body_canon hb1; have hb3 := hb2 ⟨hq2, (seg_row (g := (gI)) (k := 1) (fun _ => rfl) (by first | exact of_decide_eq_true hq1 | simpa using of_decide_eq_true hq1) (by first | exact of_decide_eq_true hq0 | (simpa using of_decide_eq_true hq0; done) | (have hx1 := of_decide_eq_true hq0; have hx2 := of_decide_eq_true hi; simp only [List.length_reverse, List.length_set] at *; omega)) (by decide) rfl), hq0, hq1, (seg_row (g := (gI)) (k := 1) (fun _ => rfl) (by first | exact of_decide_eq_true hq1 | simpa using of_decide_eq_true hq1) (by first | exact of_decide_eq_true hq0 | (simpa using of_decide_eq_true hq0; done) | (have hx1 := of_decide_eq_true hq0; have hx2 := of_decide_eq_true hi; simp only [List.length_reverse, List.length_set] at *; omega)) (by decide) rfl), hq0, hq1, hq0, trivial⟩; obtain ⟨sz1, kz1, kz2, kz3⟩ := hb3; obtain ⟨gz1, gz2⟩ := ih (IntKind.i64.wrap (y0 + (1 : Int))) kk zz hf (rounds_step mix (T := GTab.none) GOk.none (siA_n l hl ) (siA_r l hl ) (siA_w l hl ) kz1 hSz kz2 kz3); exact ⟨rounds_next mix (T := GTab.none) GOk.none (siA_n l hl ) (siA_r l hl ) (siA_w l hl ) kz1 hSz kz2 kz3 (fun _ => gz1), gz2⟩
    ·
      injection hf with hf; injection hf with e1 e2; subst e1; subst e2; have hb1 := siA_p1 l y0 ; have hb2 := body_canon hb1; have hb3 := hb2 ⟨hq0, trivial⟩; obtain ⟨sz1, kz1, kz2, kz3⟩ := hb3; exact ⟨rounds_end mix (T := GTab.none) GOk.none (siA_n l hl ) (siA_r l hl ) (siA_w l hl ) kz1 (fun h => by cases h) hSz kz2 kz3, siA_q1 l y0 ⟩
theorem siA_ok (l : List Int) (hl : (l.length : Int) ≤ 100000) (fu kk : Nat) (zz : Int) (hf : siA_f l fu ((0 : Int)) = some (kk, zz)) : ∀ B : Bd, B.L = [] → LoopOk Try.prog B (siA_hd l).ro (siA_hd l).a (siA_hd l).s (siA_X kk) (siA_E kk l zz ) := by
  have hSz := begin_step (siA_n l hl ) (siA_r l hl ) (siA_w l hl ) (siA_e0 l hl ) (siA_e1 l hl )
  obtain ⟨gz1, gz2⟩ := siA_loop l hl fu ((0 : Int)) kk zz hf hSz
  exact rounds_ok (siA_n l hl ) (Nat.le_of_ble_eq_true (by kernel_rfl)) gz2 (rounds_begin (siA_n l hl ) (siA_r l hl ) (siA_w l hl ) (siA_e0 l hl ) (siA_e1 l hl ) (fun _ => gz1))

theorem siK_p0 (l : List Int) (siA_z0 : Int)  (hl : (l.length : Int) ≤ 100000) (siA_k0 : ((↑l.length : Int) != (↑l.length : Int)) = false) (siA_l : ∀ B : Bd, B.L = [] → LoopOk Try.prog B (siA_hd l).ro (siA_hd l).a (siA_hd l).s (siA_X 0) (siA_E 0 l siA_z0 )) : KnownR Try.prog [] 14 [.list (rowA gI l) l.length, .list (rowA gI l) l.length] (.bool (true)) [] :=
  knownR_eq (v := Value.bool true) (bs := []) (open_resD mix (GOk.add GOk.none siA_l) (T := (GTab.add GTab.none 5 (siA_hd l).ro (siA_hd l).a (siA_hd l).s (siA_X 0) (siA_E 0 l siA_z0 ) (by kernel_rfl))) (fuel := 3000) (es := []) (ans := [(0, .b 0), (1, .loop (siA_X 0) (siA_E 0 l siA_z0 )), ]) (log := [LoopRes Try.prog ([] : Vars).length (GTab.add GTab.none 5 (siA_hd l).ro (siA_hd l).a (siA_hd l).s (siA_X 0) (siA_E 0 l siA_z0 ) (by kernel_rfl)) (siA_hd l).ro (siA_hd l).a (siA_hd l).s (siA_X 0) (siA_E 0 l siA_z0 ), ((↑l.length : Int) != (↑l.length : Int)) = false]) (by kernel_rfl) ⟨(loop_known2 add_eq), siA_k0, trivial⟩ (by kernel_rfl)) (by first | rfl | (simp; done) | (simp_all; done)) (by first | rfl | (simp [rowA_nil]; done) | (simp only [rowA_eq]; rfl) | (simp_all [rowA_nil]; done))
set_option maxHeartbeats 8000000 in
theorem siK (l : List Int) (siA_z0 : Int)  (hl : (l.length : Int) ≤ 100000) (siA_k0 : ((↑l.length : Int) != (↑l.length : Int)) = false) (siA_l : ∀ B : Bd, B.L = [] → LoopOk Try.prog B (siA_hd l).ro (siA_hd l).a (siA_hd l).s (siA_X 0) (siA_E 0 l siA_z0 )) : KnownR Try.prog [] 14 [.list (rowA gI l) l.length, .list (rowA gI l) l.length] (.bool (true)) [] := by
  exact siK_p0 l siA_z0 hl siA_k0 siA_l

noncomputable def shA_hd (l : List En) : Hd := headD Try.prog [] GTab.none 3000 15 [.list (rowA gE l) l.length, .list (rowA gE l) l.length] [(0, .b 0), (1, .stop)]
noncomputable def shA_S (l : List En) (y0 : Int) : St := ((entryK 2 42 [15, 23, 11, 19, 17, 25, 13, 21, 16, 24, 12, 20, 18, 14, 22] 3 0 (shA_hd l).s).updF [(5, .int .i64 y0)] [])
theorem shA_n (l : List En) (hl : (l.length : Int) ≤ 100000) : 2 = (shA_hd l).s.hs.next := by kernel_rfl
theorem shA_r (l : List En) (hl : (l.length : Int) ≤ 100000) : (shA_hd l).s.hs.rd < bitOf 2 := by
  have e : (shA_hd l).s.hs.rd = 0 := by kernel_rfl
  rw [e]; exact blt_iff.1 (by kernel_rfl)
theorem shA_w (l : List En) (hl : (l.length : Int) ≤ 100000) : (shA_hd l).s.hs.wr < bitOf 2 := by
  have e : (shA_hd l).s.hs.wr = 0 := by kernel_rfl
  rw [e]; exact blt_iff.1 (by kernel_rfl)
theorem shA_e0 (l : List En) (hl : (l.length : Int) ≤ 100000) : canonS 2 42 [] [15, 23, 11, 19, 17, 25, 13, 21, 16, 24, 12, 20, 18, 14, 22] 2 3 0 (shA_hd l).s = some (shA_S l ((0 : Int))) := by kernel_rfl
theorem shA_e1 (l : List En) (hl : (l.length : Int) ≤ 100000) : canonOk 2 42 [] 2 (shA_hd l).s = true := canonOkF_eq.symm.trans (by kernel_rfl)
def shA_X : Nat → VX
  | 0 => .ret
  | 1 => .exit 0
  | _ => .normal
noncomputable def shA_E (kE : Nat) (l : List En) (y0 : Int) : St := match kE with
  | 0 => ((bodySt (bodyK Try.prog ([] : Vars).length GTab.none 3000 (shA_hd l) (shA_S l y0 ) [(0, .b 1), (1, .b 1), (2, .b 1), (3, .vals ([Value.int IntKind.i64 (el l y0).fst, Value.int IntKind.i64 (el l y0).snd.fst, Value.int IntKind.i64 (el l y0).snd.snd.fst, Value.string (el l y0).snd.snd.snd.fst, Value.int IntKind.i64 (el l y0).snd.snd.snd.snd.fst, Value.int IntKind.i64 (el l y0).snd.snd.snd.snd.snd.fst, Value.int IntKind.i64 (el l y0).snd.snd.snd.snd.snd.snd])), (4, .b 1), (5, .b 1), (6, .vals ([Value.int IntKind.i64 (el l y0).fst, Value.int IntKind.i64 (el l y0).snd.fst, Value.int IntKind.i64 (el l y0).snd.snd.fst, Value.string (el l y0).snd.snd.snd.fst, Value.int IntKind.i64 (el l y0).snd.snd.snd.snd.fst, Value.int IntKind.i64 (el l y0).snd.snd.snd.snd.snd.fst, Value.int IntKind.i64 (el l y0).snd.snd.snd.snd.snd.snd])), (7, .b 1)] 2 42 [15, 23, 11, 19, 17, 25, 13, 21, 16, 24, 12, 20, 18, 14, 22] 42 3 0)).updF [(5, .int .i64 y0)] [])
  | 1 => ((bodySt (bodyK Try.prog ([] : Vars).length GTab.none 3000 (shA_hd l) (shA_S l y0 ) [(0, .b 0)] 2 42 [15, 23, 11, 19, 17, 25, 13, 21, 16, 24, 12, 20, 18, 14, 22] 42 3 0)).updF [(5, .int .i64 y0)] [])
  | _ => (shA_hd l).s
noncomputable def shA_b2 (l : List En) (y0 : Int) : Bool := !((el l y0).fst == (el l y0).fst && ((el l y0).snd.fst == (el l y0).snd.fst && ((el l y0).snd.snd.fst == (el l y0).snd.snd.fst && ((el l y0).snd.snd.snd.fst == (el l y0).snd.snd.snd.fst && ((el l y0).snd.snd.snd.snd.fst == (el l y0).snd.snd.snd.snd.fst && ((el l y0).snd.snd.snd.snd.snd.fst == (el l y0).snd.snd.snd.snd.snd.fst && (el l y0).snd.snd.snd.snd.snd.snd == (el l y0).snd.snd.snd.snd.snd.snd))))))
theorem shA_p0 (l : List En) (y0 : Int) : bodyK Try.prog ([] : Vars).length GTab.none 3000 (shA_hd l) (shA_S l y0 ) [(0, .b 1), (1, .b 1), (2, .b 1), (3, .vals ([Value.int IntKind.i64 (el l y0).fst, Value.int IntKind.i64 (el l y0).snd.fst, Value.int IntKind.i64 (el l y0).snd.snd.fst, Value.string (el l y0).snd.snd.snd.fst, Value.int IntKind.i64 (el l y0).snd.snd.snd.snd.fst, Value.int IntKind.i64 (el l y0).snd.snd.snd.snd.snd.fst, Value.int IntKind.i64 (el l y0).snd.snd.snd.snd.snd.snd])), (4, .b 1), (5, .b 1), (6, .vals ([Value.int IntKind.i64 (el l y0).fst, Value.int IntKind.i64 (el l y0).snd.fst, Value.int IntKind.i64 (el l y0).snd.snd.fst, Value.string (el l y0).snd.snd.snd.fst, Value.int IntKind.i64 (el l y0).snd.snd.snd.snd.fst, Value.int IntKind.i64 (el l y0).snd.snd.snd.snd.snd.fst, Value.int IntKind.i64 (el l y0).snd.snd.snd.snd.snd.snd])), (7, .b 1)] 2 42 [15, 23, 11, 19, 17, 25, 13, 21, 16, 24, 12, 20, 18, 14, 22] 42 3 0 = some (.ret, shA_E 0 l (y0), [(shA_b2 l y0 ) = true, segC (rowA (gE) (l)) (((y0).toNat) * 7 + 0) 7 = some ([Value.int IntKind.i64 (el l y0).fst, Value.int IntKind.i64 (el l y0).snd.fst, Value.int IntKind.i64 (el l y0).snd.snd.fst, Value.string (el l y0).snd.snd.snd.fst, Value.int IntKind.i64 (el l y0).snd.snd.snd.snd.fst, Value.int IntKind.i64 (el l y0).snd.snd.snd.snd.snd.fst, Value.int IntKind.i64 (el l y0).snd.snd.snd.snd.snd.snd]), (decide (y0 < (↑l.length : Int))) = true, (decide ((0 : Int) ≤ y0)) = true, segC (rowA (gE) (l)) (((y0).toNat) * 7 + 0) 7 = some ([Value.int IntKind.i64 (el l y0).fst, Value.int IntKind.i64 (el l y0).snd.fst, Value.int IntKind.i64 (el l y0).snd.snd.fst, Value.string (el l y0).snd.snd.snd.fst, Value.int IntKind.i64 (el l y0).snd.snd.snd.snd.fst, Value.int IntKind.i64 (el l y0).snd.snd.snd.snd.snd.fst, Value.int IntKind.i64 (el l y0).snd.snd.snd.snd.snd.snd]), (decide (y0 < (↑l.length : Int))) = true, (decide ((0 : Int) ≤ y0)) = true, (decide (y0 < (↑l.length : Int))) = true]) := by kernel_rfl
theorem shA_q0 (l : List En) (y0 : Int) : (shA_E 0 l (y0)).hs.next = 42 := by kernel_rfl
theorem shA_p1 (l : List En) (y0 : Int) : bodyK Try.prog ([] : Vars).length GTab.none 3000 (shA_hd l) (shA_S l y0 ) [(0, .b 1), (1, .b 1), (2, .b 1), (3, .vals ([Value.int IntKind.i64 (el l y0).fst, Value.int IntKind.i64 (el l y0).snd.fst, Value.int IntKind.i64 (el l y0).snd.snd.fst, Value.string (el l y0).snd.snd.snd.fst, Value.int IntKind.i64 (el l y0).snd.snd.snd.snd.fst, Value.int IntKind.i64 (el l y0).snd.snd.snd.snd.snd.fst, Value.int IntKind.i64 (el l y0).snd.snd.snd.snd.snd.snd])), (4, .b 1), (5, .b 1), (6, .vals ([Value.int IntKind.i64 (el l y0).fst, Value.int IntKind.i64 (el l y0).snd.fst, Value.int IntKind.i64 (el l y0).snd.snd.fst, Value.string (el l y0).snd.snd.snd.fst, Value.int IntKind.i64 (el l y0).snd.snd.snd.snd.fst, Value.int IntKind.i64 (el l y0).snd.snd.snd.snd.snd.fst, Value.int IntKind.i64 (el l y0).snd.snd.snd.snd.snd.snd])), (7, .b 0)] 2 42 [15, 23, 11, 19, 17, 25, 13, 21, 16, 24, 12, 20, 18, 14, 22] 2 3 0 = some (.normal, (shA_S l (IntKind.i64.wrap (y0 + (1 : Int)))), [(shA_b2 l y0 ) = false, segC (rowA (gE) (l)) (((y0).toNat) * 7 + 0) 7 = some ([Value.int IntKind.i64 (el l y0).fst, Value.int IntKind.i64 (el l y0).snd.fst, Value.int IntKind.i64 (el l y0).snd.snd.fst, Value.string (el l y0).snd.snd.snd.fst, Value.int IntKind.i64 (el l y0).snd.snd.snd.snd.fst, Value.int IntKind.i64 (el l y0).snd.snd.snd.snd.snd.fst, Value.int IntKind.i64 (el l y0).snd.snd.snd.snd.snd.snd]), (decide (y0 < (↑l.length : Int))) = true, (decide ((0 : Int) ≤ y0)) = true, segC (rowA (gE) (l)) (((y0).toNat) * 7 + 0) 7 = some ([Value.int IntKind.i64 (el l y0).fst, Value.int IntKind.i64 (el l y0).snd.fst, Value.int IntKind.i64 (el l y0).snd.snd.fst, Value.string (el l y0).snd.snd.snd.fst, Value.int IntKind.i64 (el l y0).snd.snd.snd.snd.fst, Value.int IntKind.i64 (el l y0).snd.snd.snd.snd.snd.fst, Value.int IntKind.i64 (el l y0).snd.snd.snd.snd.snd.snd]), (decide (y0 < (↑l.length : Int))) = true, (decide ((0 : Int) ≤ y0)) = true, (decide (y0 < (↑l.length : Int))) = true]) := by kernel_rfl
theorem shA_p2 (l : List En) (y0 : Int) : bodyK Try.prog ([] : Vars).length GTab.none 3000 (shA_hd l) (shA_S l y0 ) [(0, .b 0)] 2 42 [15, 23, 11, 19, 17, 25, 13, 21, 16, 24, 12, 20, 18, 14, 22] 42 3 0 = some (.exit 0, shA_E 1 l (y0), [(decide (y0 < (↑l.length : Int))) = false]) := by kernel_rfl
theorem shA_q2 (l : List En) (y0 : Int) : (shA_E 1 l (y0)).hs.next = 42 := by kernel_rfl
theorem shA_d0 (l : List En) (hl : (l.length : Int) ≤ 100000) (y0 : Int) (hi : (decide (0 ≤ y0 ∧ y0 ≤ (l.length : Int))) = true) (hq0 : (decide (y0 < (↑l.length : Int))) = true) : (decide ((0 : Int) ≤ y0)) = true := by
  rcases Bool.eq_false_or_eq_true (decide ((0 : Int) ≤ y0)) with h | h
  · exact h
  · exfalso; (first | (simp_all only [Bool.and_eq_true, Bool.not_eq_true', Bool.false_eq_true, Bool.true_eq_false, reduceCtorEq]; done) | (simp only [sx, sy, eq_self, ne_eq, IntKind.wrap_i64, wrapU64, Int.reduceLT] at * <;> first | contradiction | omega) | omega | ((try simp only [sx, sy, eq_self, ne_eq, IntKind.wrap_i64, wrapU64, Int.reduceLT] at *) <;> omega) | (simp_all; done))
noncomputable def shA_f (l : List En) : Nat → Int → Option (Nat × (Int))
  | 0, _ => none
  | fu + 1, y0 => (bif (decide (0 ≤ y0 ∧ y0 ≤ (l.length : Int))) then (bif (decide (y0 < (↑l.length : Int))) then (bif (!((el l y0).fst == (el l y0).fst && ((el l y0).snd.fst == (el l y0).snd.fst && ((el l y0).snd.snd.fst == (el l y0).snd.snd.fst && ((el l y0).snd.snd.snd.fst == (el l y0).snd.snd.snd.fst && ((el l y0).snd.snd.snd.snd.fst == (el l y0).snd.snd.snd.snd.fst && ((el l y0).snd.snd.snd.snd.snd.fst == (el l y0).snd.snd.snd.snd.snd.fst && (el l y0).snd.snd.snd.snd.snd.snd == (el l y0).snd.snd.snd.snd.snd.snd))))))) then some (0, (y0)) else shA_f l fu (IntKind.i64.wrap (y0 + (1 : Int)))) else some (1, (y0))) else none)
theorem shA_fs (l : List En) (fu : Nat) (y0 : Int) : shA_f l (fu + 1) y0 = (bif (decide (0 ≤ y0 ∧ y0 ≤ (l.length : Int))) then (bif (decide (y0 < (↑l.length : Int))) then (bif (!((el l y0).fst == (el l y0).fst && ((el l y0).snd.fst == (el l y0).snd.fst && ((el l y0).snd.snd.fst == (el l y0).snd.snd.fst && ((el l y0).snd.snd.snd.fst == (el l y0).snd.snd.snd.fst && ((el l y0).snd.snd.snd.snd.fst == (el l y0).snd.snd.snd.snd.fst && ((el l y0).snd.snd.snd.snd.snd.fst == (el l y0).snd.snd.snd.snd.snd.fst && (el l y0).snd.snd.snd.snd.snd.snd == (el l y0).snd.snd.snd.snd.snd.snd))))))) then some (0, (y0)) else shA_f l fu (IntKind.i64.wrap (y0 + (1 : Int)))) else some (1, (y0))) else none) := rfl
theorem shA_f0 (l : List En) (y0 : Int) : shA_f l 0 y0 = none := rfl
theorem shA_loop (l : List En) (hl : (l.length : Int) ≤ 100000) : ∀ (fu : Nat) (y0 : Int) (kk : Nat) (zz : Int), shA_f l fu y0 = some (kk, zz) → VStep (shA_hd l).s.hs (shA_S l y0 ).hs → RoundsC Try.prog [] 2 42 (shA_hd l).s.hs (shA_hd l).ro (shA_hd l).a (shA_S l y0 ) (shA_X kk) (shA_E kk l zz ) ∧ ((shA_E kk l zz )).hs.next = 42 := by
  intro fu
  induction fu with
  | zero =>
    intro y0 kk zz hf hSz
    have hf := (shA_f0 l y0 ).symm.trans hf
    simp at hf
  | succ fu ih =>
    intro y0 kk zz hf hSz
    have hf := (shA_fs l fu y0 ).symm.trans hf
    rcases bif_or hf with ⟨hi, hf⟩ | ⟨hi, hf⟩
    case inr => cases hf
    rcases bif_or hf with ⟨hq0, hf⟩ | ⟨hq0, hf⟩
    ·
      have hq1 := shA_d0 l hl y0 hi hq0 
      rcases bif_or hf with ⟨hq2, hf⟩ | ⟨hq2, hf⟩
      ·
        injection hf with hf; injection hf with e1 e2; subst e1; subst e2; have hb1 := shA_p0 l y0 ; have hb2 := body_canon hb1; have hb3 := hb2 ⟨hq2, (seg_row (g := (gE)) (k := 7) (fun _ => rfl) (by first | exact of_decide_eq_true hq1 | simpa using of_decide_eq_true hq1) (by first | exact of_decide_eq_true hq0 | (simpa using of_decide_eq_true hq0; done) | (have hx1 := of_decide_eq_true hq0; have hx2 := of_decide_eq_true hi; simp only [List.length_reverse, List.length_set] at *; omega)) (by decide) rfl), hq0, hq1, (seg_row (g := (gE)) (k := 7) (fun _ => rfl) (by first | exact of_decide_eq_true hq1 | simpa using of_decide_eq_true hq1) (by first | exact of_decide_eq_true hq0 | (simpa using of_decide_eq_true hq0; done) | (have hx1 := of_decide_eq_true hq0; have hx2 := of_decide_eq_true hi; simp only [List.length_reverse, List.length_set] at *; omega)) (by decide) rfl), hq0, hq1, hq0, trivial⟩; obtain ⟨sz1, kz1, kz2, kz3⟩ := hb3; exact ⟨rounds_end mix (T := GTab.none) GOk.none (shA_n l hl ) (shA_r l hl ) (shA_w l hl ) kz1 (fun h => by cases h) hSz kz2 kz3, shA_q0 l y0 ⟩
      ·
        have hb1 := shA_p1 l y0 ; have hb2 := body_canon hb1; have hb3 := hb2 ⟨hq2, (seg_row (g := (gE)) (k := 7) (fun _ => rfl) (by first | exact of_decide_eq_true hq1 | simpa using of_decide_eq_true hq1) (by first | exact of_decide_eq_true hq0 | (simpa using of_decide_eq_true hq0; done) | (have hx1 := of_decide_eq_true hq0; have hx2 := of_decide_eq_true hi; simp only [List.length_reverse, List.length_set] at *; omega)) (by decide) rfl), hq0, hq1, (seg_row (g := (gE)) (k := 7) (fun _ => rfl) (by first | exact of_decide_eq_true hq1 | simpa using of_decide_eq_true hq1) (by first | exact of_decide_eq_true hq0 | (simpa using of_decide_eq_true hq0; done) | (have hx1 := of_decide_eq_true hq0; have hx2 := of_decide_eq_true hi; simp only [List.length_reverse, List.length_set] at *; omega)) (by decide) rfl), hq0, hq1, hq0, trivial⟩; obtain ⟨sz1, kz1, kz2, kz3⟩ := hb3; obtain ⟨gz1, gz2⟩ := ih (IntKind.i64.wrap (y0 + (1 : Int))) kk zz hf (rounds_step mix (T := GTab.none) GOk.none (shA_n l hl ) (shA_r l hl ) (shA_w l hl ) kz1 hSz kz2 kz3); exact ⟨rounds_next mix (T := GTab.none) GOk.none (shA_n l hl ) (shA_r l hl ) (shA_w l hl ) kz1 hSz kz2 kz3 (fun _ => gz1), gz2⟩
    ·
      injection hf with hf; injection hf with e1 e2; subst e1; subst e2; have hb1 := shA_p2 l y0 ; have hb2 := body_canon hb1; have hb3 := hb2 ⟨hq0, trivial⟩; obtain ⟨sz1, kz1, kz2, kz3⟩ := hb3; exact ⟨rounds_end mix (T := GTab.none) GOk.none (shA_n l hl ) (shA_r l hl ) (shA_w l hl ) kz1 (fun h => by cases h) hSz kz2 kz3, shA_q2 l y0 ⟩
theorem shA_ok (l : List En) (hl : (l.length : Int) ≤ 100000) (fu kk : Nat) (zz : Int) (hf : shA_f l fu ((0 : Int)) = some (kk, zz)) : ∀ B : Bd, B.L = [] → LoopOk Try.prog B (shA_hd l).ro (shA_hd l).a (shA_hd l).s (shA_X kk) (shA_E kk l zz ) := by
  have hSz := begin_step (shA_n l hl ) (shA_r l hl ) (shA_w l hl ) (shA_e0 l hl ) (shA_e1 l hl )
  obtain ⟨gz1, gz2⟩ := shA_loop l hl fu ((0 : Int)) kk zz hf hSz
  exact rounds_ok (shA_n l hl ) (Nat.le_of_ble_eq_true (by kernel_rfl)) gz2 (rounds_begin (shA_n l hl ) (shA_r l hl ) (shA_w l hl ) (shA_e0 l hl ) (shA_e1 l hl ) (fun _ => gz1))

theorem shK_p0 (l : List En) (shA_z0 : Int)  (hl : (l.length : Int) ≤ 100000) (shA_k0 : ((↑l.length : Int) != (↑l.length : Int)) = false) (shA_l : ∀ B : Bd, B.L = [] → LoopOk Try.prog B (shA_hd l).ro (shA_hd l).a (shA_hd l).s (shA_X 1) (shA_E 1 l shA_z0 )) : KnownR Try.prog [] 15 [.list (rowA gE l) l.length, .list (rowA gE l) l.length] (.bool (true)) [] :=
  knownR_eq (v := Value.bool true) (bs := []) (open_resD mix (GOk.add GOk.none shA_l) (T := (GTab.add GTab.none 5 (shA_hd l).ro (shA_hd l).a (shA_hd l).s (shA_X 1) (shA_E 1 l shA_z0 ) (by kernel_rfl))) (fuel := 3000) (es := []) (ans := [(0, .b 0), (1, .loop (shA_X 1) (shA_E 1 l shA_z0 )), ]) (log := [LoopRes Try.prog ([] : Vars).length (GTab.add GTab.none 5 (shA_hd l).ro (shA_hd l).a (shA_hd l).s (shA_X 1) (shA_E 1 l shA_z0 ) (by kernel_rfl)) (shA_hd l).ro (shA_hd l).a (shA_hd l).s (shA_X 1) (shA_E 1 l shA_z0 ), ((↑l.length : Int) != (↑l.length : Int)) = false]) (by kernel_rfl) ⟨(loop_known2 add_eq), shA_k0, trivial⟩ (by kernel_rfl)) (by first | rfl | (simp; done) | (simp_all; done)) (by first | rfl | (simp [rowA_nil]; done) | (simp only [rowA_eq]; rfl) | (simp_all [rowA_nil]; done))
set_option maxHeartbeats 8000000 in
theorem shK (l : List En) (shA_z0 : Int)  (hl : (l.length : Int) ≤ 100000) (shA_k0 : ((↑l.length : Int) != (↑l.length : Int)) = false) (shA_l : ∀ B : Bd, B.L = [] → LoopOk Try.prog B (shA_hd l).ro (shA_hd l).a (shA_hd l).s (shA_X 1) (shA_E 1 l shA_z0 )) : KnownR Try.prog [] 15 [.list (rowA gE l) l.length, .list (rowA gE l) l.length] (.bool (true)) [] := by
  exact shK_p0 l shA_z0 hl shA_k0 shA_l

theorem siA_go {l : List Int} (hl : (l.length : Int) ≤ 100000) : ∀ (k i : Nat), i + k = l.length → siA_f l (k + 1) (i : Int) = some (0, (l.length : Int)) := by
  intro k
  induction k with
  | zero =>
    intro i hi
    have : i = l.length := by omega
    subst this
    simp [siA_f]
  | succ k ih =>
    intro i hi
    show (bif decide _ then _ else _) = _
    rw [decide_eq_true (show 0 ≤ (i : Int) ∧ (i : Int) ≤ l.length by omega), cond_true, decide_eq_true (show (i : Int) < l.length by omega), cond_true, show IntKind.i64.wrap ((i : Int) + 1) = ((i + 1 : Nat) : Int) by rw [w8n (by omega) (by omega)]; omega]
    have h := ih (i + 1) (by omega)
    simpa using h
theorem si_is (l : List Int) (hl : (l.length : Int) ≤ 100000) : KnownR Try.prog [] 14 [.list (rowA gI l) l.length, .list (rowA gI l) l.length] (.bool true) [] := by
  have h := siA_go hl l.length 0 (by omega)
  exact siK l _ hl (by simp) (siA_ok l hl _ _ _ h)
theorem ba_self (d : ByteArray) : (d == d) = true := by
  first
  | exact beq_self_eq_true d
  | (obtain ⟨d⟩ := d; show (d == d) = true; exact beq_self_eq_true d)
theorem shA_go {l : List En} (hl : (l.length : Int) ≤ 100000) : ∀ (k i : Nat), i + k = l.length → shA_f l (k + 1) (i : Int) = some (1, (l.length : Int)) := by
  intro k
  induction k with
  | zero =>
    intro i hi
    have : i = l.length := by omega
    subst this
    rw [shA_fs, bif_dT (by omega), bif_dF (by omega)]
  | succ k ih =>
    intro i hi
    rw [shA_fs, bif_dT (by omega), bif_dT (by omega), show IntKind.i64.wrap ((i : Int) + 1) = ((i + 1 : Nat) : Int) by rw [w8n (by omega) (by omega)]; omega]
    simp only [beq_self_eq_true, ba_self, Bool.and_self, Bool.not_true, cond_false]
    exact ih (i + 1) (by omega)
theorem sh_is (l : List En) (hl : (l.length : Int) ≤ 100000) : KnownR Try.prog [] 15 [.list (rowA gE l) l.length, .list (rowA gE l) l.length] (.bool true) [] := by
  have h := shA_go hl l.length 0 (by omega)
  exact shK l _ hl (by simp) (shA_ok l hl _ _ _ h)
end Go.Proofs.Ytfpabkpmcmfbhaa
