/- Layer 33: what is asked, of both. -/
import Derived.Test.YtfpabkpmcmfbhaaLU
import Derived.ProofKit
import Derived.IntWalk
namespace Go.Proofs.Ytfpabkpmcmfbhaa
open Go Go.RowKit
set_option linter.unusedVariables false
set_option linter.unusedSimpArgs false
set_option linter.unnecessarySimpa false
set_option maxHeartbeats 8000000
set_option maxRecDepth 100000
abbrev En := Int × Int × Int × ByteArray × Int × Int × Int
instance : Inhabited En := ⟨(0, 0, 0, ByteArray.empty, 0, 0, 0)⟩
/-- an entry -/
def gE (m : En) : List Value := [.int .i64 m.1, .int .i64 m.2.1, .int .i64 m.2.2.1, .string m.2.2.2.1, .int .i64 m.2.2.2.2.1, .int .i64 m.2.2.2.2.2.1, .int .i64 m.2.2.2.2.2.2]
theorem gE_inj {l m : List En} : rowA gE l = rowA gE m ↔ l = m := ⟨row_inj (k := 7) (fun _ => rfl) (by decide) (fun a b h => by obtain ⟨_, _, _, _, _, _, _⟩ := a; obtain ⟨_, _, _, _, _, _, _⟩ := b; simpa [gE] using h), fun h => by rw [h]⟩
noncomputable def pcA_hd (m : Int) (ld : List Int) (es : List En) : Hd := headD Try.prog [] GTab.none 3000 27 [.val (.int .i64 m), .list (rowA gI ld) ld.length, .list (rowA gE es) es.length] [(0, .b 1), (4, .b 0), (7, .b 1), (13, .b 0), (14, .stop)]
noncomputable def pcA_S (m : Int) (ld : List Int) (es : List En) (y0 : Int) : St := ((entryK 2 42 [27, 25, 29, 8, 24, 28, 26, 30] 1 0 (pcA_hd m ld es).s).updF [(23, .int .i64 y0)] [])
theorem pcA_n (m : Int) (ld : List Int) (es : List En) (hm : 0 ≤ m ∧ m ≤ 10000) (hl : 1 ≤ (ld.length : Int) ∧ (ld.length : Int) ≤ 8) : 2 = (pcA_hd m ld es).s.hs.next := by kernel_rfl
theorem pcA_r (m : Int) (ld : List Int) (es : List En) (hm : 0 ≤ m ∧ m ≤ 10000) (hl : 1 ≤ (ld.length : Int) ∧ (ld.length : Int) ≤ 8) : (pcA_hd m ld es).s.hs.rd < bitOf 2 := by
  have e : (pcA_hd m ld es).s.hs.rd = 0 := by kernel_rfl
  rw [e]; exact blt_iff.1 (by kernel_rfl)
theorem pcA_w (m : Int) (ld : List Int) (es : List En) (hm : 0 ≤ m ∧ m ≤ 10000) (hl : 1 ≤ (ld.length : Int) ∧ (ld.length : Int) ≤ 8) : (pcA_hd m ld es).s.hs.wr < bitOf 2 := by
  have e : (pcA_hd m ld es).s.hs.wr = 0 := by kernel_rfl
  rw [e]; exact blt_iff.1 (by kernel_rfl)
theorem pcA_e0 (m : Int) (ld : List Int) (es : List En) (hm : 0 ≤ m ∧ m ≤ 10000) (hl : 1 ≤ (ld.length : Int) ∧ (ld.length : Int) ≤ 8) : canonS 2 42 [] [27, 25, 29, 8, 24, 28, 26, 30] 2 1 0 (pcA_hd m ld es).s = some (pcA_S m ld es ((0 : Int))) := by kernel_rfl
theorem pcA_e1 (m : Int) (ld : List Int) (es : List En) (hm : 0 ≤ m ∧ m ≤ 10000) (hl : 1 ≤ (ld.length : Int) ∧ (ld.length : Int) ≤ 8) : canonOk 2 42 [] 2 (pcA_hd m ld es).s = true := canonOkF_eq.symm.trans (by kernel_rfl)
def pcA_X : Nat → VX
  | 0 => .ret
  | 1 => .exit 0
  | _ => .normal
noncomputable def pcA_E (kE : Nat) (m : Int) (ld : List Int) (es : List En) (y0 : Int) : St := match kE with
  | 0 => ((bodySt (bodyK Try.prog ([] : Vars).length GTab.none 3000 (pcA_hd m ld es) (pcA_S m ld es y0 ) [(0, .b 1), (1, .b 1), (2, .b 1), (3, .vals ([Value.int IntKind.i64 (el ld y0)])), (4, .b 1), (8, .b 1)] 2 42 [27, 25, 29, 8, 24, 28, 26, 30] 42 1 0)).updF [(23, .int .i64 y0)] [])
  | 1 => ((bodySt (bodyK Try.prog ([] : Vars).length GTab.none 3000 (pcA_hd m ld es) (pcA_S m ld es y0 ) [(0, .b 0)] 2 42 [27, 25, 29, 8, 24, 28, 26, 30] 42 1 0)).updF [(23, .int .i64 y0)] [])
  | _ => (pcA_hd m ld es).s
theorem pcA_p0 (m : Int) (ld : List Int) (es : List En) (y0 : Int) : bodyK Try.prog ([] : Vars).length GTab.none 3000 (pcA_hd m ld es) (pcA_S m ld es y0 ) [(0, .b 1), (1, .b 1), (2, .b 1), (3, .vals ([Value.int IntKind.i64 (el ld y0)])), (4, .b 1), (8, .b 1)] 2 42 [27, 25, 29, 8, 24, 28, 26, 30] 42 1 0 = some (.ret, pcA_E 0 m ld es (y0), [(!decide (el ld y0 ≤ (10000 : Int))) = true, (decide (el ld y0 ≥ (0 : Int))) = true, segC (rowA (gI) (ld)) (((y0).toNat) * 1 + 0) 1 = some ([Value.int IntKind.i64 (el ld y0)]), (decide (y0 < (↑ld.length : Int))) = true, (decide ((0 : Int) ≤ y0)) = true, (decide (y0 < (↑ld.length : Int))) = true]) := by kernel_rfl
theorem pcA_q0 (m : Int) (ld : List Int) (es : List En) (y0 : Int) : (pcA_E 0 m ld es (y0)).hs.next = 42 := by kernel_rfl
theorem pcA_p1 (m : Int) (ld : List Int) (es : List En) (y0 : Int) : bodyK Try.prog ([] : Vars).length GTab.none 3000 (pcA_hd m ld es) (pcA_S m ld es y0 ) [(0, .b 1), (1, .b 1), (2, .b 1), (3, .vals ([Value.int IntKind.i64 (el ld y0)])), (4, .b 1), (8, .b 0)] 2 42 [27, 25, 29, 8, 24, 28, 26, 30] 2 1 0 = some (.normal, (pcA_S m ld es (IntKind.i64.wrap (y0 + (1 : Int)))), [(!decide (el ld y0 ≤ (10000 : Int))) = false, (decide (el ld y0 ≥ (0 : Int))) = true, segC (rowA (gI) (ld)) (((y0).toNat) * 1 + 0) 1 = some ([Value.int IntKind.i64 (el ld y0)]), (decide (y0 < (↑ld.length : Int))) = true, (decide ((0 : Int) ≤ y0)) = true, (decide (y0 < (↑ld.length : Int))) = true]) := by kernel_rfl
theorem pcA_p2 (m : Int) (ld : List Int) (es : List En) (y0 : Int) : bodyK Try.prog ([] : Vars).length GTab.none 3000 (pcA_hd m ld es) (pcA_S m ld es y0 ) [(0, .b 1), (1, .b 1), (2, .b 1), (3, .vals ([Value.int IntKind.i64 (el ld y0)])), (4, .b 0)] 2 42 [27, 25, 29, 8, 24, 28, 26, 30] 42 1 0 = some (.ret, pcA_E 0 m ld es (y0), [(decide (el ld y0 ≥ (0 : Int))) = false, segC (rowA (gI) (ld)) (((y0).toNat) * 1 + 0) 1 = some ([Value.int IntKind.i64 (el ld y0)]), (decide (y0 < (↑ld.length : Int))) = true, (decide ((0 : Int) ≤ y0)) = true, (decide (y0 < (↑ld.length : Int))) = true]) := by kernel_rfl
theorem pcA_q2 (m : Int) (ld : List Int) (es : List En) (y0 : Int) : (pcA_E 0 m ld es (y0)).hs.next = 42 := by kernel_rfl
theorem pcA_p3 (m : Int) (ld : List Int) (es : List En) (y0 : Int) : bodyK Try.prog ([] : Vars).length GTab.none 3000 (pcA_hd m ld es) (pcA_S m ld es y0 ) [(0, .b 0)] 2 42 [27, 25, 29, 8, 24, 28, 26, 30] 42 1 0 = some (.exit 0, pcA_E 1 m ld es (y0), [(decide (y0 < (↑ld.length : Int))) = false]) := by kernel_rfl
theorem pcA_q3 (m : Int) (ld : List Int) (es : List En) (y0 : Int) : (pcA_E 1 m ld es (y0)).hs.next = 42 := by kernel_rfl
theorem pcA_d0 (m : Int) (ld : List Int) (es : List En) (hm : 0 ≤ m ∧ m ≤ 10000) (hl : 1 ≤ (ld.length : Int) ∧ (ld.length : Int) ≤ 8) (y0 : Int) (hi : (decide (0 ≤ y0 ∧ y0 ≤ (ld.length : Int))) = true) (hq0 : (decide (y0 < (↑ld.length : Int))) = true) : (decide ((0 : Int) ≤ y0)) = true := by
  rcases Bool.eq_false_or_eq_true (decide ((0 : Int) ≤ y0)) with h | h
  · exact h
  · exfalso; (first | (simp_all only [Bool.and_eq_true, Bool.not_eq_true', Bool.false_eq_true, Bool.true_eq_false, reduceCtorEq]; done) | (simp only [sx, sy, eq_self, ne_eq, IntKind.wrap_i64, wrapU64, Int.reduceLT] at * <;> first | contradiction | omega) | omega | ((try simp only [sx, sy, eq_self, ne_eq, IntKind.wrap_i64, wrapU64, Int.reduceLT] at *) <;> omega) | (simp_all; done))
noncomputable def pcA_f (m : Int) (ld : List Int) (es : List En) : Nat → Int → Option (Nat × (Int))
  | 0, _ => none
  | fu + 1, y0 => (bif (decide (0 ≤ y0 ∧ y0 ≤ (ld.length : Int))) then (bif (decide (y0 < (↑ld.length : Int))) then (bif (decide (el ld y0 ≥ (0 : Int))) then (bif (!decide (el ld y0 ≤ (10000 : Int))) then some (0, (y0)) else pcA_f m ld es fu (IntKind.i64.wrap (y0 + (1 : Int)))) else some (0, (y0))) else some (1, (y0))) else none)
theorem pcA_fs (m : Int) (ld : List Int) (es : List En) (fu : Nat) (y0 : Int) : pcA_f m ld es (fu + 1) y0 = (bif (decide (0 ≤ y0 ∧ y0 ≤ (ld.length : Int))) then (bif (decide (y0 < (↑ld.length : Int))) then (bif (decide (el ld y0 ≥ (0 : Int))) then (bif (!decide (el ld y0 ≤ (10000 : Int))) then some (0, (y0)) else pcA_f m ld es fu (IntKind.i64.wrap (y0 + (1 : Int)))) else some (0, (y0))) else some (1, (y0))) else none) := rfl
theorem pcA_f0 (m : Int) (ld : List Int) (es : List En) (y0 : Int) : pcA_f m ld es 0 y0 = none := rfl
theorem pcA_loop (m : Int) (ld : List Int) (es : List En) (hm : 0 ≤ m ∧ m ≤ 10000) (hl : 1 ≤ (ld.length : Int) ∧ (ld.length : Int) ≤ 8) : ∀ (fu : Nat) (y0 : Int) (kk : Nat) (zz : Int), pcA_f m ld es fu y0 = some (kk, zz) → VStep (pcA_hd m ld es).s.hs (pcA_S m ld es y0 ).hs → RoundsC Try.prog [] 2 42 (pcA_hd m ld es).s.hs (pcA_hd m ld es).ro (pcA_hd m ld es).a (pcA_S m ld es y0 ) (pcA_X kk) (pcA_E kk m ld es zz ) ∧ ((pcA_E kk m ld es zz )).hs.next = 42 := by
  intro fu
  induction fu with
  | zero =>
    intro y0 kk zz hf hSz
    have hf := (pcA_f0 m ld es y0 ).symm.trans hf
    simp at hf
  | succ fu ih =>
    intro y0 kk zz hf hSz
    have hf := (pcA_fs m ld es fu y0 ).symm.trans hf
    rcases bif_or hf with ⟨hi, hf⟩ | ⟨hi, hf⟩
    case inr => cases hf
    rcases bif_or hf with ⟨hq0, hf⟩ | ⟨hq0, hf⟩
    ·
      have hq1 := pcA_d0 m ld es hm hl y0 hi hq0 
      rcases bif_or hf with ⟨hq2, hf⟩ | ⟨hq2, hf⟩
      ·
        rcases bif_or hf with ⟨hq3, hf⟩ | ⟨hq3, hf⟩
        ·
          injection hf with hf; injection hf with e1 e2; subst e1; subst e2; have hb1 := pcA_p0 m ld es y0 ; have hb2 := body_canon hb1; have hb3 := hb2 ⟨hq3, hq2, (seg_row (g := (gI)) (k := 1) (fun _ => rfl) (by first | exact of_decide_eq_true hq1 | simpa using of_decide_eq_true hq1) (by first | exact of_decide_eq_true hq0 | (simpa using of_decide_eq_true hq0; done) | (have hx1 := of_decide_eq_true hq0; have hx2 := of_decide_eq_true hi; simp only [List.length_reverse, List.length_set] at *; omega)) (by decide) rfl), hq0, hq1, hq0, trivial⟩; obtain ⟨sz1, kz1, kz2, kz3⟩ := hb3; exact ⟨rounds_end mix (T := GTab.none) GOk.none (pcA_n m ld es hm hl ) (pcA_r m ld es hm hl ) (pcA_w m ld es hm hl ) kz1 (fun h => by cases h) hSz kz2 kz3, pcA_q0 m ld es y0 ⟩
        ·
          have hb1 := pcA_p1 m ld es y0 ; have hb2 := body_canon hb1; have hb3 := hb2 ⟨hq3, hq2, (seg_row (g := (gI)) (k := 1) (fun _ => rfl) (by first | exact of_decide_eq_true hq1 | simpa using of_decide_eq_true hq1) (by first | exact of_decide_eq_true hq0 | (simpa using of_decide_eq_true hq0; done) | (have hx1 := of_decide_eq_true hq0; have hx2 := of_decide_eq_true hi; simp only [List.length_reverse, List.length_set] at *; omega)) (by decide) rfl), hq0, hq1, hq0, trivial⟩; obtain ⟨sz1, kz1, kz2, kz3⟩ := hb3; obtain ⟨gz1, gz2⟩ := ih (IntKind.i64.wrap (y0 + (1 : Int))) kk zz hf (rounds_step mix (T := GTab.none) GOk.none (pcA_n m ld es hm hl ) (pcA_r m ld es hm hl ) (pcA_w m ld es hm hl ) kz1 hSz kz2 kz3); exact ⟨rounds_next mix (T := GTab.none) GOk.none (pcA_n m ld es hm hl ) (pcA_r m ld es hm hl ) (pcA_w m ld es hm hl ) kz1 hSz kz2 kz3 (fun _ => gz1), gz2⟩
      ·
        injection hf with hf; injection hf with e1 e2; subst e1; subst e2; have hb1 := pcA_p2 m ld es y0 ; have hb2 := body_canon hb1; have hb3 := hb2 ⟨hq2, (seg_row (g := (gI)) (k := 1) (fun _ => rfl) (by first | exact of_decide_eq_true hq1 | simpa using of_decide_eq_true hq1) (by first | exact of_decide_eq_true hq0 | (simpa using of_decide_eq_true hq0; done) | (have hx1 := of_decide_eq_true hq0; have hx2 := of_decide_eq_true hi; simp only [List.length_reverse, List.length_set] at *; omega)) (by decide) rfl), hq0, hq1, hq0, trivial⟩; obtain ⟨sz1, kz1, kz2, kz3⟩ := hb3; exact ⟨rounds_end mix (T := GTab.none) GOk.none (pcA_n m ld es hm hl ) (pcA_r m ld es hm hl ) (pcA_w m ld es hm hl ) kz1 (fun h => by cases h) hSz kz2 kz3, pcA_q2 m ld es y0 ⟩
    ·
      injection hf with hf; injection hf with e1 e2; subst e1; subst e2; have hb1 := pcA_p3 m ld es y0 ; have hb2 := body_canon hb1; have hb3 := hb2 ⟨hq0, trivial⟩; obtain ⟨sz1, kz1, kz2, kz3⟩ := hb3; exact ⟨rounds_end mix (T := GTab.none) GOk.none (pcA_n m ld es hm hl ) (pcA_r m ld es hm hl ) (pcA_w m ld es hm hl ) kz1 (fun h => by cases h) hSz kz2 kz3, pcA_q3 m ld es y0 ⟩
theorem pcA_ok (m : Int) (ld : List Int) (es : List En) (hm : 0 ≤ m ∧ m ≤ 10000) (hl : 1 ≤ (ld.length : Int) ∧ (ld.length : Int) ≤ 8) (fu kk : Nat) (zz : Int) (hf : pcA_f m ld es fu ((0 : Int)) = some (kk, zz)) : ∀ B : Bd, B.L = [] → LoopOk Try.prog B (pcA_hd m ld es).ro (pcA_hd m ld es).a (pcA_hd m ld es).s (pcA_X kk) (pcA_E kk m ld es zz ) := by
  have hSz := begin_step (pcA_n m ld es hm hl ) (pcA_r m ld es hm hl ) (pcA_w m ld es hm hl ) (pcA_e0 m ld es hm hl ) (pcA_e1 m ld es hm hl )
  obtain ⟨gz1, gz2⟩ := pcA_loop m ld es hm hl fu ((0 : Int)) kk zz hf hSz
  exact rounds_ok (pcA_n m ld es hm hl ) (Nat.le_of_ble_eq_true (by kernel_rfl)) gz2 (rounds_begin (pcA_n m ld es hm hl ) (pcA_r m ld es hm hl ) (pcA_w m ld es hm hl ) (pcA_e0 m ld es hm hl ) (pcA_e1 m ld es hm hl ) (fun _ => gz1))

theorem pc0_p0 (m : Int) (ld : List Int) (es : List En) (pcA_z0 : Int)  (hm : 0 ≤ m ∧ m ≤ 10000) (hl : 1 ≤ (ld.length : Int) ∧ (ld.length : Int) ≤ 8) (pcA_k0 : (decide (m ≥ (0 : Int))) = true) (pcA_k4 : (!decide (m ≤ (10000 : Int))) = false) (pcA_k7 : (decide ((↑ld.length : Int) ≥ (1 : Int))) = true) (pcA_k13 : (!decide ((↑ld.length : Int) ≤ (8 : Int))) = false) (pcA_l : ∀ B : Bd, B.L = [] → LoopOk Try.prog B (pcA_hd m ld es).ro (pcA_hd m ld es).a (pcA_hd m ld es).s (pcA_X 0) (pcA_E 0 m ld es pcA_z0 )) : KnownR Try.prog [] 27 [.val (.int .i64 m), .list (rowA gI ld) ld.length, .list (rowA gE es) es.length] (.int .i64 ((2 : Int))) [] :=
  knownR_eq (v := Value.int IntKind.i64 (2 : Int)) (bs := []) (open_resD mix (GOk.add GOk.none pcA_l) (T := (GTab.add GTab.none 5 (pcA_hd m ld es).ro (pcA_hd m ld es).a (pcA_hd m ld es).s (pcA_X 0) (pcA_E 0 m ld es pcA_z0 ) (by kernel_rfl))) (fuel := 3000) (es := []) (ans := [(0, .b 1), (4, .b 0), (7, .b 1), (13, .b 0), (14, .loop (pcA_X 0) (pcA_E 0 m ld es pcA_z0 )), ]) (log := [LoopRes Try.prog ([] : Vars).length (GTab.add GTab.none 5 (pcA_hd m ld es).ro (pcA_hd m ld es).a (pcA_hd m ld es).s (pcA_X 0) (pcA_E 0 m ld es pcA_z0 ) (by kernel_rfl)) (pcA_hd m ld es).ro (pcA_hd m ld es).a (pcA_hd m ld es).s (pcA_X 0) (pcA_E 0 m ld es pcA_z0 ), (!decide ((↑ld.length : Int) ≤ (8 : Int))) = false, (decide ((↑ld.length : Int) ≥ (1 : Int))) = true, (!decide (m ≤ (10000 : Int))) = false, (decide (m ≥ (0 : Int))) = true]) (by kernel_rfl) ⟨(loop_known2 add_eq), pcA_k13, pcA_k7, pcA_k4, pcA_k0, trivial⟩ (by kernel_rfl)) (by first | rfl | (simp; done) | (simp_all; done)) (by first | rfl | (simp [rowA_nil]; done) | (simp only [rowA_eq]; rfl) | (simp_all [rowA_nil]; done))
set_option maxHeartbeats 8000000 in
theorem pc0 (m : Int) (ld : List Int) (es : List En) (pcA_z0 : Int)  (hm : 0 ≤ m ∧ m ≤ 10000) (hl : 1 ≤ (ld.length : Int) ∧ (ld.length : Int) ≤ 8) (pcA_k0 : (decide (m ≥ (0 : Int))) = true) (pcA_k4 : (!decide (m ≤ (10000 : Int))) = false) (pcA_k7 : (decide ((↑ld.length : Int) ≥ (1 : Int))) = true) (pcA_k13 : (!decide ((↑ld.length : Int) ≤ (8 : Int))) = false) (pcA_l : ∀ B : Bd, B.L = [] → LoopOk Try.prog B (pcA_hd m ld es).ro (pcA_hd m ld es).a (pcA_hd m ld es).s (pcA_X 0) (pcA_E 0 m ld es pcA_z0 )) : KnownR Try.prog [] 27 [.val (.int .i64 m), .list (rowA gI ld) ld.length, .list (rowA gE es) es.length] (.int .i64 ((2 : Int))) [] := by
  exact pc0_p0 m ld es pcA_z0 hm hl pcA_k0 pcA_k4 pcA_k7 pcA_k13 pcA_l

theorem pcL_p0 (m : Int) (ld : List Int) (es : List En) (pcA_z0 : Int)  (hm : 0 ≤ m ∧ m ≤ 10000) (hl : 1 ≤ (ld.length : Int) ∧ (ld.length : Int) ≤ 8) (he : ¬ (es.length : Int) ≤ 2000) (pcA_k0 : (decide (m ≥ (0 : Int))) = true) (pcA_k4 : (!decide (m ≤ (10000 : Int))) = false) (pcA_k7 : (decide ((↑ld.length : Int) ≥ (1 : Int))) = true) (pcA_k13 : (!decide ((↑ld.length : Int) ≤ (8 : Int))) = false) (pcA_l : ∀ B : Bd, B.L = [] → LoopOk Try.prog B (pcA_hd m ld es).ro (pcA_hd m ld es).a (pcA_hd m ld es).s (pcA_X 1) (pcA_E 1 m ld es pcA_z0 )) (hq0 : (decide ((↑es.length : Int) > (2000 : Int))) = true) : KnownR Try.prog [] 27 [.val (.int .i64 m), .list (rowA gI ld) ld.length, .list (rowA gE es) es.length] (.int .i64 ((4 : Int))) [] :=
  knownR_eq (v := Value.int IntKind.i64 (4 : Int)) (bs := []) (open_resD mix (GOk.add GOk.none pcA_l) (T := (GTab.add GTab.none 5 (pcA_hd m ld es).ro (pcA_hd m ld es).a (pcA_hd m ld es).s (pcA_X 1) (pcA_E 1 m ld es pcA_z0 ) (by kernel_rfl))) (fuel := 3000) (es := []) (ans := [(0, .b 1), (4, .b 0), (7, .b 1), (13, .b 0), (14, .loop (pcA_X 1) (pcA_E 1 m ld es pcA_z0 )), (15, .b 1)]) (log := [(decide ((↑es.length : Int) > (2000 : Int))) = true, LoopRes Try.prog ([] : Vars).length (GTab.add GTab.none 5 (pcA_hd m ld es).ro (pcA_hd m ld es).a (pcA_hd m ld es).s (pcA_X 1) (pcA_E 1 m ld es pcA_z0 ) (by kernel_rfl)) (pcA_hd m ld es).ro (pcA_hd m ld es).a (pcA_hd m ld es).s (pcA_X 1) (pcA_E 1 m ld es pcA_z0 ), (!decide ((↑ld.length : Int) ≤ (8 : Int))) = false, (decide ((↑ld.length : Int) ≥ (1 : Int))) = true, (!decide (m ≤ (10000 : Int))) = false, (decide (m ≥ (0 : Int))) = true]) (by kernel_rfl) ⟨hq0, (loop_known2 add_eq), pcA_k13, pcA_k7, pcA_k4, pcA_k0, trivial⟩ (by kernel_rfl)) (by first | rfl | (simp; done) | (simp_all; done)) (by first | rfl | (simp [rowA_nil]; done) | (simp only [rowA_eq]; rfl) | (simp_all [rowA_nil]; done))
set_option maxHeartbeats 8000000 in
theorem pcL (m : Int) (ld : List Int) (es : List En) (pcA_z0 : Int)  (hm : 0 ≤ m ∧ m ≤ 10000) (hl : 1 ≤ (ld.length : Int) ∧ (ld.length : Int) ≤ 8) (he : ¬ (es.length : Int) ≤ 2000) (pcA_k0 : (decide (m ≥ (0 : Int))) = true) (pcA_k4 : (!decide (m ≤ (10000 : Int))) = false) (pcA_k7 : (decide ((↑ld.length : Int) ≥ (1 : Int))) = true) (pcA_k13 : (!decide ((↑ld.length : Int) ≤ (8 : Int))) = false) (pcA_l : ∀ B : Bd, B.L = [] → LoopOk Try.prog B (pcA_hd m ld es).ro (pcA_hd m ld es).a (pcA_hd m ld es).s (pcA_X 1) (pcA_E 1 m ld es pcA_z0 )) : KnownR Try.prog [] 27 [.val (.int .i64 m), .list (rowA gI ld) ld.length, .list (rowA gE es) es.length] (.int .i64 ((4 : Int))) [] := by
  have hq0 : (decide ((↑es.length : Int) > (2000 : Int))) = true := by
    rcases Bool.eq_false_or_eq_true (decide ((↑es.length : Int) > (2000 : Int))) with h | h
    · exact h
    · exfalso; (first | (simp_all only [Bool.and_eq_true, Bool.not_eq_true', Bool.false_eq_true, Bool.true_eq_false, reduceCtorEq]; done) | (simp only [sx, sy, eq_self, ne_eq, IntKind.wrap_i64, wrapU64, Int.reduceLT] at * <;> first | contradiction | omega) | omega | ((try simp only [sx, sy, eq_self, ne_eq, IntKind.wrap_i64, wrapU64, Int.reduceLT] at *) <;> omega) | (simp_all; done))
  exact pcL_p0 m ld es pcA_z0 hm hl he pcA_k0 pcA_k4 pcA_k7 pcA_k13 pcA_l hq0

theorem pcE_p0 (m : Int) (ld : List Int) (es : List En) (hE : ¬ (0 ≤ m ∧ m ≤ 10000 ∧ 1 ≤ (ld.length : Int) ∧ (ld.length : Int) ≤ 8)) (hq0 : (decide (m ≥ (0 : Int))) = true) (hq1 : (!decide (m ≤ (10000 : Int))) = true) : KnownR Try.prog [] 27 [.val (.int .i64 m), .list (rowA gI ld) ld.length, .list (rowA gE es) es.length] (.int .i64 ((2 : Int))) [] :=
  knownR_eq (v := Value.int IntKind.i64 (2 : Int)) (bs := []) (open_resD mix GOk.none (T := GTab.none) (fuel := 3000) (es := []) (ans := [(0, .b 1), (4, .b 1)]) (log := [(!decide (m ≤ (10000 : Int))) = true, (decide (m ≥ (0 : Int))) = true]) (by kernel_rfl) ⟨hq1, hq0, trivial⟩ (by kernel_rfl)) (by first | rfl | (simp; done) | (simp_all; done)) (by first | rfl | (simp [rowA_nil]; done) | (simp only [rowA_eq]; rfl) | (simp_all [rowA_nil]; done))
theorem pcE_p1 (m : Int) (ld : List Int) (es : List En) (hE : ¬ (0 ≤ m ∧ m ≤ 10000 ∧ 1 ≤ (ld.length : Int) ∧ (ld.length : Int) ≤ 8)) (hq0 : (decide (m ≥ (0 : Int))) = true) (hq1 : (!decide (m ≤ (10000 : Int))) = false) (hq2 : (decide ((↑ld.length : Int) ≥ (1 : Int))) = true) (hq3 : (!decide ((↑ld.length : Int) ≤ (8 : Int))) = true) : KnownR Try.prog [] 27 [.val (.int .i64 m), .list (rowA gI ld) ld.length, .list (rowA gE es) es.length] (.int .i64 ((2 : Int))) [] :=
  knownR_eq (v := Value.int IntKind.i64 (2 : Int)) (bs := []) (open_resD mix GOk.none (T := GTab.none) (fuel := 3000) (es := []) (ans := [(0, .b 1), (4, .b 0), (7, .b 1), (13, .b 1)]) (log := [(!decide ((↑ld.length : Int) ≤ (8 : Int))) = true, (decide ((↑ld.length : Int) ≥ (1 : Int))) = true, (!decide (m ≤ (10000 : Int))) = false, (decide (m ≥ (0 : Int))) = true]) (by kernel_rfl) ⟨hq3, hq2, hq1, hq0, trivial⟩ (by kernel_rfl)) (by first | rfl | (simp; done) | (simp_all; done)) (by first | rfl | (simp [rowA_nil]; done) | (simp only [rowA_eq]; rfl) | (simp_all [rowA_nil]; done))
theorem pcE_p2 (m : Int) (ld : List Int) (es : List En) (hE : ¬ (0 ≤ m ∧ m ≤ 10000 ∧ 1 ≤ (ld.length : Int) ∧ (ld.length : Int) ≤ 8)) (hq0 : (decide (m ≥ (0 : Int))) = true) (hq1 : (!decide (m ≤ (10000 : Int))) = false) (hq2 : (decide ((↑ld.length : Int) ≥ (1 : Int))) = false) : KnownR Try.prog [] 27 [.val (.int .i64 m), .list (rowA gI ld) ld.length, .list (rowA gE es) es.length] (.int .i64 ((2 : Int))) [] :=
  knownR_eq (v := Value.int IntKind.i64 (2 : Int)) (bs := []) (open_resD mix GOk.none (T := GTab.none) (fuel := 3000) (es := []) (ans := [(0, .b 1), (4, .b 0), (7, .b 0)]) (log := [(decide ((↑ld.length : Int) ≥ (1 : Int))) = false, (!decide (m ≤ (10000 : Int))) = false, (decide (m ≥ (0 : Int))) = true]) (by kernel_rfl) ⟨hq2, hq1, hq0, trivial⟩ (by kernel_rfl)) (by first | rfl | (simp; done) | (simp_all; done)) (by first | rfl | (simp [rowA_nil]; done) | (simp only [rowA_eq]; rfl) | (simp_all [rowA_nil]; done))
theorem pcE_p3 (m : Int) (ld : List Int) (es : List En) (hE : ¬ (0 ≤ m ∧ m ≤ 10000 ∧ 1 ≤ (ld.length : Int) ∧ (ld.length : Int) ≤ 8)) (hq0 : (decide (m ≥ (0 : Int))) = false) : KnownR Try.prog [] 27 [.val (.int .i64 m), .list (rowA gI ld) ld.length, .list (rowA gE es) es.length] (.int .i64 ((2 : Int))) [] :=
  knownR_eq (v := Value.int IntKind.i64 (2 : Int)) (bs := []) (open_resD mix GOk.none (T := GTab.none) (fuel := 3000) (es := []) (ans := [(0, .b 0)]) (log := [(decide (m ≥ (0 : Int))) = false]) (by kernel_rfl) ⟨hq0, trivial⟩ (by kernel_rfl)) (by first | rfl | (simp; done) | (simp_all; done)) (by first | rfl | (simp [rowA_nil]; done) | (simp only [rowA_eq]; rfl) | (simp_all [rowA_nil]; done))
set_option maxHeartbeats 8000000 in
theorem pcE (m : Int) (ld : List Int) (es : List En) (hE : ¬ (0 ≤ m ∧ m ≤ 10000 ∧ 1 ≤ (ld.length : Int) ∧ (ld.length : Int) ≤ 8)) : KnownR Try.prog [] 27 [.val (.int .i64 m), .list (rowA gI ld) ld.length, .list (rowA gE es) es.length] (.int .i64 ((2 : Int))) [] := by
  rcases Bool.eq_false_or_eq_true (decide (m ≥ (0 : Int))) with hq0 | hq0
  ·
    rcases Bool.eq_false_or_eq_true (!decide (m ≤ (10000 : Int))) with hq1 | hq1
    ·
      exact pcE_p0 m ld es hE hq0 hq1
    ·
      rcases Bool.eq_false_or_eq_true (decide ((↑ld.length : Int) ≥ (1 : Int))) with hq2 | hq2
      ·
        have hq3 : (!decide ((↑ld.length : Int) ≤ (8 : Int))) = true := by
          rcases Bool.eq_false_or_eq_true (!decide ((↑ld.length : Int) ≤ (8 : Int))) with h | h
          · exact h
          · exfalso; (first | (simp_all only [Bool.and_eq_true, Bool.not_eq_true', Bool.false_eq_true, Bool.true_eq_false, reduceCtorEq]; done) | (simp only [sx, sy, eq_self, ne_eq, IntKind.wrap_i64, wrapU64, Int.reduceLT] at * <;> first | contradiction | omega) | omega | ((try simp only [sx, sy, eq_self, ne_eq, IntKind.wrap_i64, wrapU64, Int.reduceLT] at *) <;> omega) | (simp_all; done))
        exact pcE_p1 m ld es hE hq0 hq1 hq2 hq3
      ·
        exact pcE_p2 m ld es hE hq0 hq1 hq2
  ·
    exact pcE_p3 m ld es hE hq0

noncomputable def rcA_hd (m : Int) (ld : List Int) (es : List En) : Hd := headD Try.prog [] GTab.none 3000 31 [.val (.int .i64 m), .list (rowA gI ld) ld.length, .list (rowA gE es) es.length] [(0, .b 1), (3, .b 0), (7, .b 0), (11, .b 0), (12, .stop)]
noncomputable def rcA_S (m : Int) (ld : List Int) (es : List En) (y0 : Int) : St := ((entryK 2 42 [31, 23, 27, 33, 25, 29, 32, 24, 28, 34, 26, 30] 1 0 (rcA_hd m ld es).s).updF [(7, .int .i64 y0)] [])
def rcA_X : Nat → VX
  | 0 => .ret
  | 1 => .exit 0
  | _ => .normal
noncomputable def rcA_E (kE : Nat) (m : Int) (ld : List Int) (es : List En) (y0 : Int) : St := match kE with
  | 0 => ((bodySt (bodyK Try.prog ([] : Vars).length GTab.none 3000 (rcA_hd m ld es) (rcA_S m ld es y0 ) [(0, .b 1), (1, .b 1), (2, .b 1), (3, .vals ([Value.int IntKind.i64 (el ld y0)])), (4, .b 1), (7, .b 1)] 2 42 [31, 23, 27, 33, 25, 29, 32, 24, 28, 34, 26, 30] 42 1 0)).updF [(7, .int .i64 y0)] [])
  | 1 => ((bodySt (bodyK Try.prog ([] : Vars).length GTab.none 3000 (rcA_hd m ld es) (rcA_S m ld es y0 ) [(0, .b 0)] 2 42 [31, 23, 27, 33, 25, 29, 32, 24, 28, 34, 26, 30] 42 1 0)).updF [(7, .int .i64 y0)] [])
  | _ => (rcA_hd m ld es).s
theorem rc0_p0 (m : Int) (ld : List Int) (es : List En) (rcA_z0 : Int)  (hm : 0 ≤ m ∧ m ≤ 10000) (hl : 1 ≤ (ld.length : Int) ∧ (ld.length : Int) ≤ 8) (rcA_k0 : (decide (m ≥ (0 : Int))) = true) (rcA_k3 : (!decide (m ≤ (10000 : Int))) = false) (rcA_k7 : (decide ((↑ld.length : Int) < (1 : Int))) = false) (rcA_k11 : (decide ((↑ld.length : Int) > (8 : Int))) = false) (rcA_l : ∀ B : Bd, B.L = [] → LoopOk Try.prog B (rcA_hd m ld es).ro (rcA_hd m ld es).a (rcA_hd m ld es).s (rcA_X 0) (rcA_E 0 m ld es rcA_z0 )) : KnownR Try.prog [] 31 [.val (.int .i64 m), .list (rowA gI ld) ld.length, .list (rowA gE es) es.length] (.int .i64 ((2 : Int))) [] :=
  knownR_eq (v := Value.int IntKind.i64 (2 : Int)) (bs := []) (open_resD mix (GOk.add GOk.none rcA_l) (T := (GTab.add GTab.none 5 (rcA_hd m ld es).ro (rcA_hd m ld es).a (rcA_hd m ld es).s (rcA_X 0) (rcA_E 0 m ld es rcA_z0 ) (by kernel_rfl))) (fuel := 3000) (es := []) (ans := [(0, .b 1), (3, .b 0), (7, .b 0), (11, .b 0), (12, .loop (rcA_X 0) (rcA_E 0 m ld es rcA_z0 )), ]) (log := [LoopRes Try.prog ([] : Vars).length (GTab.add GTab.none 5 (rcA_hd m ld es).ro (rcA_hd m ld es).a (rcA_hd m ld es).s (rcA_X 0) (rcA_E 0 m ld es rcA_z0 ) (by kernel_rfl)) (rcA_hd m ld es).ro (rcA_hd m ld es).a (rcA_hd m ld es).s (rcA_X 0) (rcA_E 0 m ld es rcA_z0 ), (decide ((↑ld.length : Int) > (8 : Int))) = false, (decide ((↑ld.length : Int) < (1 : Int))) = false, (!decide (m ≤ (10000 : Int))) = false, (decide (m ≥ (0 : Int))) = true]) (by kernel_rfl) ⟨(loop_known2 add_eq), rcA_k11, rcA_k7, rcA_k3, rcA_k0, trivial⟩ (by kernel_rfl)) (by first | rfl | (simp; done) | (simp_all; done)) (by first | rfl | (simp [rowA_nil]; done) | (simp only [rowA_eq]; rfl) | (simp_all [rowA_nil]; done))
set_option maxHeartbeats 8000000 in
theorem rc0 (m : Int) (ld : List Int) (es : List En) (rcA_z0 : Int)  (hm : 0 ≤ m ∧ m ≤ 10000) (hl : 1 ≤ (ld.length : Int) ∧ (ld.length : Int) ≤ 8) (rcA_k0 : (decide (m ≥ (0 : Int))) = true) (rcA_k3 : (!decide (m ≤ (10000 : Int))) = false) (rcA_k7 : (decide ((↑ld.length : Int) < (1 : Int))) = false) (rcA_k11 : (decide ((↑ld.length : Int) > (8 : Int))) = false) (rcA_l : ∀ B : Bd, B.L = [] → LoopOk Try.prog B (rcA_hd m ld es).ro (rcA_hd m ld es).a (rcA_hd m ld es).s (rcA_X 0) (rcA_E 0 m ld es rcA_z0 )) : KnownR Try.prog [] 31 [.val (.int .i64 m), .list (rowA gI ld) ld.length, .list (rowA gE es) es.length] (.int .i64 ((2 : Int))) [] := by
  exact rc0_p0 m ld es rcA_z0 hm hl rcA_k0 rcA_k3 rcA_k7 rcA_k11 rcA_l

end Go.Proofs.Ytfpabkpmcmfbhaa
