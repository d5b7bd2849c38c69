/- Layer 2: the reference's searches. -/
import Derived.Test.YtboobndcgilmlaaDoorMJ
import Derived.ProofKit
import Derived.IntWalk
namespace Go.Proofs.YtboobndcgilmlaaDoor
open Go Go.RowKit
set_option linter.unusedVariables false
set_option linter.unusedSimpArgs false
set_option linter.unnecessarySimpa false
set_option maxHeartbeats 8000000
set_option maxRecDepth 100000
attribute [local irreducible] hs lsL
theorem rliD (m : Int) (hw : isW m = true) : KnownR Tryd.prog knMaskKnownL 23 [.val (.int .u64 m)] (.complex .f64 0 (lsL m).length) ([(rowA gI (lsL m), 3)]) := rlist_k hw
noncomputable def rliD_A (p : Int × Unit) : List D := match p with
  | (m, _) => [.val (.int .u64 m)]
noncomputable def rliD_C (p : Int × Unit) : Prop := match p with
  | (m, _) => (isW m = true) ∧ True
noncomputable def rliD_R (p : Int × Unit) : Value × Outs := match p with
  | (m, _) => (.complex .f64 0 (lsL m).length, [(rowA gI (lsL m), 3)])
theorem rliD_inj : ∀ p q, rliD_C p → rliD_C q → rliD_A p = rliD_A q → rliD_R p = rliD_R q := by
  rintro ⟨m, _⟩ ⟨m', _⟩ _ _ e
  simp only [rliD_A, List.cons.injEq, D.list.injEq, D.val.injEq, D.agg.injEq, Value.int.injEq, Value.bool.injEq, Value.string.injEq, Value.agg.injEq, Array.mk.injEq, and_true, true_and, gI_inj, gB_inj, gI_inj] at e
  simp_all
noncomputable def rliD_k : List D → Option (Value × Outs) := fnP rliD_A rliD_C rliD_R
theorem rliD_n (m : Int)   (hw : isW m = true) : KnownR Tryd.prog knMaskKnownL 23 [.val (.int .u64 m)] (.complex .f64 0 (lsL m).length) ([(rowA gI (lsL m), 3)]) := by
  skip
  exact rliD _ hw
theorem rliD_ok : ∀ ds v bs, rliD_k ds = some (v, bs) → KnownR Tryd.prog knMaskKnownL 23 ds v bs := fnP_ok (by
  rintro ⟨m, _⟩ ⟨hw, _⟩
  exact rliD_n _  hw)
theorem rliD_at (m : Int)   (hw : isW m = true) : rliD_k [.val (.int .u64 m)] = some (.complex .f64 0 (lsL m).length, [(rowA gI (lsL m), 3)]) := fnP_at (p := (m, ())) rliD_inj ⟨hw, trivial⟩ rfl rfl
noncomputable def tabRi : GTab := (GTab.fn 18 qRha_k (GTab.fnD 23 rliD_k GTab.none))
theorem tabRi_ok : GOk Tryd.prog knMaskKnownL tabRi := (GOk.fn qRha_ok (GOk.fnD rliD_ok GOk.none))
noncomputable def rco_c0 (m : Int) : Int := ((↑(lsL m).length : Int))
theorem rco_p0 (m : Int) (hw : isW m = true) : KnownR Tryd.prog knMaskKnownL 20 [.val (.int .u64 m)] (.int .i64 ((↑(lsL m).length : Int))) [] :=
  knownR_eq (v := Value.int IntKind.i64 (↑(lsL m).length : Int)) (bs := []) (open_resD mix tabRi_ok (T := tabRi) (fuel := 3000) (es := []) (ans := [(0, .outs (Value.complex FloatKind.f64 (0 : Nat) (lsL m).length) ([(rowA gI (lsL m), (3 : TypeId))]))]) (log := [(GTab.lookD (tabRi) ((23 : Nat)) ([D.val (Value.int IntKind.u64 m)])) = some (Value.complex FloatKind.f64 (0 : Nat) (lsL m).length, [(rowA gI (lsL m), (3 : TypeId))])]) (by kernel_rfl) ⟨(rliD_at (m) (by first | rfl | assumption | omega | (simp; done) | (simp_all; done) | (simp_all; omega))), trivial⟩ (by kernel_rfl)) (by first | rfl | (simp; done) | (simp_all; done)) (by first | rfl | (simp [rowA_nil]; done) | (simp only [rowA_eq]; rfl) | (simp_all [rowA_nil]; done))
set_option maxHeartbeats 8000000 in
theorem rco (m : Int) (hw : isW m = true) : KnownR Tryd.prog knMaskKnownL 20 [.val (.int .u64 m)] (.int .i64 (rco_c0 m)) [] := by
  have e0 : rco_c0 m = ((↑(lsL m).length : Int)) := rfl; rw [e0]; exact rco_p0 m hw

noncomputable def abA_hd (m f : Int) : Hd := headF Tryd.prog knMaskKnownL tabRi 3000 12 [.int .u64 m, .int .i64 f] [(0, .b 0), (3, .b 0), (4, .stop)]
noncomputable def abA_S (m f : Int) (y0 : Int) : St := ((entryK 3 43 [15, 19, 17, 21, 16, 20, 18] 0 0 (abA_hd m f).s).updF [(6, .int .i64 y0)] [])
theorem abA_n (m f : Int) (hw : isW m = true) (h1 : 0 ≤ f ∧ f < 64) : 3 = (abA_hd m f).s.hs.next := by kernel_rfl
theorem abA_r (m f : Int) (hw : isW m = true) (h1 : 0 ≤ f ∧ f < 64) : (abA_hd m f).s.hs.rd < bitOf 3 := by
  have e : (abA_hd m f).s.hs.rd = 0 := by kernel_rfl
  rw [e]; exact blt_iff.1 (by kernel_rfl)
theorem abA_w (m f : Int) (hw : isW m = true) (h1 : 0 ≤ f ∧ f < 64) : (abA_hd m f).s.hs.wr < bitOf 3 := by
  have e : (abA_hd m f).s.hs.wr = 0 := by kernel_rfl
  rw [e]; exact blt_iff.1 (by kernel_rfl)
theorem abA_e0 (m f : Int) (hw : isW m = true) (h1 : 0 ≤ f ∧ f < 64) : canonS 3 43 [] [15, 19, 17, 21, 16, 20, 18] 3 0 0 (abA_hd m f).s = some (abA_S m f (IntKind.i64.wrap (f + (1 : Int)))) := by kernel_rfl
theorem abA_e1 (m f : Int) (hw : isW m = true) (h1 : 0 ≤ f ∧ f < 64) : canonOk 3 43 [] 3 (abA_hd m f).s = true := canonOkF_eq.symm.trans (by kernel_rfl)
def abA_X : Nat → VX
  | 0 => .ret
  | 1 => .exit 0
  | _ => .normal
noncomputable def abA_E (kE : Nat) (m f : Int) (y0 : Int) : St := match kE with
  | 0 => ((bodySt (bodyK Tryd.prog (knMaskKnownL : Vars).length tabRi 3000 (abA_hd m f) (abA_S m f y0 ) [(0, .b 1), (1, .b 1), (2, .b 1)] 3 43 [15, 19, 17, 21, 16, 20, 18] 43 0 0)).updF [(6, .int .i64 y0)] [])
  | 1 => ((bodySt (bodyK Tryd.prog (knMaskKnownL : Vars).length tabRi 3000 (abA_hd m f) (abA_S m f y0 ) [(0, .b 0)] 3 43 [15, 19, 17, 21, 16, 20, 18] 43 0 0)).updF [(6, .int .i64 y0)] [])
  | _ => (abA_hd m f).s
theorem abA_p0 (m f : Int) (y0 : Int) : bodyK Tryd.prog (knMaskKnownL : Vars).length tabRi 3000 (abA_hd m f) (abA_S m f y0 ) [(0, .b 1), (1, .b 1), (2, .b 1)] 3 43 [15, 19, 17, 21, 16, 20, 18] 43 0 0 = some (.ret, abA_E 0 m f (y0), [(hs m y0) = true, (isW m) = true, (decide (y0 < (64 : Int))) = true]) := by kernel_rfl
theorem abA_q0 (m f : Int) (y0 : Int) : (abA_E 0 m f (y0)).hs.next = 43 := by kernel_rfl
theorem abA_p1 (m f : Int) (y0 : Int) : bodyK Tryd.prog (knMaskKnownL : Vars).length tabRi 3000 (abA_hd m f) (abA_S m f y0 ) [(0, .b 1), (1, .b 1), (2, .b 0)] 3 43 [15, 19, 17, 21, 16, 20, 18] 3 0 0 = some (.normal, (abA_S m f (IntKind.i64.wrap (y0 + (1 : Int)))), [(hs m y0) = false, (isW m) = true, (decide (y0 < (64 : Int))) = true]) := by kernel_rfl
theorem abA_p2 (m f : Int) (y0 : Int) : bodyK Tryd.prog (knMaskKnownL : Vars).length tabRi 3000 (abA_hd m f) (abA_S m f y0 ) [(0, .b 0)] 3 43 [15, 19, 17, 21, 16, 20, 18] 43 0 0 = some (.exit 0, abA_E 1 m f (y0), [(decide (y0 < (64 : Int))) = false]) := by kernel_rfl
theorem abA_q2 (m f : Int) (y0 : Int) : (abA_E 1 m f (y0)).hs.next = 43 := by kernel_rfl
theorem abA_d0 (m f : Int) (hw : isW m = true) (h1 : 0 ≤ f ∧ f < 64) (y0 : Int) (hi : (decide (0 ≤ y0 ∧ y0 ≤ 64)) = true) (hq0 : (decide (y0 < (64 : Int))) = true) : (isW m) = true := by
  rcases Bool.eq_false_or_eq_true (isW m) with h | h
  · exact h
  · exfalso; (first | (simp_all only [Bool.and_eq_true, Bool.not_eq_true', Bool.false_eq_true, Bool.true_eq_false, reduceCtorEq]; done) | (simp only [sx, sy, eq_self, ne_eq, IntKind.wrap_i64, wrapU64, Int.reduceLT] at * <;> first | contradiction | omega) | omega | ((try simp only [sx, sy, eq_self, ne_eq, IntKind.wrap_i64, wrapU64, Int.reduceLT] at *) <;> omega) | (simp_all; done))
noncomputable def abA_f (m f : Int) : Nat → Int → Option (Nat × (Int))
  | 0, _ => none
  | fu + 1, y0 => (bif (decide (0 ≤ y0 ∧ y0 ≤ 64)) then (bif (decide (y0 < (64 : Int))) then (bif (hs m y0) then some (0, (y0)) else abA_f m f fu (IntKind.i64.wrap (y0 + (1 : Int)))) else some (1, (y0))) else none)
theorem abA_fs (m f : Int) (fu : Nat) (y0 : Int) : abA_f m f (fu + 1) y0 = (bif (decide (0 ≤ y0 ∧ y0 ≤ 64)) then (bif (decide (y0 < (64 : Int))) then (bif (hs m y0) then some (0, (y0)) else abA_f m f fu (IntKind.i64.wrap (y0 + (1 : Int)))) else some (1, (y0))) else none) := rfl
theorem abA_f0 (m f : Int) (y0 : Int) : abA_f m f 0 y0 = none := rfl
theorem abA_loop (m f : Int) (hw : isW m = true) (h1 : 0 ≤ f ∧ f < 64) : ∀ (fu : Nat) (y0 : Int) (kk : Nat) (zz : Int), abA_f m f fu y0 = some (kk, zz) → VStep (abA_hd m f).s.hs (abA_S m f y0 ).hs → RoundsC Tryd.prog knMaskKnownL 3 43 (abA_hd m f).s.hs (abA_hd m f).ro (abA_hd m f).a (abA_S m f y0 ) (abA_X kk) (abA_E kk m f zz ) ∧ ((abA_E kk m f zz )).hs.next = 43 := by
  intro fu
  induction fu with
  | zero =>
    intro y0 kk zz hf hSz
    have hf := (abA_f0 m f y0 ).symm.trans hf
    simp at hf
  | succ fu ih =>
    intro y0 kk zz hf hSz
    have hf := (abA_fs m f fu y0 ).symm.trans hf
    rcases bif_or hf with ⟨hi, hf⟩ | ⟨hi, hf⟩
    case inr => cases hf
    rcases bif_or hf with ⟨hq0, hf⟩ | ⟨hq0, hf⟩
    ·
      have hq1 := abA_d0 m f hw h1 y0 hi hq0 
      rcases bif_or hf with ⟨hq2, hf⟩ | ⟨hq2, hf⟩
      ·
        injection hf with hf; injection hf with e1 e2; subst e1; subst e2; have hb1 := abA_p0 m f y0 ; have hb2 := body_canon hb1; have hb3 := hb2 ⟨hq2, hq1, hq0, trivial⟩; obtain ⟨sz1, kz1, kz2, kz3⟩ := hb3; exact ⟨rounds_end mix (T := tabRi) tabRi_ok (abA_n m f hw h1 ) (abA_r m f hw h1 ) (abA_w m f hw h1 ) kz1 (fun h => by cases h) hSz kz2 kz3, abA_q0 m f y0 ⟩
      ·
        have hb1 := abA_p1 m f y0 ; have hb2 := body_canon hb1; have hb3 := hb2 ⟨hq2, hq1, hq0, trivial⟩; obtain ⟨sz1, kz1, kz2, kz3⟩ := hb3; obtain ⟨gz1, gz2⟩ := ih (IntKind.i64.wrap (y0 + (1 : Int))) kk zz hf (rounds_step mix (T := tabRi) tabRi_ok (abA_n m f hw h1 ) (abA_r m f hw h1 ) (abA_w m f hw h1 ) kz1 hSz kz2 kz3); exact ⟨rounds_next mix (T := tabRi) tabRi_ok (abA_n m f hw h1 ) (abA_r m f hw h1 ) (abA_w m f hw h1 ) kz1 hSz kz2 kz3 (fun _ => gz1), gz2⟩
    ·
      injection hf with hf; injection hf with e1 e2; subst e1; subst e2; have hb1 := abA_p2 m f y0 ; have hb2 := body_canon hb1; have hb3 := hb2 ⟨hq0, trivial⟩; obtain ⟨sz1, kz1, kz2, kz3⟩ := hb3; exact ⟨rounds_end mix (T := tabRi) tabRi_ok (abA_n m f hw h1 ) (abA_r m f hw h1 ) (abA_w m f hw h1 ) kz1 (fun h => by cases h) hSz kz2 kz3, abA_q2 m f y0 ⟩
theorem abA_ok (m f : Int) (hw : isW m = true) (h1 : 0 ≤ f ∧ f < 64) (fu kk : Nat) (zz : Int) (hf : abA_f m f fu (IntKind.i64.wrap (f + (1 : Int))) = some (kk, zz)) : ∀ B : Bd, B.L = knMaskKnownL → LoopOk Tryd.prog B (abA_hd m f).ro (abA_hd m f).a (abA_hd m f).s (abA_X kk) (abA_E kk m f zz ) := by
  have hSz := begin_step (abA_n m f hw h1 ) (abA_r m f hw h1 ) (abA_w m f hw h1 ) (abA_e0 m f hw h1 ) (abA_e1 m f hw h1 )
  obtain ⟨gz1, gz2⟩ := abA_loop m f hw h1 fu (IntKind.i64.wrap (f + (1 : Int))) kk zz hf hSz
  exact rounds_ok (abA_n m f hw h1 ) (Nat.le_of_ble_eq_true (by kernel_rfl)) gz2 (rounds_begin (abA_n m f hw h1 ) (abA_r m f hw h1 ) (abA_w m f hw h1 ) (abA_e0 m f hw h1 ) (abA_e1 m f hw h1 ) (fun _ => gz1))

noncomputable def ab0_c0 (m f : Int) (abA_z0 : Int)  : Int := (abA_z0)
theorem ab0_p0 (m f : Int) (abA_z0 : Int)  (hw : isW m = true) (h1 : 0 ≤ f ∧ f < 64) (abA_k0 : (decide (f < (0 : Int))) = false) (abA_k3 : (decide (f ≥ (64 : Int))) = false) (abA_l : ∀ B : Bd, B.L = knMaskKnownL → LoopOk Tryd.prog B (abA_hd m f).ro (abA_hd m f).a (abA_hd m f).s (abA_X 0) (abA_E 0 m f abA_z0 )) : Known Tryd.prog knMaskKnownL 12 [.int .u64 m, .int .i64 f] (.tuple #[(.int .i64 (abA_z0)), (.int .i64 ((0 : Int)))]) :=
  open_res mix (GOk.add tabRi_ok abA_l) (T := (GTab.add tabRi 5 (abA_hd m f).ro (abA_hd m f).a (abA_hd m f).s (abA_X 0) (abA_E 0 m f abA_z0 ) (by kernel_rfl))) (fuel := 3000) (ans := [(0, .b 0), (3, .b 0), (4, .loop (abA_X 0) (abA_E 0 m f abA_z0 )), ]) (log := [LoopRes Tryd.prog (knMaskKnownL : Vars).length (GTab.add tabRi 5 (abA_hd m f).ro (abA_hd m f).a (abA_hd m f).s (abA_X 0) (abA_E 0 m f abA_z0 ) (by kernel_rfl)) (abA_hd m f).ro (abA_hd m f).a (abA_hd m f).s (abA_X 0) (abA_E 0 m f abA_z0 ), (decide (f ≥ (64 : Int))) = false, (decide (f < (0 : Int))) = false]) (by kernel_rfl) ⟨(loop_known2 add_eq), abA_k3, abA_k0, trivial⟩ (by kernel_rfl)
set_option maxHeartbeats 8000000 in
theorem ab0 (m f : Int) (abA_z0 : Int)  (hw : isW m = true) (h1 : 0 ≤ f ∧ f < 64) (abA_k0 : (decide (f < (0 : Int))) = false) (abA_k3 : (decide (f ≥ (64 : Int))) = false) (abA_l : ∀ B : Bd, B.L = knMaskKnownL → LoopOk Tryd.prog B (abA_hd m f).ro (abA_hd m f).a (abA_hd m f).s (abA_X 0) (abA_E 0 m f abA_z0 )) : Known Tryd.prog knMaskKnownL 12 [.int .u64 m, .int .i64 f] (.tuple #[(.int .i64 (ab0_c0 m f abA_z0)), (.int .i64 ((0 : Int)))]) := by
  have e0 : ab0_c0 m f abA_z0 = (abA_z0) := rfl; rw [e0]; exact ab0_p0 m f abA_z0 hw h1 abA_k0 abA_k3 abA_l

theorem ab1_p0 (m f : Int) (abA_z0 : Int)  (hw : isW m = true) (h1 : 0 ≤ f ∧ f < 64) (abA_k0 : (decide (f < (0 : Int))) = false) (abA_k3 : (decide (f ≥ (64 : Int))) = false) (abA_l : ∀ B : Bd, B.L = knMaskKnownL → LoopOk Tryd.prog B (abA_hd m f).ro (abA_hd m f).a (abA_hd m f).s (abA_X 1) (abA_E 1 m f abA_z0 )) : Known Tryd.prog knMaskKnownL 12 [.int .u64 m, .int .i64 f] (.tuple #[(.int .i64 ((0 : Int))), (.int .i64 ((6 : Int)))]) :=
  open_res mix (GOk.add tabRi_ok abA_l) (T := (GTab.add tabRi 5 (abA_hd m f).ro (abA_hd m f).a (abA_hd m f).s (abA_X 1) (abA_E 1 m f abA_z0 ) (by kernel_rfl))) (fuel := 3000) (ans := [(0, .b 0), (3, .b 0), (4, .loop (abA_X 1) (abA_E 1 m f abA_z0 )), ]) (log := [LoopRes Tryd.prog (knMaskKnownL : Vars).length (GTab.add tabRi 5 (abA_hd m f).ro (abA_hd m f).a (abA_hd m f).s (abA_X 1) (abA_E 1 m f abA_z0 ) (by kernel_rfl)) (abA_hd m f).ro (abA_hd m f).a (abA_hd m f).s (abA_X 1) (abA_E 1 m f abA_z0 ), (decide (f ≥ (64 : Int))) = false, (decide (f < (0 : Int))) = false]) (by kernel_rfl) ⟨(loop_known2 add_eq), abA_k3, abA_k0, trivial⟩ (by kernel_rfl)
set_option maxHeartbeats 8000000 in
theorem ab1 (m f : Int) (abA_z0 : Int)  (hw : isW m = true) (h1 : 0 ≤ f ∧ f < 64) (abA_k0 : (decide (f < (0 : Int))) = false) (abA_k3 : (decide (f ≥ (64 : Int))) = false) (abA_l : ∀ B : Bd, B.L = knMaskKnownL → LoopOk Tryd.prog B (abA_hd m f).ro (abA_hd m f).a (abA_hd m f).s (abA_X 1) (abA_E 1 m f abA_z0 )) : Known Tryd.prog knMaskKnownL 12 [.int .u64 m, .int .i64 f] (.tuple #[(.int .i64 ((0 : Int))), (.int .i64 ((6 : Int)))]) := by
  exact ab1_p0 m f abA_z0 hw h1 abA_k0 abA_k3 abA_l

theorem ab2_p0 (m f : Int) (h1 : ¬ (0 ≤ f ∧ f < 64)) (hq0 : (decide (f < (0 : Int))) = true) : Known Tryd.prog knMaskKnownL 12 [.int .u64 m, .int .i64 f] (.tuple #[(.int .i64 ((0 : Int))), (.int .i64 ((2 : Int)))]) :=
  open_res mix tabRi_ok (T := tabRi) (fuel := 3000) (ans := [(0, .b 1)]) (log := [(decide (f < (0 : Int))) = true]) (by kernel_rfl) ⟨hq0, trivial⟩ (by kernel_rfl)
theorem ab2_p1 (m f : Int) (h1 : ¬ (0 ≤ f ∧ f < 64)) (hq0 : (decide (f < (0 : Int))) = false) (hq1 : (decide (f ≥ (64 : Int))) = true) : Known Tryd.prog knMaskKnownL 12 [.int .u64 m, .int .i64 f] (.tuple #[(.int .i64 ((0 : Int))), (.int .i64 ((2 : Int)))]) :=
  open_res mix tabRi_ok (T := tabRi) (fuel := 3000) (ans := [(0, .b 0), (3, .b 1)]) (log := [(decide (f ≥ (64 : Int))) = true, (decide (f < (0 : Int))) = false]) (by kernel_rfl) ⟨hq1, hq0, trivial⟩ (by kernel_rfl)
set_option maxHeartbeats 8000000 in
theorem ab2 (m f : Int) (h1 : ¬ (0 ≤ f ∧ f < 64)) : Known Tryd.prog knMaskKnownL 12 [.int .u64 m, .int .i64 f] (.tuple #[(.int .i64 ((0 : Int))), (.int .i64 ((2 : Int)))]) := by
  rcases Bool.eq_false_or_eq_true (decide (f < (0 : Int))) with hq0 | hq0
  ·
    exact ab2_p0 m f h1 hq0
  ·
    have hq1 : (decide (f ≥ (64 : Int))) = true := by
      rcases Bool.eq_false_or_eq_true (decide (f ≥ (64 : Int))) with h | h
      · exact h
      · exfalso; (first | (simp_all only [Bool.and_eq_true, Bool.not_eq_true', Bool.false_eq_true, Bool.true_eq_false, reduceCtorEq]; done) | (simp only [sx, sy, eq_self, ne_eq, IntKind.wrap_i64, wrapU64, Int.reduceLT] at * <;> first | contradiction | omega) | omega | ((try simp only [sx, sy, eq_self, ne_eq, IntKind.wrap_i64, wrapU64, Int.reduceLT] at *) <;> omega) | (simp_all; done))
    exact ab2_p1 m f h1 hq0 hq1

noncomputable def blA_hd (m f : Int) : Hd := headF Tryd.prog knMaskKnownL tabRi 3000 14 [.int .u64 m, .int .i64 f] [(0, .b 0), (3, .b 0), (4, .stop)]
noncomputable def blA_S (m f : Int) (y0 : Int) : St := ((entryK 3 43 [15, 19, 17, 21, 16, 20, 18] 0 0 (blA_hd m f).s).updF [(6, .int .i64 y0)] [])
theorem blA_n (m f : Int) (hw : isW m = true) (h1 : 0 ≤ f ∧ f < 64) : 3 = (blA_hd m f).s.hs.next := by kernel_rfl
theorem blA_r (m f : Int) (hw : isW m = true) (h1 : 0 ≤ f ∧ f < 64) : (blA_hd m f).s.hs.rd < bitOf 3 := by
  have e : (blA_hd m f).s.hs.rd = 0 := by kernel_rfl
  rw [e]; exact blt_iff.1 (by kernel_rfl)
theorem blA_w (m f : Int) (hw : isW m = true) (h1 : 0 ≤ f ∧ f < 64) : (blA_hd m f).s.hs.wr < bitOf 3 := by
  have e : (blA_hd m f).s.hs.wr = 0 := by kernel_rfl
  rw [e]; exact blt_iff.1 (by kernel_rfl)
theorem blA_e0 (m f : Int) (hw : isW m = true) (h1 : 0 ≤ f ∧ f < 64) : canonS 3 43 [] [15, 19, 17, 21, 16, 20, 18] 3 0 0 (blA_hd m f).s = some (blA_S m f (IntKind.i64.wrap (f - (1 : Int)))) := by kernel_rfl
theorem blA_e1 (m f : Int) (hw : isW m = true) (h1 : 0 ≤ f ∧ f < 64) : canonOk 3 43 [] 3 (blA_hd m f).s = true := canonOkF_eq.symm.trans (by kernel_rfl)
def blA_X : Nat → VX
  | 0 => .ret
  | 1 => .exit 0
  | _ => .normal
noncomputable def blA_E (kE : Nat) (m f : Int) (y0 : Int) : St := match kE with
  | 0 => ((bodySt (bodyK Tryd.prog (knMaskKnownL : Vars).length tabRi 3000 (blA_hd m f) (blA_S m f y0 ) [(0, .b 1), (1, .b 1), (2, .b 1)] 3 43 [15, 19, 17, 21, 16, 20, 18] 43 0 0)).updF [(6, .int .i64 y0)] [])
  | 1 => ((bodySt (bodyK Tryd.prog (knMaskKnownL : Vars).length tabRi 3000 (blA_hd m f) (blA_S m f y0 ) [(0, .b 0)] 3 43 [15, 19, 17, 21, 16, 20, 18] 43 0 0)).updF [(6, .int .i64 y0)] [])
  | _ => (blA_hd m f).s
theorem blA_p0 (m f : Int) (y0 : Int) : bodyK Tryd.prog (knMaskKnownL : Vars).length tabRi 3000 (blA_hd m f) (blA_S m f y0 ) [(0, .b 1), (1, .b 1), (2, .b 1)] 3 43 [15, 19, 17, 21, 16, 20, 18] 43 0 0 = some (.ret, blA_E 0 m f (y0), [(hs m y0) = true, (isW m) = true, (decide (y0 ≥ (0 : Int))) = true]) := by kernel_rfl
theorem blA_q0 (m f : Int) (y0 : Int) : (blA_E 0 m f (y0)).hs.next = 43 := by kernel_rfl
theorem blA_p1 (m f : Int) (y0 : Int) : bodyK Tryd.prog (knMaskKnownL : Vars).length tabRi 3000 (blA_hd m f) (blA_S m f y0 ) [(0, .b 1), (1, .b 1), (2, .b 0)] 3 43 [15, 19, 17, 21, 16, 20, 18] 3 0 0 = some (.normal, (blA_S m f (IntKind.i64.wrap (y0 - (1 : Int)))), [(hs m y0) = false, (isW m) = true, (decide (y0 ≥ (0 : Int))) = true]) := by kernel_rfl
theorem blA_p2 (m f : Int) (y0 : Int) : bodyK Tryd.prog (knMaskKnownL : Vars).length tabRi 3000 (blA_hd m f) (blA_S m f y0 ) [(0, .b 0)] 3 43 [15, 19, 17, 21, 16, 20, 18] 43 0 0 = some (.exit 0, blA_E 1 m f (y0), [(decide (y0 ≥ (0 : Int))) = false]) := by kernel_rfl
theorem blA_q2 (m f : Int) (y0 : Int) : (blA_E 1 m f (y0)).hs.next = 43 := by kernel_rfl
theorem blA_d0 (m f : Int) (hw : isW m = true) (h1 : 0 ≤ f ∧ f < 64) (y0 : Int) (hi : (decide (-1 ≤ y0 ∧ y0 ≤ 64)) = true) (hq0 : (decide (y0 ≥ (0 : Int))) = true) : (isW m) = true := by
  rcases Bool.eq_false_or_eq_true (isW m) with h | h
  · exact h
  · exfalso; (first | (simp_all only [Bool.and_eq_true, Bool.not_eq_true', Bool.false_eq_true, Bool.true_eq_false, reduceCtorEq]; done) | (simp only [sx, sy, eq_self, ne_eq, IntKind.wrap_i64, wrapU64, Int.reduceLT] at * <;> first | contradiction | omega) | omega | ((try simp only [sx, sy, eq_self, ne_eq, IntKind.wrap_i64, wrapU64, Int.reduceLT] at *) <;> omega) | (simp_all; done))
noncomputable def blA_f (m f : Int) : Nat → Int → Option (Nat × (Int))
  | 0, _ => none
  | fu + 1, y0 => (bif (decide (-1 ≤ y0 ∧ y0 ≤ 64)) then (bif (decide (y0 ≥ (0 : Int))) then (bif (hs m y0) then some (0, (y0)) else blA_f m f fu (IntKind.i64.wrap (y0 - (1 : Int)))) else some (1, (y0))) else none)
theorem blA_fs (m f : Int) (fu : Nat) (y0 : Int) : blA_f m f (fu + 1) y0 = (bif (decide (-1 ≤ y0 ∧ y0 ≤ 64)) then (bif (decide (y0 ≥ (0 : Int))) then (bif (hs m y0) then some (0, (y0)) else blA_f m f fu (IntKind.i64.wrap (y0 - (1 : Int)))) else some (1, (y0))) else none) := rfl
theorem blA_f0 (m f : Int) (y0 : Int) : blA_f m f 0 y0 = none := rfl
theorem blA_loop (m f : Int) (hw : isW m = true) (h1 : 0 ≤ f ∧ f < 64) : ∀ (fu : Nat) (y0 : Int) (kk : Nat) (zz : Int), blA_f m f fu y0 = some (kk, zz) → VStep (blA_hd m f).s.hs (blA_S m f y0 ).hs → RoundsC Tryd.prog knMaskKnownL 3 43 (blA_hd m f).s.hs (blA_hd m f).ro (blA_hd m f).a (blA_S m f y0 ) (blA_X kk) (blA_E kk m f zz ) ∧ ((blA_E kk m f zz )).hs.next = 43 := by
  intro fu
  induction fu with
  | zero =>
    intro y0 kk zz hf hSz
    have hf := (blA_f0 m f y0 ).symm.trans hf
    simp at hf
  | succ fu ih =>
    intro y0 kk zz hf hSz
    have hf := (blA_fs m f fu y0 ).symm.trans hf
    rcases bif_or hf with ⟨hi, hf⟩ | ⟨hi, hf⟩
    case inr => cases hf
    rcases bif_or hf with ⟨hq0, hf⟩ | ⟨hq0, hf⟩
    ·
      have hq1 := blA_d0 m f hw h1 y0 hi hq0 
      rcases bif_or hf with ⟨hq2, hf⟩ | ⟨hq2, hf⟩
      ·
        injection hf with hf; injection hf with e1 e2; subst e1; subst e2; have hb1 := blA_p0 m f y0 ; have hb2 := body_canon hb1; have hb3 := hb2 ⟨hq2, hq1, hq0, trivial⟩; obtain ⟨sz1, kz1, kz2, kz3⟩ := hb3; exact ⟨rounds_end mix (T := tabRi) tabRi_ok (blA_n m f hw h1 ) (blA_r m f hw h1 ) (blA_w m f hw h1 ) kz1 (fun h => by cases h) hSz kz2 kz3, blA_q0 m f y0 ⟩
      ·
        have hb1 := blA_p1 m f y0 ; have hb2 := body_canon hb1; have hb3 := hb2 ⟨hq2, hq1, hq0, trivial⟩; obtain ⟨sz1, kz1, kz2, kz3⟩ := hb3; obtain ⟨gz1, gz2⟩ := ih (IntKind.i64.wrap (y0 - (1 : Int))) kk zz hf (rounds_step mix (T := tabRi) tabRi_ok (blA_n m f hw h1 ) (blA_r m f hw h1 ) (blA_w m f hw h1 ) kz1 hSz kz2 kz3); exact ⟨rounds_next mix (T := tabRi) tabRi_ok (blA_n m f hw h1 ) (blA_r m f hw h1 ) (blA_w m f hw h1 ) kz1 hSz kz2 kz3 (fun _ => gz1), gz2⟩
    ·
      injection hf with hf; injection hf with e1 e2; subst e1; subst e2; have hb1 := blA_p2 m f y0 ; have hb2 := body_canon hb1; have hb3 := hb2 ⟨hq0, trivial⟩; obtain ⟨sz1, kz1, kz2, kz3⟩ := hb3; exact ⟨rounds_end mix (T := tabRi) tabRi_ok (blA_n m f hw h1 ) (blA_r m f hw h1 ) (blA_w m f hw h1 ) kz1 (fun h => by cases h) hSz kz2 kz3, blA_q2 m f y0 ⟩
theorem blA_ok (m f : Int) (hw : isW m = true) (h1 : 0 ≤ f ∧ f < 64) (fu kk : Nat) (zz : Int) (hf : blA_f m f fu (IntKind.i64.wrap (f - (1 : Int))) = some (kk, zz)) : ∀ B : Bd, B.L = knMaskKnownL → LoopOk Tryd.prog B (blA_hd m f).ro (blA_hd m f).a (blA_hd m f).s (blA_X kk) (blA_E kk m f zz ) := by
  have hSz := begin_step (blA_n m f hw h1 ) (blA_r m f hw h1 ) (blA_w m f hw h1 ) (blA_e0 m f hw h1 ) (blA_e1 m f hw h1 )
  obtain ⟨gz1, gz2⟩ := blA_loop m f hw h1 fu (IntKind.i64.wrap (f - (1 : Int))) kk zz hf hSz
  exact rounds_ok (blA_n m f hw h1 ) (Nat.le_of_ble_eq_true (by kernel_rfl)) gz2 (rounds_begin (blA_n m f hw h1 ) (blA_r m f hw h1 ) (blA_w m f hw h1 ) (blA_e0 m f hw h1 ) (blA_e1 m f hw h1 ) (fun _ => gz1))

noncomputable def bl0_c0 (m f : Int) (blA_z0 : Int)  : Int := (blA_z0)
theorem bl0_p0 (m f : Int) (blA_z0 : Int)  (hw : isW m = true) (h1 : 0 ≤ f ∧ f < 64) (blA_k0 : (decide (f < (0 : Int))) = false) (blA_k3 : (decide (f ≥ (64 : Int))) = false) (blA_l : ∀ B : Bd, B.L = knMaskKnownL → LoopOk Tryd.prog B (blA_hd m f).ro (blA_hd m f).a (blA_hd m f).s (blA_X 0) (blA_E 0 m f blA_z0 )) : Known Tryd.prog knMaskKnownL 14 [.int .u64 m, .int .i64 f] (.tuple #[(.int .i64 (blA_z0)), (.int .i64 ((0 : Int)))]) :=
  open_res mix (GOk.add tabRi_ok blA_l) (T := (GTab.add tabRi 5 (blA_hd m f).ro (blA_hd m f).a (blA_hd m f).s (blA_X 0) (blA_E 0 m f blA_z0 ) (by kernel_rfl))) (fuel := 3000) (ans := [(0, .b 0), (3, .b 0), (4, .loop (blA_X 0) (blA_E 0 m f blA_z0 )), ]) (log := [LoopRes Tryd.prog (knMaskKnownL : Vars).length (GTab.add tabRi 5 (blA_hd m f).ro (blA_hd m f).a (blA_hd m f).s (blA_X 0) (blA_E 0 m f blA_z0 ) (by kernel_rfl)) (blA_hd m f).ro (blA_hd m f).a (blA_hd m f).s (blA_X 0) (blA_E 0 m f blA_z0 ), (decide (f ≥ (64 : Int))) = false, (decide (f < (0 : Int))) = false]) (by kernel_rfl) ⟨(loop_known2 add_eq), blA_k3, blA_k0, trivial⟩ (by kernel_rfl)
set_option maxHeartbeats 8000000 in
theorem bl0 (m f : Int) (blA_z0 : Int)  (hw : isW m = true) (h1 : 0 ≤ f ∧ f < 64) (blA_k0 : (decide (f < (0 : Int))) = false) (blA_k3 : (decide (f ≥ (64 : Int))) = false) (blA_l : ∀ B : Bd, B.L = knMaskKnownL → LoopOk Tryd.prog B (blA_hd m f).ro (blA_hd m f).a (blA_hd m f).s (blA_X 0) (blA_E 0 m f blA_z0 )) : Known Tryd.prog knMaskKnownL 14 [.int .u64 m, .int .i64 f] (.tuple #[(.int .i64 (bl0_c0 m f blA_z0)), (.int .i64 ((0 : Int)))]) := by
  have e0 : bl0_c0 m f blA_z0 = (blA_z0) := rfl; rw [e0]; exact bl0_p0 m f blA_z0 hw h1 blA_k0 blA_k3 blA_l

theorem bl1_p0 (m f : Int) (blA_z0 : Int)  (hw : isW m = true) (h1 : 0 ≤ f ∧ f < 64) (blA_k0 : (decide (f < (0 : Int))) = false) (blA_k3 : (decide (f ≥ (64 : Int))) = false) (blA_l : ∀ B : Bd, B.L = knMaskKnownL → LoopOk Tryd.prog B (blA_hd m f).ro (blA_hd m f).a (blA_hd m f).s (blA_X 1) (blA_E 1 m f blA_z0 )) : Known Tryd.prog knMaskKnownL 14 [.int .u64 m, .int .i64 f] (.tuple #[(.int .i64 ((0 : Int))), (.int .i64 ((6 : Int)))]) :=
  open_res mix (GOk.add tabRi_ok blA_l) (T := (GTab.add tabRi 5 (blA_hd m f).ro (blA_hd m f).a (blA_hd m f).s (blA_X 1) (blA_E 1 m f blA_z0 ) (by kernel_rfl))) (fuel := 3000) (ans := [(0, .b 0), (3, .b 0), (4, .loop (blA_X 1) (blA_E 1 m f blA_z0 )), ]) (log := [LoopRes Tryd.prog (knMaskKnownL : Vars).length (GTab.add tabRi 5 (blA_hd m f).ro (blA_hd m f).a (blA_hd m f).s (blA_X 1) (blA_E 1 m f blA_z0 ) (by kernel_rfl)) (blA_hd m f).ro (blA_hd m f).a (blA_hd m f).s (blA_X 1) (blA_E 1 m f blA_z0 ), (decide (f ≥ (64 : Int))) = false, (decide (f < (0 : Int))) = false]) (by kernel_rfl) ⟨(loop_known2 add_eq), blA_k3, blA_k0, trivial⟩ (by kernel_rfl)
set_option maxHeartbeats 8000000 in
theorem bl1 (m f : Int) (blA_z0 : Int)  (hw : isW m = true) (h1 : 0 ≤ f ∧ f < 64) (blA_k0 : (decide (f < (0 : Int))) = false) (blA_k3 : (decide (f ≥ (64 : Int))) = false) (blA_l : ∀ B : Bd, B.L = knMaskKnownL → LoopOk Tryd.prog B (blA_hd m f).ro (blA_hd m f).a (blA_hd m f).s (blA_X 1) (blA_E 1 m f blA_z0 )) : Known Tryd.prog knMaskKnownL 14 [.int .u64 m, .int .i64 f] (.tuple #[(.int .i64 ((0 : Int))), (.int .i64 ((6 : Int)))]) := by
  exact bl1_p0 m f blA_z0 hw h1 blA_k0 blA_k3 blA_l

theorem bl2_p0 (m f : Int) (h1 : ¬ (0 ≤ f ∧ f < 64)) (hq0 : (decide (f < (0 : Int))) = true) : Known Tryd.prog knMaskKnownL 14 [.int .u64 m, .int .i64 f] (.tuple #[(.int .i64 ((0 : Int))), (.int .i64 ((2 : Int)))]) :=
  open_res mix tabRi_ok (T := tabRi) (fuel := 3000) (ans := [(0, .b 1)]) (log := [(decide (f < (0 : Int))) = true]) (by kernel_rfl) ⟨hq0, trivial⟩ (by kernel_rfl)
theorem bl2_p1 (m f : Int) (h1 : ¬ (0 ≤ f ∧ f < 64)) (hq0 : (decide (f < (0 : Int))) = false) (hq1 : (decide (f ≥ (64 : Int))) = true) : Known Tryd.prog knMaskKnownL 14 [.int .u64 m, .int .i64 f] (.tuple #[(.int .i64 ((0 : Int))), (.int .i64 ((2 : Int)))]) :=
  open_res mix tabRi_ok (T := tabRi) (fuel := 3000) (ans := [(0, .b 0), (3, .b 1)]) (log := [(decide (f ≥ (64 : Int))) = true, (decide (f < (0 : Int))) = false]) (by kernel_rfl) ⟨hq1, hq0, trivial⟩ (by kernel_rfl)
set_option maxHeartbeats 8000000 in
theorem bl2 (m f : Int) (h1 : ¬ (0 ≤ f ∧ f < 64)) : Known Tryd.prog knMaskKnownL 14 [.int .u64 m, .int .i64 f] (.tuple #[(.int .i64 ((0 : Int))), (.int .i64 ((2 : Int)))]) := by
  rcases Bool.eq_false_or_eq_true (decide (f < (0 : Int))) with hq0 | hq0
  ·
    exact bl2_p0 m f h1 hq0
  ·
    have hq1 : (decide (f ≥ (64 : Int))) = true := by
      rcases Bool.eq_false_or_eq_true (decide (f ≥ (64 : Int))) with h | h
      · exact h
      · exfalso; (first | (simp_all only [Bool.and_eq_true, Bool.not_eq_true', Bool.false_eq_true, Bool.true_eq_false, reduceCtorEq]; done) | (simp only [sx, sy, eq_self, ne_eq, IntKind.wrap_i64, wrapU64, Int.reduceLT] at * <;> first | contradiction | omega) | omega | ((try simp only [sx, sy, eq_self, ne_eq, IntKind.wrap_i64, wrapU64, Int.reduceLT] at *) <;> omega) | (simp_all; done))
    exact bl2_p1 m f h1 hq0 hq1

noncomputable def nrA_hd (m f : Int) : Hd := headF Tryd.prog knMaskKnownL tabRi 3000 16 [.int .u64 m, .int .i64 f] [(0, .b 0), (3, .b 0), (4, .stop)]
noncomputable def nrA_S (m f : Int) (y0 : Int) : St := ((entryK 3 43 [15, 19, 27, 17, 25, 13, 21, 29, 16, 20, 28, 18, 26, 14] 0 0 (nrA_hd m f).s).updF [(6, .int .i64 y0)] [])
theorem nrA_n (m f : Int) (hw : isW m = true) (h1 : 0 ≤ f ∧ f < 64) : 3 = (nrA_hd m f).s.hs.next := by kernel_rfl
theorem nrA_r (m f : Int) (hw : isW m = true) (h1 : 0 ≤ f ∧ f < 64) : (nrA_hd m f).s.hs.rd < bitOf 3 := by
  have e : (nrA_hd m f).s.hs.rd = 0 := by kernel_rfl
  rw [e]; exact blt_iff.1 (by kernel_rfl)
theorem nrA_w (m f : Int) (hw : isW m = true) (h1 : 0 ≤ f ∧ f < 64) : (nrA_hd m f).s.hs.wr < bitOf 3 := by
  have e : (nrA_hd m f).s.hs.wr = 0 := by kernel_rfl
  rw [e]; exact blt_iff.1 (by kernel_rfl)
theorem nrA_e0 (m f : Int) (hw : isW m = true) (h1 : 0 ≤ f ∧ f < 64) : canonS 3 43 [] [15, 19, 27, 17, 25, 13, 21, 29, 16, 20, 28, 18, 26, 14] 3 0 0 (nrA_hd m f).s = some (nrA_S m f ((0 : Int))) := by kernel_rfl
theorem nrA_e1 (m f : Int) (hw : isW m = true) (h1 : 0 ≤ f ∧ f < 64) : canonOk 3 43 [] 3 (nrA_hd m f).s = true := canonOkF_eq.symm.trans (by kernel_rfl)
def nrA_X : Nat → VX
  | 0 => .ret
  | 1 => .ret
  | 2 => .exit 0
  | _ => .normal
noncomputable def nrA_E (kE : Nat) (m f : Int) (y0 : Int) : St := match kE with
  | 0 => ((bodySt (bodyK Tryd.prog (knMaskKnownL : Vars).length tabRi 3000 (nrA_hd m f) (nrA_S m f y0 ) [(0, .b 1), (1, .b 1), (2, .b 1)] 3 43 [15, 19, 27, 17, 25, 13, 21, 29, 16, 20, 28, 18, 26, 14] 43 0 0)).updF [(6, .int .i64 y0)] [])
  | 1 => ((bodySt (bodyK Tryd.prog (knMaskKnownL : Vars).length tabRi 3000 (nrA_hd m f) (nrA_S m f y0 ) [(0, .b 1), (1, .b 1), (2, .b 0), (3, .b 1), (4, .b 1)] 3 43 [15, 19, 27, 17, 25, 13, 21, 29, 16, 20, 28, 18, 26, 14] 43 0 0)).updF [(6, .int .i64 y0)] [])
  | 2 => ((bodySt (bodyK Tryd.prog (knMaskKnownL : Vars).length tabRi 3000 (nrA_hd m f) (nrA_S m f y0 ) [(0, .b 0)] 3 43 [15, 19, 27, 17, 25, 13, 21, 29, 16, 20, 28, 18, 26, 14] 43 0 0)).updF [(6, .int .i64 y0)] [])
  | _ => (nrA_hd m f).s
theorem nrA_p0 (m f : Int) (y0 : Int) : bodyK Tryd.prog (knMaskKnownL : Vars).length tabRi 3000 (nrA_hd m f) (nrA_S m f y0 ) [(0, .b 1), (1, .b 1), (2, .b 1)] 3 43 [15, 19, 27, 17, 25, 13, 21, 29, 16, 20, 28, 18, 26, 14] 43 0 0 = some (.ret, nrA_E 0 m f (y0), [(hs m (IntKind.i64.wrap (f - y0))) = true, (isW m) = true, (decide (y0 < (64 : Int))) = true]) := by kernel_rfl
theorem nrA_q0 (m f : Int) (y0 : Int) : (nrA_E 0 m f (y0)).hs.next = 43 := by kernel_rfl
theorem nrA_p1 (m f : Int) (y0 : Int) : bodyK Tryd.prog (knMaskKnownL : Vars).length tabRi 3000 (nrA_hd m f) (nrA_S m f y0 ) [(0, .b 1), (1, .b 1), (2, .b 0), (3, .b 1), (4, .b 1)] 3 43 [15, 19, 27, 17, 25, 13, 21, 29, 16, 20, 28, 18, 26, 14] 43 0 0 = some (.ret, nrA_E 1 m f (y0), [(hs m (IntKind.i64.wrap (f + y0))) = true, (isW m) = true, (hs m (IntKind.i64.wrap (f - y0))) = false, (isW m) = true, (decide (y0 < (64 : Int))) = true]) := by kernel_rfl
theorem nrA_q1 (m f : Int) (y0 : Int) : (nrA_E 1 m f (y0)).hs.next = 43 := by kernel_rfl
theorem nrA_p2 (m f : Int) (y0 : Int) : bodyK Tryd.prog (knMaskKnownL : Vars).length tabRi 3000 (nrA_hd m f) (nrA_S m f y0 ) [(0, .b 1), (1, .b 1), (2, .b 0), (3, .b 1), (4, .b 0)] 3 43 [15, 19, 27, 17, 25, 13, 21, 29, 16, 20, 28, 18, 26, 14] 3 0 0 = some (.normal, (nrA_S m f (IntKind.i64.wrap (y0 + (1 : Int)))), [(hs m (IntKind.i64.wrap (f + y0))) = false, (isW m) = true, (hs m (IntKind.i64.wrap (f - y0))) = false, (isW m) = true, (decide (y0 < (64 : Int))) = true]) := by kernel_rfl
theorem nrA_p3 (m f : Int) (y0 : Int) : bodyK Tryd.prog (knMaskKnownL : Vars).length tabRi 3000 (nrA_hd m f) (nrA_S m f y0 ) [(0, .b 0)] 3 43 [15, 19, 27, 17, 25, 13, 21, 29, 16, 20, 28, 18, 26, 14] 43 0 0 = some (.exit 0, nrA_E 2 m f (y0), [(decide (y0 < (64 : Int))) = false]) := by kernel_rfl
theorem nrA_q3 (m f : Int) (y0 : Int) : (nrA_E 2 m f (y0)).hs.next = 43 := by kernel_rfl
theorem nrA_d0 (m f : Int) (hw : isW m = true) (h1 : 0 ≤ f ∧ f < 64) (y0 : Int) (hi : (decide (0 ≤ y0 ∧ y0 ≤ 64)) = true) (hq0 : (decide (y0 < (64 : Int))) = true) : (isW m) = true := by
  rcases Bool.eq_false_or_eq_true (isW m) with h | h
  · exact h
  · exfalso; (first | (simp_all only [Bool.and_eq_true, Bool.not_eq_true', Bool.false_eq_true, Bool.true_eq_false, reduceCtorEq]; done) | (simp only [sx, sy, eq_self, ne_eq, IntKind.wrap_i64, wrapU64, Int.reduceLT] at * <;> first | contradiction | omega) | omega | ((try simp only [sx, sy, eq_self, ne_eq, IntKind.wrap_i64, wrapU64, Int.reduceLT] at *) <;> omega) | (simp_all; done))
noncomputable def nrA_f (m f : Int) : Nat → Int → Option (Nat × (Int))
  | 0, _ => none
  | fu + 1, y0 => (bif (decide (0 ≤ y0 ∧ y0 ≤ 64)) then (bif (decide (y0 < (64 : Int))) then (bif (hs m (IntKind.i64.wrap (f - y0))) then some (0, (y0)) else (bif (hs m (IntKind.i64.wrap (f + y0))) then some (1, (y0)) else nrA_f m f fu (IntKind.i64.wrap (y0 + (1 : Int))))) else some (2, (y0))) else none)
theorem nrA_fs (m f : Int) (fu : Nat) (y0 : Int) : nrA_f m f (fu + 1) y0 = (bif (decide (0 ≤ y0 ∧ y0 ≤ 64)) then (bif (decide (y0 < (64 : Int))) then (bif (hs m (IntKind.i64.wrap (f - y0))) then some (0, (y0)) else (bif (hs m (IntKind.i64.wrap (f + y0))) then some (1, (y0)) else nrA_f m f fu (IntKind.i64.wrap (y0 + (1 : Int))))) else some (2, (y0))) else none) := rfl
theorem nrA_f0 (m f : Int) (y0 : Int) : nrA_f m f 0 y0 = none := rfl
theorem nrA_loop (m f : Int) (hw : isW m = true) (h1 : 0 ≤ f ∧ f < 64) : ∀ (fu : Nat) (y0 : Int) (kk : Nat) (zz : Int), nrA_f m f fu y0 = some (kk, zz) → VStep (nrA_hd m f).s.hs (nrA_S m f y0 ).hs → RoundsC Tryd.prog knMaskKnownL 3 43 (nrA_hd m f).s.hs (nrA_hd m f).ro (nrA_hd m f).a (nrA_S m f y0 ) (nrA_X kk) (nrA_E kk m f zz ) ∧ ((nrA_E kk m f zz )).hs.next = 43 := by
  intro fu
  induction fu with
  | zero =>
    intro y0 kk zz hf hSz
    have hf := (nrA_f0 m f y0 ).symm.trans hf
    simp at hf
  | succ fu ih =>
    intro y0 kk zz hf hSz
    have hf := (nrA_fs m f fu y0 ).symm.trans hf
    rcases bif_or hf with ⟨hi, hf⟩ | ⟨hi, hf⟩
    case inr => cases hf
    rcases bif_or hf with ⟨hq0, hf⟩ | ⟨hq0, hf⟩
    ·
      have hq1 := nrA_d0 m f hw h1 y0 hi hq0 
      rcases bif_or hf with ⟨hq2, hf⟩ | ⟨hq2, hf⟩
      ·
        injection hf with hf; injection hf with e1 e2; subst e1; subst e2; have hb1 := nrA_p0 m f y0 ; have hb2 := body_canon hb1; have hb3 := hb2 ⟨hq2, hq1, hq0, trivial⟩; obtain ⟨sz1, kz1, kz2, kz3⟩ := hb3; exact ⟨rounds_end mix (T := tabRi) tabRi_ok (nrA_n m f hw h1 ) (nrA_r m f hw h1 ) (nrA_w m f hw h1 ) kz1 (fun h => by cases h) hSz kz2 kz3, nrA_q0 m f y0 ⟩
      ·
        rcases bif_or hf with ⟨hq3, hf⟩ | ⟨hq3, hf⟩
        ·
          injection hf with hf; injection hf with e1 e2; subst e1; subst e2; have hb1 := nrA_p1 m f y0 ; have hb2 := body_canon hb1; have hb3 := hb2 ⟨hq3, hq1, hq2, hq1, hq0, trivial⟩; obtain ⟨sz1, kz1, kz2, kz3⟩ := hb3; exact ⟨rounds_end mix (T := tabRi) tabRi_ok (nrA_n m f hw h1 ) (nrA_r m f hw h1 ) (nrA_w m f hw h1 ) kz1 (fun h => by cases h) hSz kz2 kz3, nrA_q1 m f y0 ⟩
        ·
          have hb1 := nrA_p2 m f y0 ; have hb2 := body_canon hb1; have hb3 := hb2 ⟨hq3, hq1, hq2, hq1, hq0, trivial⟩; obtain ⟨sz1, kz1, kz2, kz3⟩ := hb3; obtain ⟨gz1, gz2⟩ := ih (IntKind.i64.wrap (y0 + (1 : Int))) kk zz hf (rounds_step mix (T := tabRi) tabRi_ok (nrA_n m f hw h1 ) (nrA_r m f hw h1 ) (nrA_w m f hw h1 ) kz1 hSz kz2 kz3); exact ⟨rounds_next mix (T := tabRi) tabRi_ok (nrA_n m f hw h1 ) (nrA_r m f hw h1 ) (nrA_w m f hw h1 ) kz1 hSz kz2 kz3 (fun _ => gz1), gz2⟩
    ·
      injection hf with hf; injection hf with e1 e2; subst e1; subst e2; have hb1 := nrA_p3 m f y0 ; have hb2 := body_canon hb1; have hb3 := hb2 ⟨hq0, trivial⟩; obtain ⟨sz1, kz1, kz2, kz3⟩ := hb3; exact ⟨rounds_end mix (T := tabRi) tabRi_ok (nrA_n m f hw h1 ) (nrA_r m f hw h1 ) (nrA_w m f hw h1 ) kz1 (fun h => by cases h) hSz kz2 kz3, nrA_q3 m f y0 ⟩
theorem nrA_ok (m f : Int) (hw : isW m = true) (h1 : 0 ≤ f ∧ f < 64) (fu kk : Nat) (zz : Int) (hf : nrA_f m f fu ((0 : Int)) = some (kk, zz)) : ∀ B : Bd, B.L = knMaskKnownL → LoopOk Tryd.prog B (nrA_hd m f).ro (nrA_hd m f).a (nrA_hd m f).s (nrA_X kk) (nrA_E kk m f zz ) := by
  have hSz := begin_step (nrA_n m f hw h1 ) (nrA_r m f hw h1 ) (nrA_w m f hw h1 ) (nrA_e0 m f hw h1 ) (nrA_e1 m f hw h1 )
  obtain ⟨gz1, gz2⟩ := nrA_loop m f hw h1 fu ((0 : Int)) kk zz hf hSz
  exact rounds_ok (nrA_n m f hw h1 ) (Nat.le_of_ble_eq_true (by kernel_rfl)) gz2 (rounds_begin (nrA_n m f hw h1 ) (nrA_r m f hw h1 ) (nrA_w m f hw h1 ) (nrA_e0 m f hw h1 ) (nrA_e1 m f hw h1 ) (fun _ => gz1))

noncomputable def nr0_c0 (m f : Int) (nrA_z0 : Int)  : Int := (IntKind.i64.wrap (f - nrA_z0))
theorem nr0_p0 (m f : Int) (nrA_z0 : Int)  (hw : isW m = true) (h1 : 0 ≤ f ∧ f < 64) (nrA_k0 : (decide (f < (0 : Int))) = false) (nrA_k3 : (decide (f ≥ (64 : Int))) = false) (nrA_l : ∀ B : Bd, B.L = knMaskKnownL → LoopOk Tryd.prog B (nrA_hd m f).ro (nrA_hd m f).a (nrA_hd m f).s (nrA_X 0) (nrA_E 0 m f nrA_z0 )) : Known Tryd.prog knMaskKnownL 16 [.int .u64 m, .int .i64 f] (.tuple #[(.int .i64 (IntKind.i64.wrap (f - nrA_z0))), (.int .i64 ((0 : Int)))]) :=
  open_res mix (GOk.add tabRi_ok nrA_l) (T := (GTab.add tabRi 5 (nrA_hd m f).ro (nrA_hd m f).a (nrA_hd m f).s (nrA_X 0) (nrA_E 0 m f nrA_z0 ) (by kernel_rfl))) (fuel := 3000) (ans := [(0, .b 0), (3, .b 0), (4, .loop (nrA_X 0) (nrA_E 0 m f nrA_z0 )), ]) (log := [LoopRes Tryd.prog (knMaskKnownL : Vars).length (GTab.add tabRi 5 (nrA_hd m f).ro (nrA_hd m f).a (nrA_hd m f).s (nrA_X 0) (nrA_E 0 m f nrA_z0 ) (by kernel_rfl)) (nrA_hd m f).ro (nrA_hd m f).a (nrA_hd m f).s (nrA_X 0) (nrA_E 0 m f nrA_z0 ), (decide (f ≥ (64 : Int))) = false, (decide (f < (0 : Int))) = false]) (by kernel_rfl) ⟨(loop_known2 add_eq), nrA_k3, nrA_k0, trivial⟩ (by kernel_rfl)
set_option maxHeartbeats 8000000 in
theorem nr0 (m f : Int) (nrA_z0 : Int)  (hw : isW m = true) (h1 : 0 ≤ f ∧ f < 64) (nrA_k0 : (decide (f < (0 : Int))) = false) (nrA_k3 : (decide (f ≥ (64 : Int))) = false) (nrA_l : ∀ B : Bd, B.L = knMaskKnownL → LoopOk Tryd.prog B (nrA_hd m f).ro (nrA_hd m f).a (nrA_hd m f).s (nrA_X 0) (nrA_E 0 m f nrA_z0 )) : Known Tryd.prog knMaskKnownL 16 [.int .u64 m, .int .i64 f] (.tuple #[(.int .i64 (nr0_c0 m f nrA_z0)), (.int .i64 ((0 : Int)))]) := by
  have e0 : nr0_c0 m f nrA_z0 = (IntKind.i64.wrap (f - nrA_z0)) := rfl; rw [e0]; exact nr0_p0 m f nrA_z0 hw h1 nrA_k0 nrA_k3 nrA_l

noncomputable def nr1_c0 (m f : Int) (nrA_z0 : Int)  : Int := (IntKind.i64.wrap (f + nrA_z0))
theorem nr1_p0 (m f : Int) (nrA_z0 : Int)  (hw : isW m = true) (h1 : 0 ≤ f ∧ f < 64) (nrA_k0 : (decide (f < (0 : Int))) = false) (nrA_k3 : (decide (f ≥ (64 : Int))) = false) (nrA_l : ∀ B : Bd, B.L = knMaskKnownL → LoopOk Tryd.prog B (nrA_hd m f).ro (nrA_hd m f).a (nrA_hd m f).s (nrA_X 1) (nrA_E 1 m f nrA_z0 )) : Known Tryd.prog knMaskKnownL 16 [.int .u64 m, .int .i64 f] (.tuple #[(.int .i64 (IntKind.i64.wrap (f + nrA_z0))), (.int .i64 ((0 : Int)))]) :=
  open_res mix (GOk.add tabRi_ok nrA_l) (T := (GTab.add tabRi 5 (nrA_hd m f).ro (nrA_hd m f).a (nrA_hd m f).s (nrA_X 1) (nrA_E 1 m f nrA_z0 ) (by kernel_rfl))) (fuel := 3000) (ans := [(0, .b 0), (3, .b 0), (4, .loop (nrA_X 1) (nrA_E 1 m f nrA_z0 )), ]) (log := [LoopRes Tryd.prog (knMaskKnownL : Vars).length (GTab.add tabRi 5 (nrA_hd m f).ro (nrA_hd m f).a (nrA_hd m f).s (nrA_X 1) (nrA_E 1 m f nrA_z0 ) (by kernel_rfl)) (nrA_hd m f).ro (nrA_hd m f).a (nrA_hd m f).s (nrA_X 1) (nrA_E 1 m f nrA_z0 ), (decide (f ≥ (64 : Int))) = false, (decide (f < (0 : Int))) = false]) (by kernel_rfl) ⟨(loop_known2 add_eq), nrA_k3, nrA_k0, trivial⟩ (by kernel_rfl)
set_option maxHeartbeats 8000000 in
theorem nr1 (m f : Int) (nrA_z0 : Int)  (hw : isW m = true) (h1 : 0 ≤ f ∧ f < 64) (nrA_k0 : (decide (f < (0 : Int))) = false) (nrA_k3 : (decide (f ≥ (64 : Int))) = false) (nrA_l : ∀ B : Bd, B.L = knMaskKnownL → LoopOk Tryd.prog B (nrA_hd m f).ro (nrA_hd m f).a (nrA_hd m f).s (nrA_X 1) (nrA_E 1 m f nrA_z0 )) : Known Tryd.prog knMaskKnownL 16 [.int .u64 m, .int .i64 f] (.tuple #[(.int .i64 (nr1_c0 m f nrA_z0)), (.int .i64 ((0 : Int)))]) := by
  have e0 : nr1_c0 m f nrA_z0 = (IntKind.i64.wrap (f + nrA_z0)) := rfl; rw [e0]; exact nr1_p0 m f nrA_z0 hw h1 nrA_k0 nrA_k3 nrA_l

theorem nr2_p0 (m f : Int) (nrA_z0 : Int)  (hw : isW m = true) (h1 : 0 ≤ f ∧ f < 64) (nrA_k0 : (decide (f < (0 : Int))) = false) (nrA_k3 : (decide (f ≥ (64 : Int))) = false) (nrA_l : ∀ B : Bd, B.L = knMaskKnownL → LoopOk Tryd.prog B (nrA_hd m f).ro (nrA_hd m f).a (nrA_hd m f).s (nrA_X 2) (nrA_E 2 m f nrA_z0 )) : Known Tryd.prog knMaskKnownL 16 [.int .u64 m, .int .i64 f] (.tuple #[(.int .i64 ((0 : Int))), (.int .i64 ((6 : Int)))]) :=
  open_res mix (GOk.add tabRi_ok nrA_l) (T := (GTab.add tabRi 5 (nrA_hd m f).ro (nrA_hd m f).a (nrA_hd m f).s (nrA_X 2) (nrA_E 2 m f nrA_z0 ) (by kernel_rfl))) (fuel := 3000) (ans := [(0, .b 0), (3, .b 0), (4, .loop (nrA_X 2) (nrA_E 2 m f nrA_z0 )), ]) (log := [LoopRes Tryd.prog (knMaskKnownL : Vars).length (GTab.add tabRi 5 (nrA_hd m f).ro (nrA_hd m f).a (nrA_hd m f).s (nrA_X 2) (nrA_E 2 m f nrA_z0 ) (by kernel_rfl)) (nrA_hd m f).ro (nrA_hd m f).a (nrA_hd m f).s (nrA_X 2) (nrA_E 2 m f nrA_z0 ), (decide (f ≥ (64 : Int))) = false, (decide (f < (0 : Int))) = false]) (by kernel_rfl) ⟨(loop_known2 add_eq), nrA_k3, nrA_k0, trivial⟩ (by kernel_rfl)
set_option maxHeartbeats 8000000 in
theorem nr2 (m f : Int) (nrA_z0 : Int)  (hw : isW m = true) (h1 : 0 ≤ f ∧ f < 64) (nrA_k0 : (decide (f < (0 : Int))) = false) (nrA_k3 : (decide (f ≥ (64 : Int))) = false) (nrA_l : ∀ B : Bd, B.L = knMaskKnownL → LoopOk Tryd.prog B (nrA_hd m f).ro (nrA_hd m f).a (nrA_hd m f).s (nrA_X 2) (nrA_E 2 m f nrA_z0 )) : Known Tryd.prog knMaskKnownL 16 [.int .u64 m, .int .i64 f] (.tuple #[(.int .i64 ((0 : Int))), (.int .i64 ((6 : Int)))]) := by
  exact nr2_p0 m f nrA_z0 hw h1 nrA_k0 nrA_k3 nrA_l

theorem nr3_p0 (m f : Int) (h1 : ¬ (0 ≤ f ∧ f < 64)) (hq0 : (decide (f < (0 : Int))) = true) : Known Tryd.prog knMaskKnownL 16 [.int .u64 m, .int .i64 f] (.tuple #[(.int .i64 ((0 : Int))), (.int .i64 ((2 : Int)))]) :=
  open_res mix tabRi_ok (T := tabRi) (fuel := 3000) (ans := [(0, .b 1)]) (log := [(decide (f < (0 : Int))) = true]) (by kernel_rfl) ⟨hq0, trivial⟩ (by kernel_rfl)
theorem nr3_p1 (m f : Int) (h1 : ¬ (0 ≤ f ∧ f < 64)) (hq0 : (decide (f < (0 : Int))) = false) (hq1 : (decide (f ≥ (64 : Int))) = true) : Known Tryd.prog knMaskKnownL 16 [.int .u64 m, .int .i64 f] (.tuple #[(.int .i64 ((0 : Int))), (.int .i64 ((2 : Int)))]) :=
  open_res mix tabRi_ok (T := tabRi) (fuel := 3000) (ans := [(0, .b 0), (3, .b 1)]) (log := [(decide (f ≥ (64 : Int))) = true, (decide (f < (0 : Int))) = false]) (by kernel_rfl) ⟨hq1, hq0, trivial⟩ (by kernel_rfl)
set_option maxHeartbeats 8000000 in
theorem nr3 (m f : Int) (h1 : ¬ (0 ≤ f ∧ f < 64)) : Known Tryd.prog knMaskKnownL 16 [.int .u64 m, .int .i64 f] (.tuple #[(.int .i64 ((0 : Int))), (.int .i64 ((2 : Int)))]) := by
  rcases Bool.eq_false_or_eq_true (decide (f < (0 : Int))) with hq0 | hq0
  ·
    exact nr3_p0 m f h1 hq0
  ·
    have hq1 : (decide (f ≥ (64 : Int))) = true := by
      rcases Bool.eq_false_or_eq_true (decide (f ≥ (64 : Int))) with h | h
      · exact h
      · exfalso; (first | (simp_all only [Bool.and_eq_true, Bool.not_eq_true', Bool.false_eq_true, Bool.true_eq_false, reduceCtorEq]; done) | (simp only [sx, sy, eq_self, ne_eq, IntKind.wrap_i64, wrapU64, Int.reduceLT] at * <;> first | contradiction | omega) | omega | ((try simp only [sx, sy, eq_self, ne_eq, IntKind.wrap_i64, wrapU64, Int.reduceLT] at *) <;> omega) | (simp_all; done))
    exact nr3_p1 m f h1 hq0 hq1

end Go.Proofs.YtboobndcgilmlaaDoor
