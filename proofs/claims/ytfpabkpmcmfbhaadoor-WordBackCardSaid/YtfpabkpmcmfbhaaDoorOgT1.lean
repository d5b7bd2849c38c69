/- Layer 33: powers of two, bits of a word, of both. -/
import Derived.Test.YtfpabkpmcmfbhaaDoorLU
import Derived.Test.YtfpabkpmcmfbhaaDoorKnWordKnown
import Derived.ProofKit
import Derived.IntWalk
namespace Go.Proofs.YtfpabkpmcmfbhaaDoor
open Go Go.RowKit
set_option linter.unusedVariables false
set_option linter.unusedSimpArgs false
set_option linter.unnecessarySimpa false
set_option maxHeartbeats 8000000
set_option maxRecDepth 100000
noncomputable def wdA_hd (c : Int) : Hd := headF Tryd.prog knWordKnownL GTab.none 3000 40 [.int .i64 c] [(0, .stop)]
noncomputable def wdA_S (c : Int) (y0 : Int) (y1 : Int) : St := ((entryK 3 43 [7, 11, 5, 9, 8, 6, 10] 0 0 (wdA_hd c).s).updF [(3, .int .i64 y0), (4, .int .i64 y1)] [])
theorem wdA_n (c : Int) (h1 : 0 ≤ c ∧ c ≤ 8) : 3 = (wdA_hd c).s.hs.next := by kernel_rfl
theorem wdA_r (c : Int) (h1 : 0 ≤ c ∧ c ≤ 8) : (wdA_hd c).s.hs.rd < bitOf 3 := by
  have e : (wdA_hd c).s.hs.rd = 0 := by kernel_rfl
  rw [e]; exact blt_iff.1 (by kernel_rfl)
theorem wdA_w (c : Int) (h1 : 0 ≤ c ∧ c ≤ 8) : (wdA_hd c).s.hs.wr < bitOf 3 := by
  have e : (wdA_hd c).s.hs.wr = 0 := by kernel_rfl
  rw [e]; exact blt_iff.1 (by kernel_rfl)
theorem wdA_e0 (c : Int) (h1 : 0 ≤ c ∧ c ≤ 8) : canonS 3 43 [] [7, 11, 5, 9, 8, 6, 10] 3 0 0 (wdA_hd c).s = some (wdA_S c ((1 : Int)) ((0 : Int))) := by kernel_rfl
theorem wdA_e1 (c : Int) (h1 : 0 ≤ c ∧ c ≤ 8) : canonOk 3 43 [] 3 (wdA_hd c).s = true := canonOkF_eq.symm.trans (by kernel_rfl)
def wdA_X : Nat → VX
  | 0 => .exit 0
  | _ => .normal
noncomputable def wdA_E (kE : Nat) (c : Int) (y0 : Int) (y1 : Int) : St := match kE with
  | 0 => ((bodySt (bodyK Tryd.prog (knWordKnownL : Vars).length GTab.none 3000 (wdA_hd c) (wdA_S c y0 y1 ) [(0, .b 0)] 3 43 [7, 11, 5, 9, 8, 6, 10] 43 0 0)).updF [(3, .int .i64 y0), (4, .int .i64 y1)] [])
  | _ => (wdA_hd c).s
theorem wdA_p0 (c : Int) (y0 : Int) (y1 : Int) : bodyK Tryd.prog (knWordKnownL : Vars).length GTab.none 3000 (wdA_hd c) (wdA_S c y0 y1 ) [(0, .b 1)] 3 43 [7, 11, 5, 9, 8, 6, 10] 3 0 0 = some (.normal, (wdA_S c (IntKind.i64.wrap ((2 : Int) * y0)) (IntKind.i64.wrap (y1 + (1 : Int)))), [(decide (y1 < c)) = true]) := by kernel_rfl
theorem wdA_p1 (c : Int) (y0 : Int) (y1 : Int) : bodyK Tryd.prog (knWordKnownL : Vars).length GTab.none 3000 (wdA_hd c) (wdA_S c y0 y1 ) [(0, .b 0)] 3 43 [7, 11, 5, 9, 8, 6, 10] 43 0 0 = some (.exit 0, wdA_E 0 c (y0) (y1) , [(decide (y1 < c)) = false]) := by kernel_rfl
theorem wdA_q1 (c : Int) (y0 : Int) (y1 : Int) : (wdA_E 0 c (y0) (y1) ).hs.next = 43 := by kernel_rfl
noncomputable def wdA_f (c : Int) : Nat → Int → Int → Option (Nat × (Int × Int))
  | 0, _, _ => none
  | fu + 1, y0, y1 => (bif (decide (0 ≤ y1 ∧ y1 ≤ 8 ∧ 0 ≤ y0 ∧ y0 ≤ 256)) then (bif (decide (y1 < c)) then wdA_f c fu (IntKind.i64.wrap ((2 : Int) * y0)) (IntKind.i64.wrap (y1 + (1 : Int))) else some (0, ((y0), (y1)))) else none)
theorem wdA_fs (c : Int) (fu : Nat) (y0 : Int) (y1 : Int) : wdA_f c (fu + 1) y0 y1 = (bif (decide (0 ≤ y1 ∧ y1 ≤ 8 ∧ 0 ≤ y0 ∧ y0 ≤ 256)) then (bif (decide (y1 < c)) then wdA_f c fu (IntKind.i64.wrap ((2 : Int) * y0)) (IntKind.i64.wrap (y1 + (1 : Int))) else some (0, ((y0), (y1)))) else none) := rfl
theorem wdA_f0 (c : Int) (y0 : Int) (y1 : Int) : wdA_f c 0 y0 y1 = none := rfl
theorem wdA_loop (c : Int) (h1 : 0 ≤ c ∧ c ≤ 8) : ∀ (fu : Nat) (y0 : Int) (y1 : Int) (kk : Nat) (zz : Int × Int), wdA_f c fu y0 y1 = some (kk, zz) → VStep (wdA_hd c).s.hs (wdA_S c y0 y1 ).hs → RoundsC Tryd.prog knWordKnownL 3 43 (wdA_hd c).s.hs (wdA_hd c).ro (wdA_hd c).a (wdA_S c y0 y1 ) (wdA_X kk) (wdA_E kk c zz.1 zz.2 ) ∧ ((wdA_E kk c zz.1 zz.2 )).hs.next = 43 := by
  intro fu
  induction fu with
  | zero =>
    intro y0 y1 kk zz hf hSz
    have hf := (wdA_f0 c y0 y1 ).symm.trans hf
    simp at hf
  | succ fu ih =>
    intro y0 y1 kk zz hf hSz
    have hf := (wdA_fs c fu y0 y1 ).symm.trans hf
    rcases bif_or hf with ⟨hi, hf⟩ | ⟨hi, hf⟩
    case inr => cases hf
    rcases bif_or hf with ⟨hq0, hf⟩ | ⟨hq0, hf⟩
    ·
      have hb1 := wdA_p0 c y0 y1 ; have hb2 := body_canon hb1; have hb3 := hb2 ⟨hq0, trivial⟩; obtain ⟨sz1, kz1, kz2, kz3⟩ := hb3; obtain ⟨gz1, gz2⟩ := ih (IntKind.i64.wrap ((2 : Int) * y0)) (IntKind.i64.wrap (y1 + (1 : Int))) kk zz hf (rounds_step mix (T := GTab.none) GOk.none (wdA_n c h1 ) (wdA_r c h1 ) (wdA_w c h1 ) kz1 hSz kz2 kz3); exact ⟨rounds_next mix (T := GTab.none) GOk.none (wdA_n c h1 ) (wdA_r c h1 ) (wdA_w c h1 ) kz1 hSz kz2 kz3 (fun _ => gz1), gz2⟩
    ·
      injection hf with hf; injection hf with e1 e2; subst e1; subst e2; have hb1 := wdA_p1 c y0 y1 ; have hb2 := body_canon hb1; have hb3 := hb2 ⟨hq0, trivial⟩; obtain ⟨sz1, kz1, kz2, kz3⟩ := hb3; exact ⟨rounds_end mix (T := GTab.none) GOk.none (wdA_n c h1 ) (wdA_r c h1 ) (wdA_w c h1 ) kz1 (fun h => by cases h) hSz kz2 kz3, wdA_q1 c y0 y1 ⟩
theorem wdA_ok (c : Int) (h1 : 0 ≤ c ∧ c ≤ 8) (fu kk : Nat) (zz : Int × Int) (hf : wdA_f c fu ((1 : Int)) ((0 : Int)) = some (kk, zz)) : ∀ B : Bd, B.L = knWordKnownL → LoopOk Tryd.prog B (wdA_hd c).ro (wdA_hd c).a (wdA_hd c).s (wdA_X kk) (wdA_E kk c zz.1 zz.2 ) := by
  have hSz := begin_step (wdA_n c h1 ) (wdA_r c h1 ) (wdA_w c h1 ) (wdA_e0 c h1 ) (wdA_e1 c h1 )
  obtain ⟨gz1, gz2⟩ := wdA_loop c h1 fu ((1 : Int)) ((0 : Int)) kk zz hf hSz
  exact rounds_ok (wdA_n c h1 ) (Nat.le_of_ble_eq_true (by kernel_rfl)) gz2 (rounds_begin (wdA_n c h1 ) (wdA_r c h1 ) (wdA_w c h1 ) (wdA_e0 c h1 ) (wdA_e1 c h1 ) (fun _ => gz1))

noncomputable def wdK_c0 (c : Int) (wdA_z0 : Int) (wdA_z1 : Int)  : Int := (wdA_z0)
theorem wdK_p0 (c : Int) (wdA_z0 : Int) (wdA_z1 : Int)  (h1 : 0 ≤ c ∧ c ≤ 8) (wdA_l : ∀ B : Bd, B.L = knWordKnownL → LoopOk Tryd.prog B (wdA_hd c).ro (wdA_hd c).a (wdA_hd c).s (wdA_X 0) (wdA_E 0 c wdA_z0 wdA_z1 )) : Known Tryd.prog knWordKnownL 40 [.int .i64 c] (.int .i64 (wdA_z0)) :=
  open_res mix (GOk.add GOk.none wdA_l) (T := (GTab.add GTab.none 4 (wdA_hd c).ro (wdA_hd c).a (wdA_hd c).s (wdA_X 0) (wdA_E 0 c wdA_z0 wdA_z1 ) (by kernel_rfl))) (fuel := 3000) (ans := [(0, .loop (wdA_X 0) (wdA_E 0 c wdA_z0 wdA_z1 )), ]) (log := [LoopRes Tryd.prog (knWordKnownL : Vars).length (GTab.add GTab.none 4 (wdA_hd c).ro (wdA_hd c).a (wdA_hd c).s (wdA_X 0) (wdA_E 0 c wdA_z0 wdA_z1 ) (by kernel_rfl)) (wdA_hd c).ro (wdA_hd c).a (wdA_hd c).s (wdA_X 0) (wdA_E 0 c wdA_z0 wdA_z1 )]) (by kernel_rfl) ⟨(loop_known2 add_eq), trivial⟩ (by kernel_rfl)
set_option maxHeartbeats 8000000 in
theorem wdK (c : Int) (wdA_z0 : Int) (wdA_z1 : Int)  (h1 : 0 ≤ c ∧ c ≤ 8) (wdA_l : ∀ B : Bd, B.L = knWordKnownL → LoopOk Tryd.prog B (wdA_hd c).ro (wdA_hd c).a (wdA_hd c).s (wdA_X 0) (wdA_E 0 c wdA_z0 wdA_z1 )) : Known Tryd.prog knWordKnownL 40 [.int .i64 c] (.int .i64 (wdK_c0 c wdA_z0 wdA_z1)) := by
  have e0 : wdK_c0 c wdA_z0 wdA_z1 = (wdA_z0) := rfl; rw [e0]; exact wdK_p0 c wdA_z0 wdA_z1 h1 wdA_l

noncomputable def pbt_b0 (c : Int) : Bool := decide (IntKind.u64.wrap (IntKind.i64.wrap (c - (1 : Int))) < (0 : Int))
noncomputable def pbt_c0 (c : Int) : Int := (IntKind.i64.wrap ((1 : Int) * (2 : Int) ^ min (IntKind.u64.wrap (IntKind.i64.wrap (c - (1 : Int)))).toNat (64 : Nat)))
theorem pbt_p0 (c : Int) (hc : 1 ≤ c ∧ c ≤ 9) (hq0 : (pbt_b0 c) = false) : Known Tryd.prog knWordKnownL 37 [.int .i64 c] (.int .i64 (IntKind.i64.wrap ((1 : Int) * (2 : Int) ^ min (IntKind.u64.wrap (IntKind.i64.wrap (c - (1 : Int)))).toNat (64 : Nat)))) :=
  open_res mix GOk.none (T := GTab.none) (fuel := 3000) (ans := [(0, .b 0)]) (log := [(pbt_b0 c) = false]) (by kernel_rfl) ⟨hq0, trivial⟩ (by kernel_rfl)
set_option maxHeartbeats 8000000 in
theorem pbt (c : Int) (hc : 1 ≤ c ∧ c ≤ 9) : Known Tryd.prog knWordKnownL 37 [.int .i64 c] (.int .i64 (pbt_c0 c)) := by
  have hq0 : (pbt_b0 c) = false := by
    rcases Bool.eq_false_or_eq_true (pbt_b0 c) with h | h
    · exfalso; (try simp only [pbt_b0] at *); (first | (simp_all only [Bool.and_eq_true, Bool.not_eq_true', Bool.false_eq_true, Bool.true_eq_false, reduceCtorEq]; done) | (simp only [sx, sy, eq_self, ne_eq, IntKind.wrap_i64, wrapU64, Int.reduceLT] at * <;> first | contradiction | omega) | omega | ((try simp only [sx, sy, eq_self, ne_eq, IntKind.wrap_i64, wrapU64, Int.reduceLT] at *) <;> omega) | (simp_all; done))
    · exact h
  have e0 : pbt_c0 c = (IntKind.i64.wrap ((1 : Int) * (2 : Int) ^ min (IntKind.u64.wrap (IntKind.i64.wrap (c - (1 : Int)))).toNat (64 : Nat))) := rfl; rw [e0]; exact pbt_p0 c hc hq0

end Go.Proofs.YtfpabkpmcmfbhaaDoor
