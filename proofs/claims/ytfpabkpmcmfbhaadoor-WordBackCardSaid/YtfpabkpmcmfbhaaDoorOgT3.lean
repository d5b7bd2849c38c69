/- Layer 33: the text of a word, of the reference. -/
import Derived.Test.YtfpabkpmcmfbhaaDoorOgT2
import Derived.ProofKit
import Derived.IntWalk
namespace Go.Proofs.YtfpabkpmcmfbhaaDoor
open Go Go.RowKit
set_option linter.unusedVariables false
set_option linter.unusedSimpArgs false
set_option linter.unnecessarySimpa false
set_option maxHeartbeats 8000000
set_option maxRecDepth 100000
noncomputable def btB (a c : Int) : Bool := rbt_c0 a c
theorem bit_is {a c : Int} (h : 0 ≤ a ∧ a ≤ 255 ∧ 1 ≤ c ∧ c ≤ 8) : Known Tryd.prog knWordKnownL 25 [.int .i64 a, .int .i64 c] (.bool (btB a c)) := rbt a c ⟨h.2.2.1, h.2.2.2⟩ (by
  have p := pw_le (j := (IntKind.i64.wrap (c - 1)).toNat) (by rw [w8n (n := c - 1) (by omega) (by omega)]; omega)
  unfold pwI
  have : 0 < (2 : Nat) ^ (IntKind.i64.wrap (c - 1)).toNat := Nat.pos_of_ne_zero (by simp)
  generalize (2 : Nat) ^ (IntKind.i64.wrap (c - 1)).toNat = q at *
  omega)
noncomputable def vlX (a c : Int) : Int := rvd_c0 a c
theorem pw_any (c : Int) : 1 ≤ pwI c ∧ pwI c ≤ 256 ∨ c < 1 ∨ 8 < c := by
  by_cases h : 8 < c
  · exact .inr (.inr h)
  · left
    have p := pw_le (j := c.toNat) (by omega)
    unfold pwI
    have : 0 < (2 : Nat) ^ c.toNat := Nat.pos_of_ne_zero (by simp)
    generalize (2 : Nat) ^ c.toNat = q at *
    omega
theorem qBt (a c : Int) (hg : (decide (0 ≤ a ∧ a ≤ 255 ∧ 1 ≤ c ∧ c ≤ 8)) = true) : Known Tryd.prog knWordKnownL 25 [.int .i64 a, .int .i64 c] (.bool (btB a c)) := bit_is (of_decide_eq_true hg)
noncomputable def qBt_k : List Value → Option (Bool × Value)
  | [.int .i64 a, .int .i64 c] => some (decide (0 ≤ a ∧ a ≤ 255 ∧ 1 ≤ c ∧ c ≤ 8), .bool (btB a c))
  | _ => none
theorem qBt_ok : ∀ args v, qBt_k args = some (true, v) → Known Tryd.prog knWordKnownL 25 args v := by
  intro args v h
  unfold qBt_k at h
  split at h
  · injection h with h; injection h with hg h; subst h; exact qBt _ _ hg
  · cases h
theorem qVl (a c : Int) : Known Tryd.prog knWordKnownL 24 [.int .i64 a, .int .i64 c] (.int .i64 (vlX a c)) := rvd a c (pw_any c)
noncomputable def qVl_k : List Value → Option Value
  | [.int .i64 a, .int .i64 c] => some (.int .i64 (vlX a c))
  | _ => none
theorem qVl_ok : ∀ args v, qVl_k args = some v → Known Tryd.prog knWordKnownL 24 args v := by
  intro args v h
  unfold qVl_k at h
  split at h
  · injection h with h; subst h; exact qVl _ _
  · cases h
attribute [local irreducible] btB vlX
noncomputable def tabT : GTab := (GTab.fn 25 qBt_k (GTab.fn1 24 qVl_k GTab.none))
theorem tabT_ok : GOk Tryd.prog knWordKnownL tabT := (GOk.fn qBt_ok (GOk.fn1 qVl_ok GOk.none))
noncomputable def rtA_hd (a c : Int) : Hd := headF Tryd.prog knWordKnownL tabT 3000 9 [.int .i64 a, .int .i64 c] [(1, .b 0), (2, .stop)]
noncomputable def rtA_S (a c : Int) (y0 : ByteArray) (y1 : Int) : St := ((entryK 3 43 [15, 23, 19, 17, 21, 16, 24, 20, 18, 22, 25, 26] 0 0 (rtA_hd a c).s).updF [(7, .string y0), (8, .int .i64 y1)] [])
theorem rtA_n (a c : Int) (hv : vlX a c = 0) (ha : 0 ≤ a ∧ a ≤ 255) (hc : 1 ≤ c ∧ c ≤ 8) : 3 = (rtA_hd a c).s.hs.next := by kernel_rfl
theorem rtA_r (a c : Int) (hv : vlX a c = 0) (ha : 0 ≤ a ∧ a ≤ 255) (hc : 1 ≤ c ∧ c ≤ 8) : (rtA_hd a c).s.hs.rd < bitOf 3 := by
  have e : (rtA_hd a c).s.hs.rd = 0 := by kernel_rfl
  rw [e]; exact blt_iff.1 (by kernel_rfl)
theorem rtA_w (a c : Int) (hv : vlX a c = 0) (ha : 0 ≤ a ∧ a ≤ 255) (hc : 1 ≤ c ∧ c ≤ 8) : (rtA_hd a c).s.hs.wr < bitOf 3 := by
  have e : (rtA_hd a c).s.hs.wr = 0 := by kernel_rfl
  rw [e]; exact blt_iff.1 (by kernel_rfl)
theorem rtA_e0 (a c : Int) (hv : vlX a c = 0) (ha : 0 ≤ a ∧ a ≤ 255) (hc : 1 ≤ c ∧ c ≤ 8) : canonS 3 43 [] [15, 23, 19, 17, 21, 16, 24, 20, 18, 22, 25, 26] 3 0 0 (rtA_hd a c).s = some (rtA_S a c ({ data := #[] }) ((1 : Int))) := by kernel_rfl
theorem rtA_e1 (a c : Int) (hv : vlX a c = 0) (ha : 0 ≤ a ∧ a ≤ 255) (hc : 1 ≤ c ∧ c ≤ 8) : canonOk 3 43 [] 3 (rtA_hd a c).s = true := canonOkF_eq.symm.trans (by kernel_rfl)
def rtA_X : Nat → VX
  | 0 => .exit 0
  | _ => .normal
noncomputable def rtA_E (kE : Nat) (a c : Int) (y0 : ByteArray) (y1 : Int) : St := match kE with
  | 0 => ((bodySt (bodyK Tryd.prog (knWordKnownL : Vars).length tabT 3000 (rtA_hd a c) (rtA_S a c y0 y1 ) [(0, .b 0)] 3 43 [15, 23, 19, 17, 21, 16, 24, 20, 18, 22, 25, 26] 43 0 0)).updF [(7, .string y0), (8, .int .i64 y1)] [])
  | _ => (rtA_hd a c).s
noncomputable def rtA_b1 (a c : Int) (y0 : ByteArray) (y1 : Int) : Bool := decide ((0 : Int) ≤ a ∧ a ≤ (255 : Int) ∧ (1 : Int) ≤ y1 ∧ y1 ≤ (8 : Int))
theorem rtA_p0 (a c : Int) (y0 : ByteArray) (y1 : Int) : bodyK Tryd.prog (knWordKnownL : Vars).length tabT 3000 (rtA_hd a c) (rtA_S a c y0 y1 ) [(0, .b 1), (1, .b 1), (2, .b 1), (3, .b 1)] 3 43 [15, 23, 19, 17, 21, 16, 24, 20, 18, 22, 25, 26] 3 0 0 = some (.normal, (rtA_S a c (y0 ++ { data := #[(49 : UInt8)] }) (IntKind.i64.wrap (y1 + (1 : Int)))), [(decide (y0.size + (1 : Nat) ≤ (9223372036854775807 : Nat))) = true, (btB a y1) = true, (rtA_b1 a c y0 y1 ) = true, (decide (y1 ≤ c)) = true]) := by kernel_rfl
theorem rtA_p1 (a c : Int) (y0 : ByteArray) (y1 : Int) : bodyK Tryd.prog (knWordKnownL : Vars).length tabT 3000 (rtA_hd a c) (rtA_S a c y0 y1 ) [(0, .b 1), (1, .b 1), (2, .b 0), (3, .b 1)] 3 43 [15, 23, 19, 17, 21, 16, 24, 20, 18, 22, 25, 26] 3 0 0 = some (.normal, (rtA_S a c (y0 ++ { data := #[(48 : UInt8)] }) (IntKind.i64.wrap (y1 + (1 : Int)))), [(decide (y0.size + (1 : Nat) ≤ (9223372036854775807 : Nat))) = true, (btB a y1) = false, (rtA_b1 a c y0 y1 ) = true, (decide (y1 ≤ c)) = true]) := by kernel_rfl
theorem rtA_p2 (a c : Int) (y0 : ByteArray) (y1 : Int) : bodyK Tryd.prog (knWordKnownL : Vars).length tabT 3000 (rtA_hd a c) (rtA_S a c y0 y1 ) [(0, .b 0)] 3 43 [15, 23, 19, 17, 21, 16, 24, 20, 18, 22, 25, 26] 43 0 0 = some (.exit 0, rtA_E 0 a c (y0) (y1) , [(decide (y1 ≤ c)) = false]) := by kernel_rfl
theorem rtA_q2 (a c : Int) (y0 : ByteArray) (y1 : Int) : (rtA_E 0 a c (y0) (y1) ).hs.next = 43 := by kernel_rfl
theorem rtA_d0 (a c : Int) (hv : vlX a c = 0) (ha : 0 ≤ a ∧ a ≤ 255) (hc : 1 ≤ c ∧ c ≤ 8) (y0 : ByteArray) (y1 : Int) (hi : (decide (1 ≤ y1 ∧ y1 ≤ 9 ∧ y0.size ≤ 100)) = true) (hq0 : (decide (y1 ≤ c)) = true) : (rtA_b1 a c y0 y1 ) = true := by
  rcases Bool.eq_false_or_eq_true (rtA_b1 a c y0 y1 ) with h | h
  · exact h
  · exfalso; (try simp only [rtA_b1] at *); (first | (simp_all only [Bool.and_eq_true, Bool.not_eq_true', Bool.false_eq_true, Bool.true_eq_false, reduceCtorEq]; done) | (simp only [sx, sy, eq_self, ne_eq, IntKind.wrap_i64, wrapU64, Int.reduceLT] at * <;> first | contradiction | omega) | omega | ((try simp only [sx, sy, eq_self, ne_eq, IntKind.wrap_i64, wrapU64, Int.reduceLT] at *) <;> omega) | (simp_all; done))
theorem rtA_d1 (a c : Int) (hv : vlX a c = 0) (ha : 0 ≤ a ∧ a ≤ 255) (hc : 1 ≤ c ∧ c ≤ 8) (y0 : ByteArray) (y1 : Int) (hi : (decide (1 ≤ y1 ∧ y1 ≤ 9 ∧ y0.size ≤ 100)) = true) (hq0 : (decide (y1 ≤ c)) = true) (hq1 : (rtA_b1 a c y0 y1 ) = true) (hq2 : (btB a y1) = true) : (decide (y0.size + (1 : Nat) ≤ (9223372036854775807 : Nat))) = true := by
  rcases Bool.eq_false_or_eq_true (decide (y0.size + (1 : Nat) ≤ (9223372036854775807 : Nat))) with h | h
  · exact h
  · exfalso; (try simp only [rtA_b1] at *); (first | (simp_all only [Bool.and_eq_true, Bool.not_eq_true', Bool.false_eq_true, Bool.true_eq_false, reduceCtorEq]; done) | (simp only [sx, sy, eq_self, ne_eq, IntKind.wrap_i64, wrapU64, Int.reduceLT] at * <;> first | contradiction | omega) | omega | ((try simp only [sx, sy, eq_self, ne_eq, IntKind.wrap_i64, wrapU64, Int.reduceLT] at *) <;> omega) | (simp_all; done))
theorem rtA_d2 (a c : Int) (hv : vlX a c = 0) (ha : 0 ≤ a ∧ a ≤ 255) (hc : 1 ≤ c ∧ c ≤ 8) (y0 : ByteArray) (y1 : Int) (hi : (decide (1 ≤ y1 ∧ y1 ≤ 9 ∧ y0.size ≤ 100)) = true) (hq0 : (decide (y1 ≤ c)) = true) (hq1 : (rtA_b1 a c y0 y1 ) = true) (hq2 : (btB a y1) = false) : (decide (y0.size + (1 : Nat) ≤ (9223372036854775807 : Nat))) = true := by
  rcases Bool.eq_false_or_eq_true (decide (y0.size + (1 : Nat) ≤ (9223372036854775807 : Nat))) with h | h
  · exact h
  · exfalso; (try simp only [rtA_b1] at *); (first | (simp_all only [Bool.and_eq_true, Bool.not_eq_true', Bool.false_eq_true, Bool.true_eq_false, reduceCtorEq]; done) | (simp only [sx, sy, eq_self, ne_eq, IntKind.wrap_i64, wrapU64, Int.reduceLT] at * <;> first | contradiction | omega) | omega | ((try simp only [sx, sy, eq_self, ne_eq, IntKind.wrap_i64, wrapU64, Int.reduceLT] at *) <;> omega) | (simp_all; done))
noncomputable def rtA_f (a c : Int) : Nat → ByteArray → Int → Option (Nat × (ByteArray × Int))
  | 0, _, _ => none
  | fu + 1, y0, y1 => (bif (decide (1 ≤ y1 ∧ y1 ≤ 9 ∧ y0.size ≤ 100)) then (bif (decide (y1 ≤ c)) then (bif (btB a y1) then rtA_f a c fu (y0 ++ { data := #[(49 : UInt8)] }) (IntKind.i64.wrap (y1 + (1 : Int))) else rtA_f a c fu (y0 ++ { data := #[(48 : UInt8)] }) (IntKind.i64.wrap (y1 + (1 : Int)))) else some (0, ((y0), (y1)))) else none)
theorem rtA_fs (a c : Int) (fu : Nat) (y0 : ByteArray) (y1 : Int) : rtA_f a c (fu + 1) y0 y1 = (bif (decide (1 ≤ y1 ∧ y1 ≤ 9 ∧ y0.size ≤ 100)) then (bif (decide (y1 ≤ c)) then (bif (btB a y1) then rtA_f a c fu (y0 ++ { data := #[(49 : UInt8)] }) (IntKind.i64.wrap (y1 + (1 : Int))) else rtA_f a c fu (y0 ++ { data := #[(48 : UInt8)] }) (IntKind.i64.wrap (y1 + (1 : Int)))) else some (0, ((y0), (y1)))) else none) := rfl
theorem rtA_f0 (a c : Int) (y0 : ByteArray) (y1 : Int) : rtA_f a c 0 y0 y1 = none := rfl
theorem rtA_loop (a c : Int) (hv : vlX a c = 0) (ha : 0 ≤ a ∧ a ≤ 255) (hc : 1 ≤ c ∧ c ≤ 8) : ∀ (fu : Nat) (y0 : ByteArray) (y1 : Int) (kk : Nat) (zz : ByteArray × Int), rtA_f a c fu y0 y1 = some (kk, zz) → VStep (rtA_hd a c).s.hs (rtA_S a c y0 y1 ).hs → RoundsC Tryd.prog knWordKnownL 3 43 (rtA_hd a c).s.hs (rtA_hd a c).ro (rtA_hd a c).a (rtA_S a c y0 y1 ) (rtA_X kk) (rtA_E kk a c zz.1 zz.2 ) ∧ ((rtA_E kk a c zz.1 zz.2 )).hs.next = 43 := by
  intro fu
  induction fu with
  | zero =>
    intro y0 y1 kk zz hf hSz
    have hf := (rtA_f0 a c y0 y1 ).symm.trans hf
    simp at hf
  | succ fu ih =>
    intro y0 y1 kk zz hf hSz
    have hf := (rtA_fs a c fu y0 y1 ).symm.trans hf
    rcases bif_or hf with ⟨hi, hf⟩ | ⟨hi, hf⟩
    case inr => cases hf
    rcases bif_or hf with ⟨hq0, hf⟩ | ⟨hq0, hf⟩
    ·
      have hq1 := rtA_d0 a c hv ha hc y0 y1 hi hq0 
      rcases bif_or hf with ⟨hq2, hf⟩ | ⟨hq2, hf⟩
      ·
        have hq3 := rtA_d1 a c hv ha hc y0 y1 hi hq0 hq1 hq2 
        have hb1 := rtA_p0 a c y0 y1 ; have hb2 := body_canon hb1; have hb3 := hb2 ⟨hq3, hq2, hq1, hq0, trivial⟩; obtain ⟨sz1, kz1, kz2, kz3⟩ := hb3; obtain ⟨gz1, gz2⟩ := ih (y0 ++ { data := #[(49 : UInt8)] }) (IntKind.i64.wrap (y1 + (1 : Int))) kk zz hf (rounds_step mix (T := tabT) tabT_ok (rtA_n a c hv ha hc ) (rtA_r a c hv ha hc ) (rtA_w a c hv ha hc ) kz1 hSz kz2 kz3); exact ⟨rounds_next mix (T := tabT) tabT_ok (rtA_n a c hv ha hc ) (rtA_r a c hv ha hc ) (rtA_w a c hv ha hc ) kz1 hSz kz2 kz3 (fun _ => gz1), gz2⟩
      ·
        have hq3 := rtA_d2 a c hv ha hc y0 y1 hi hq0 hq1 hq2 
        have hb1 := rtA_p1 a c y0 y1 ; have hb2 := body_canon hb1; have hb3 := hb2 ⟨hq3, hq2, hq1, hq0, trivial⟩; obtain ⟨sz1, kz1, kz2, kz3⟩ := hb3; obtain ⟨gz1, gz2⟩ := ih (y0 ++ { data := #[(48 : UInt8)] }) (IntKind.i64.wrap (y1 + (1 : Int))) kk zz hf (rounds_step mix (T := tabT) tabT_ok (rtA_n a c hv ha hc ) (rtA_r a c hv ha hc ) (rtA_w a c hv ha hc ) kz1 hSz kz2 kz3); exact ⟨rounds_next mix (T := tabT) tabT_ok (rtA_n a c hv ha hc ) (rtA_r a c hv ha hc ) (rtA_w a c hv ha hc ) kz1 hSz kz2 kz3 (fun _ => gz1), gz2⟩
    ·
      injection hf with hf; injection hf with e1 e2; subst e1; subst e2; have hb1 := rtA_p2 a c y0 y1 ; have hb2 := body_canon hb1; have hb3 := hb2 ⟨hq0, trivial⟩; obtain ⟨sz1, kz1, kz2, kz3⟩ := hb3; exact ⟨rounds_end mix (T := tabT) tabT_ok (rtA_n a c hv ha hc ) (rtA_r a c hv ha hc ) (rtA_w a c hv ha hc ) kz1 (fun h => by cases h) hSz kz2 kz3, rtA_q2 a c y0 y1 ⟩
theorem rtA_ok (a c : Int) (hv : vlX a c = 0) (ha : 0 ≤ a ∧ a ≤ 255) (hc : 1 ≤ c ∧ c ≤ 8) (fu kk : Nat) (zz : ByteArray × Int) (hf : rtA_f a c fu ({ data := #[] }) ((1 : Int)) = some (kk, zz)) : ∀ B : Bd, B.L = knWordKnownL → LoopOk Tryd.prog B (rtA_hd a c).ro (rtA_hd a c).a (rtA_hd a c).s (rtA_X kk) (rtA_E kk a c zz.1 zz.2 ) := by
  have hSz := begin_step (rtA_n a c hv ha hc ) (rtA_r a c hv ha hc ) (rtA_w a c hv ha hc ) (rtA_e0 a c hv ha hc ) (rtA_e1 a c hv ha hc )
  obtain ⟨gz1, gz2⟩ := rtA_loop a c hv ha hc fu ({ data := #[] }) ((1 : Int)) kk zz hf hSz
  exact rounds_ok (rtA_n a c hv ha hc ) (Nat.le_of_ble_eq_true (by kernel_rfl)) gz2 (rounds_begin (rtA_n a c hv ha hc ) (rtA_r a c hv ha hc ) (rtA_w a c hv ha hc ) (rtA_e0 a c hv ha hc ) (rtA_e1 a c hv ha hc ) (fun _ => gz1))

theorem rtK_p0 (a c : Int) (rtA_z0 : ByteArray) (rtA_z1 : Int)  (hv : vlX a c = 0) (ha : 0 ≤ a ∧ a ≤ 255) (hc : 1 ≤ c ∧ c ≤ 8) (rtA_k1 : (vlX a c != (0 : Int)) = false) (rtA_l : ∀ B : Bd, B.L = knWordKnownL → LoopOk Tryd.prog B (rtA_hd a c).ro (rtA_hd a c).a (rtA_hd a c).s (rtA_X 0) (rtA_E 0 a c rtA_z0 rtA_z1 )) : Known Tryd.prog knWordKnownL 9 [.int .i64 a, .int .i64 c] (.tuple #[(Value.string rtA_z0), (.int .i64 ((0 : Int)))]) :=
  open_res mix (GOk.add tabT_ok rtA_l) (T := (GTab.add tabT 7 (rtA_hd a c).ro (rtA_hd a c).a (rtA_hd a c).s (rtA_X 0) (rtA_E 0 a c rtA_z0 rtA_z1 ) (by kernel_rfl))) (fuel := 3000) (ans := [(1, .b 0), (2, .loop (rtA_X 0) (rtA_E 0 a c rtA_z0 rtA_z1 )), ]) (log := [LoopRes Tryd.prog (knWordKnownL : Vars).length (GTab.add tabT 7 (rtA_hd a c).ro (rtA_hd a c).a (rtA_hd a c).s (rtA_X 0) (rtA_E 0 a c rtA_z0 rtA_z1 ) (by kernel_rfl)) (rtA_hd a c).ro (rtA_hd a c).a (rtA_hd a c).s (rtA_X 0) (rtA_E 0 a c rtA_z0 rtA_z1 ), (vlX a c != (0 : Int)) = false]) (by kernel_rfl) ⟨(loop_known2 add_eq), rtA_k1, trivial⟩ (by kernel_rfl)
set_option maxHeartbeats 8000000 in
theorem rtK (a c : Int) (rtA_z0 : ByteArray) (rtA_z1 : Int)  (hv : vlX a c = 0) (ha : 0 ≤ a ∧ a ≤ 255) (hc : 1 ≤ c ∧ c ≤ 8) (rtA_k1 : (vlX a c != (0 : Int)) = false) (rtA_l : ∀ B : Bd, B.L = knWordKnownL → LoopOk Tryd.prog B (rtA_hd a c).ro (rtA_hd a c).a (rtA_hd a c).s (rtA_X 0) (rtA_E 0 a c rtA_z0 rtA_z1 )) : Known Tryd.prog knWordKnownL 9 [.int .i64 a, .int .i64 c] (.tuple #[(Value.string rtA_z0), (.int .i64 ((0 : Int)))]) := by
  exact rtK_p0 a c rtA_z0 rtA_z1 hv ha hc rtA_k1 rtA_l

noncomputable def rtE_c0 (a c : Int) : Int := (vlX a c)
theorem rtE_p0 (a c : Int) (hv : ¬ vlX a c = 0) (hq0 : (vlX a c != (0 : Int)) = true) : Known Tryd.prog knWordKnownL 9 [.int .i64 a, .int .i64 c] (.tuple #[(Value.string { data := #[] }), (.int .i64 (vlX a c))]) :=
  open_res mix tabT_ok (T := tabT) (fuel := 3000) (ans := [(1, .b 1)]) (log := [(vlX a c != (0 : Int)) = true]) (by kernel_rfl) ⟨hq0, trivial⟩ (by kernel_rfl)
set_option maxHeartbeats 8000000 in
theorem rtE (a c : Int) (hv : ¬ vlX a c = 0) : Known Tryd.prog knWordKnownL 9 [.int .i64 a, .int .i64 c] (.tuple #[(Value.string { data := #[] }), (.int .i64 (rtE_c0 a c))]) := by
  have hq0 : (vlX a c != (0 : Int)) = true := by
    rcases Bool.eq_false_or_eq_true (vlX a c != (0 : Int)) with h | h
    · exact h
    · exfalso; (first | (simp_all only [Bool.and_eq_true, Bool.not_eq_true', Bool.false_eq_true, Bool.true_eq_false, reduceCtorEq]; done) | (simp only [sx, sy, eq_self, ne_eq, IntKind.wrap_i64, wrapU64, Int.reduceLT] at * <;> first | contradiction | omega) | omega | ((try simp only [sx, sy, eq_self, ne_eq, IntKind.wrap_i64, wrapU64, Int.reduceLT] at *) <;> omega) | (simp_all; done))
  have e0 : rtE_c0 a c = (vlX a c) := rfl; rw [e0]; exact rtE_p0 a c hv hq0

end Go.Proofs.YtfpabkpmcmfbhaaDoor
