/- Layer 33: WordMakes: the loops of Parse, of both. -/
import Derived.Test.YtfpabkpmcmfbhaaOgT2
import Derived.ProofKit
import Derived.IntWalk
namespace Go.Proofs.Ytfpabkpmcmfbhaa
open Go Go.RowKit
set_option linter.unusedVariables false
set_option linter.unusedSimpArgs false
set_option linter.unnecessarySimpa false
set_option maxHeartbeats 8000000
set_option maxRecDepth 100000
noncomputable def ppA_hd (s : ByteArray) : Hd := headF Try.prog [] GTab.none 3000 20 [.string s] [(0, .b 1), (4, .b 0), (5, .stop)]
noncomputable def ppA_S (s : ByteArray) (y0 : Int) (y1 : Int) : St := (St.mk (TV.node (some (Value.string s)) (TV.node (some (Value.tuple { toList := [] })) (TV.node (some (Value.int IntKind.i64 (0 : Int))) (TV.node (some junk) (TV.node (some junk) (TV.node (some (Value.tuple { toList := [] })) TV.nil TV.nil) TV.nil) (TV.node (some junk) TV.nil TV.nil)) (TV.node (some (Value.bool false)) (TV.node (some junk) TV.nil TV.nil) (TV.node (some junk) TV.nil TV.nil))) (TV.node (some junk) (TV.node (some (Value.int IntKind.i64 (↑s.size : Int))) (TV.node (some junk) TV.nil TV.nil) (TV.node (some junk) TV.nil TV.nil)) (TV.node (some (Value.pointer (some { block := nat_lit 0, off := nat_lit 0 }))) (TV.node (some junk) TV.nil TV.nil) (TV.node (some junk) TV.nil TV.nil)))) (TV.node (some (Value.int IntKind.i64 y0)) (TV.node (some (Value.int IntKind.i64 (0 : Int))) (TV.node (some (Value.string s)) (TV.node (some junk) (TV.node (some (Value.tuple { toList := [] })) TV.nil TV.nil) TV.nil) (TV.node (some junk) TV.nil TV.nil)) (TV.node (some (Value.string s)) (TV.node (some junk) TV.nil TV.nil) (TV.node (some junk) TV.nil TV.nil))) (TV.node (some junk) (TV.node (some (Value.bool (decide ((↑s.size : Int) ≤ (8 : Int))))) (TV.node (some junk) TV.nil TV.nil) (TV.node (some junk) TV.nil TV.nil)) (TV.node (some junk) (TV.node (some junk) TV.nil TV.nil) (TV.node (some (Value.tuple { toList := [] })) TV.nil TV.nil))))) (HS.mk (Tr.node (some (VO.live (Obj.stringIter s y1.toNat) true)) Tr.nil Tr.nil) 1 2199023255551 2199023255551) [])
theorem ppA_n (s : ByteArray) (hs : 1 ≤ s.size ∧ s.size ≤ 8) : 1 = (ppA_hd s).s.hs.next := by kernel_rfl
theorem ppA_r (s : ByteArray) (hs : 1 ≤ s.size ∧ s.size ≤ 8) : (ppA_hd s).s.hs.rd < bitOf 1 := by
  have e : (ppA_hd s).s.hs.rd = 0 := by kernel_rfl
  rw [e]; exact blt_iff.1 (by kernel_rfl)
theorem ppA_w (s : ByteArray) (hs : 1 ≤ s.size ∧ s.size ≤ 8) : (ppA_hd s).s.hs.wr < bitOf 1 := by
  have e : (ppA_hd s).s.hs.wr = 1 := by kernel_rfl
  rw [e]; exact blt_iff.1 (by kernel_rfl)
theorem ppA_e0 (s : ByteArray) (hs : 1 ≤ s.size ∧ s.size ≤ 8) : canonS 1 41 [] [7, 15, 23, 19, 27, 5, 17, 25, 21, 29, 16, 24, 20, 28, 6, 18, 26, 14, 22] 1 1 1 (ppA_hd s).s = some (ppA_S s ((0 : Int)) (Int.ofNat (nat_lit 0))) := by kernel_rfl
theorem ppA_e1 (s : ByteArray) (hs : 1 ≤ s.size ∧ s.size ≤ 8) : canonOk 1 41 [] 1 (ppA_hd s).s = true := canonOkF_eq.symm.trans (by kernel_rfl)
def ppA_X : Nat → VX
  | 0 => .ret
  | 1 => .exit 0
  | _ => .normal
noncomputable def ppA_E (kE : Nat) (s : ByteArray) (y0 : Int) (y1 : Int) : St := match kE with
  | 0 => (St.mk (TV.node (some (Value.string s)) (TV.node (some (Value.tuple { toList := [] })) (TV.node (some (Value.int IntKind.i64 (0 : Int))) (TV.node (some junk) (TV.node (some junk) (TV.node (some (Value.tuple { toList := [] })) TV.nil TV.nil) TV.nil) (TV.node (some junk) TV.nil TV.nil)) (TV.node (some (Value.bool false)) (TV.node (some junk) TV.nil TV.nil) (TV.node (some junk) TV.nil TV.nil))) (TV.node (some junk) (TV.node (some (Value.int IntKind.i64 (↑s.size : Int))) (TV.node (some junk) TV.nil TV.nil) (TV.node (some junk) TV.nil TV.nil)) (TV.node (some (Value.pointer (some { block := nat_lit 0, off := nat_lit 0 }))) (TV.node (some junk) TV.nil TV.nil) (TV.node (some junk) TV.nil TV.nil)))) (TV.node (some (Value.int IntKind.i64 y0)) (TV.node (some (Value.int IntKind.i64 (3 : Int))) (TV.node (some (Value.string s)) (TV.node (some junk) (TV.node (some (Value.tuple { toList := [] })) TV.nil TV.nil) TV.nil) (TV.node (some junk) TV.nil TV.nil)) (TV.node (some (Value.string s)) (TV.node (some junk) TV.nil TV.nil) (TV.node (some junk) TV.nil TV.nil))) (TV.node (some junk) (TV.node (some (Value.bool (decide ((↑s.size : Int) ≤ (8 : Int))))) (TV.node (some junk) TV.nil TV.nil) (TV.node (some junk) TV.nil TV.nil)) (TV.node (some junk) (TV.node (some junk) TV.nil TV.nil) (TV.node (some (Value.tuple { toList := [] })) TV.nil TV.nil))))) (HS.mk (Tr.node (some (VO.live (Obj.stringIter s y1.toNat) true)) Tr.nil Tr.nil) 41 2199023255551 2199023255551) [])
  | 1 => (St.mk (TV.node (some (Value.string s)) (TV.node (some (Value.tuple { toList := [] })) (TV.node (some (Value.int IntKind.i64 (0 : Int))) (TV.node (some junk) (TV.node (some junk) (TV.node (some (Value.tuple { toList := [] })) TV.nil TV.nil) TV.nil) (TV.node (some junk) TV.nil TV.nil)) (TV.node (some (Value.bool false)) (TV.node (some junk) TV.nil TV.nil) (TV.node (some junk) TV.nil TV.nil))) (TV.node (some junk) (TV.node (some (Value.int IntKind.i64 (↑s.size : Int))) (TV.node (some junk) TV.nil TV.nil) (TV.node (some junk) TV.nil TV.nil)) (TV.node (some (Value.pointer (some { block := nat_lit 0, off := nat_lit 0 }))) (TV.node (some junk) TV.nil TV.nil) (TV.node (some junk) TV.nil TV.nil)))) (TV.node (some (Value.int IntKind.i64 y0)) (TV.node (some (Value.int IntKind.i64 (0 : Int))) (TV.node (some (Value.string s)) (TV.node (some junk) (TV.node (some (Value.tuple { toList := [] })) TV.nil TV.nil) TV.nil) (TV.node (some junk) TV.nil TV.nil)) (TV.node (some (Value.string s)) (TV.node (some junk) TV.nil TV.nil) (TV.node (some junk) TV.nil TV.nil))) (TV.node (some junk) (TV.node (some (Value.bool (decide ((↑s.size : Int) ≤ (8 : Int))))) (TV.node (some junk) TV.nil TV.nil) (TV.node (some junk) TV.nil TV.nil)) (TV.node (some junk) (TV.node (some junk) TV.nil TV.nil) (TV.node (some (Value.tuple { toList := [] })) TV.nil TV.nil))))) (HS.mk (Tr.node (some (VO.live (Obj.stringIter s y1.toNat) true)) Tr.nil Tr.nil) 41 2199023255551 2199023255551) [])
  | _ => (ppA_hd s).s
noncomputable def ppA_b1 (s : ByteArray) (y0 : Int) (y1 : Int) : Bool := decide (IntKind.i64.wrap (IntKind.i32.wrap ((↑(Utf8.decode s y1.toNat).fst : Int) - (48 : Int))) ≥ (0 : Int))
noncomputable def ppA_b2 (s : ByteArray) (y0 : Int) (y1 : Int) : Bool := !decide (IntKind.i64.wrap (IntKind.i32.wrap ((↑(Utf8.decode s y1.toNat).fst : Int) - (48 : Int))) ≤ (1 : Int))
theorem ppA_p0 (s : ByteArray) (y0 : Int) (y1 : Int) : bodyK Try.prog ([] : Vars).length GTab.none 3000 (ppA_hd s) (ppA_S s y0 y1 ) [(0, .b 1), (2, .b 1), (6, .b 1)] 1 41 [7, 15, 23, 19, 27, 5, 17, 25, 21, 29, 16, 24, 20, 28, 6, 18, 26, 14, 22] 41 1 1 = some (.ret, ppA_E 0 s ((0 : Int)) (Int.ofNat (y1.toNat + (Utf8.decode s y1.toNat).snd)) , [(ppA_b2 s y0 y1 ) = true, (ppA_b1 s y0 y1 ) = true, (decide (y1.toNat < s.size)) = true]) := by kernel_rfl
theorem ppA_q0 (s : ByteArray) (y0 : Int) (y1 : Int) : (ppA_E 0 s ((0 : Int)) (Int.ofNat (y1.toNat + (Utf8.decode s y1.toNat).snd)) ).hs.next = 41 := by kernel_rfl
theorem ppA_p1 (s : ByteArray) (y0 : Int) (y1 : Int) : bodyK Try.prog ([] : Vars).length GTab.none 3000 (ppA_hd s) (ppA_S s y0 y1 ) [(0, .b 1), (2, .b 1), (6, .b 0)] 1 41 [7, 15, 23, 19, 27, 5, 17, 25, 21, 29, 16, 24, 20, 28, 6, 18, 26, 14, 22] 1 1 1 = some (.normal, (ppA_S s (IntKind.i64.wrap (↑(BitVec.ofInt (64 : Nat) y0 ||| BitVec.ofInt (64 : Nat) (IntKind.i64.wrap (IntKind.i64.wrap (IntKind.i32.wrap ((↑(Utf8.decode s y1.toNat).fst : Int) - (48 : Int))) * (2 : Int) ^ min (IntKind.u64.wrap (↑y1.toNat : Int)).toNat (64 : Nat)))).toNat : Int)) (Int.ofNat (y1.toNat + (Utf8.decode s y1.toNat).snd))), [(ppA_b2 s y0 y1 ) = false, (ppA_b1 s y0 y1 ) = true, (decide (y1.toNat < s.size)) = true]) := by kernel_rfl
theorem ppA_p2 (s : ByteArray) (y0 : Int) (y1 : Int) : bodyK Try.prog ([] : Vars).length GTab.none 3000 (ppA_hd s) (ppA_S s y0 y1 ) [(0, .b 1), (2, .b 0)] 1 41 [7, 15, 23, 19, 27, 5, 17, 25, 21, 29, 16, 24, 20, 28, 6, 18, 26, 14, 22] 41 1 1 = some (.ret, ppA_E 0 s ((0 : Int)) (Int.ofNat (y1.toNat + (Utf8.decode s y1.toNat).snd)) , [(ppA_b1 s y0 y1 ) = false, (decide (y1.toNat < s.size)) = true]) := by kernel_rfl
theorem ppA_q2 (s : ByteArray) (y0 : Int) (y1 : Int) : (ppA_E 0 s ((0 : Int)) (Int.ofNat (y1.toNat + (Utf8.decode s y1.toNat).snd)) ).hs.next = 41 := by kernel_rfl
theorem ppA_p3 (s : ByteArray) (y0 : Int) (y1 : Int) : bodyK Try.prog ([] : Vars).length GTab.none 3000 (ppA_hd s) (ppA_S s y0 y1 ) [(0, .b 0)] 1 41 [7, 15, 23, 19, 27, 5, 17, 25, 21, 29, 16, 24, 20, 28, 6, 18, 26, 14, 22] 41 1 1 = some (.exit 0, ppA_E 1 s (y0) (Int.ofNat y1.toNat) , [(decide (y1.toNat < s.size)) = false]) := by kernel_rfl
theorem ppA_q3 (s : ByteArray) (y0 : Int) (y1 : Int) : (ppA_E 1 s (y0) (Int.ofNat y1.toNat) ).hs.next = 41 := by kernel_rfl
noncomputable def ppA_f (s : ByteArray) : Nat → Int → Int → Option (Nat × (Int × Int))
  | 0, _, _ => none
  | fu + 1, y0, y1 => (bif (decide (0 ≤ y0 ∧ y0 ≤ 255 ∧ 0 ≤ y1 ∧ y1 ≤ 12)) then (bif (decide (y1.toNat < s.size)) then (bif (decide (IntKind.i64.wrap (IntKind.i32.wrap ((↑(Utf8.decode s y1.toNat).fst : Int) - (48 : Int))) ≥ (0 : Int))) then (bif (!decide (IntKind.i64.wrap (IntKind.i32.wrap ((↑(Utf8.decode s y1.toNat).fst : Int) - (48 : Int))) ≤ (1 : Int))) then some (0, (((0 : Int)), (Int.ofNat (y1.toNat + (Utf8.decode s y1.toNat).snd)))) else ppA_f s fu (IntKind.i64.wrap (↑(BitVec.ofInt (64 : Nat) y0 ||| BitVec.ofInt (64 : Nat) (IntKind.i64.wrap (IntKind.i64.wrap (IntKind.i32.wrap ((↑(Utf8.decode s y1.toNat).fst : Int) - (48 : Int))) * (2 : Int) ^ min (IntKind.u64.wrap (↑y1.toNat : Int)).toNat (64 : Nat)))).toNat : Int)) (Int.ofNat (y1.toNat + (Utf8.decode s y1.toNat).snd))) else some (0, (((0 : Int)), (Int.ofNat (y1.toNat + (Utf8.decode s y1.toNat).snd))))) else some (1, ((y0), (Int.ofNat y1.toNat)))) else none)
theorem ppA_fs (s : ByteArray) (fu : Nat) (y0 : Int) (y1 : Int) : ppA_f s (fu + 1) y0 y1 = (bif (decide (0 ≤ y0 ∧ y0 ≤ 255 ∧ 0 ≤ y1 ∧ y1 ≤ 12)) then (bif (decide (y1.toNat < s.size)) then (bif (decide (IntKind.i64.wrap (IntKind.i32.wrap ((↑(Utf8.decode s y1.toNat).fst : Int) - (48 : Int))) ≥ (0 : Int))) then (bif (!decide (IntKind.i64.wrap (IntKind.i32.wrap ((↑(Utf8.decode s y1.toNat).fst : Int) - (48 : Int))) ≤ (1 : Int))) then some (0, (((0 : Int)), (Int.ofNat (y1.toNat + (Utf8.decode s y1.toNat).snd)))) else ppA_f s fu (IntKind.i64.wrap (↑(BitVec.ofInt (64 : Nat) y0 ||| BitVec.ofInt (64 : Nat) (IntKind.i64.wrap (IntKind.i64.wrap (IntKind.i32.wrap ((↑(Utf8.decode s y1.toNat).fst : Int) - (48 : Int))) * (2 : Int) ^ min (IntKind.u64.wrap (↑y1.toNat : Int)).toNat (64 : Nat)))).toNat : Int)) (Int.ofNat (y1.toNat + (Utf8.decode s y1.toNat).snd))) else some (0, (((0 : Int)), (Int.ofNat (y1.toNat + (Utf8.decode s y1.toNat).snd))))) else some (1, ((y0), (Int.ofNat y1.toNat)))) else none) := rfl
theorem ppA_f0 (s : ByteArray) (y0 : Int) (y1 : Int) : ppA_f s 0 y0 y1 = none := rfl
theorem ppA_loop (s : ByteArray) (hs : 1 ≤ s.size ∧ s.size ≤ 8) : ∀ (fu : Nat) (y0 : Int) (y1 : Int) (kk : Nat) (zz : Int × Int), ppA_f s fu y0 y1 = some (kk, zz) → VStep (ppA_hd s).s.hs (ppA_S s y0 y1 ).hs → RoundsC Try.prog [] 1 41 (ppA_hd s).s.hs (ppA_hd s).ro (ppA_hd s).a (ppA_S s y0 y1 ) (ppA_X kk) (ppA_E kk s zz.1 zz.2 ) ∧ ((ppA_E kk s zz.1 zz.2 )).hs.next = 41 := by
  intro fu
  induction fu with
  | zero =>
    intro y0 y1 kk zz hf hSz
    have hf := (ppA_f0 s y0 y1 ).symm.trans hf
    simp at hf
  | succ fu ih =>
    intro y0 y1 kk zz hf hSz
    have hf := (ppA_fs s fu y0 y1 ).symm.trans hf
    rcases bif_or hf with ⟨hi, hf⟩ | ⟨hi, hf⟩
    case inr => cases hf
    rcases bif_or hf with ⟨hq0, hf⟩ | ⟨hq0, hf⟩
    ·
      rcases bif_or hf with ⟨hq1, hf⟩ | ⟨hq1, hf⟩
      ·
        rcases bif_or hf with ⟨hq2, hf⟩ | ⟨hq2, hf⟩
        ·
          injection hf with hf; injection hf with e1 e2; subst e1; subst e2; have hb1 := ppA_p0 s y0 y1 ; have hb2 := body_canon hb1; have hb3 := hb2 ⟨hq2, hq1, hq0, trivial⟩; obtain ⟨sz1, kz1, kz2, kz3⟩ := hb3; exact ⟨rounds_end mix (T := GTab.none) GOk.none (ppA_n s hs ) (ppA_r s hs ) (ppA_w s hs ) kz1 (fun h => by cases h) hSz kz2 kz3, ppA_q0 s y0 y1 ⟩
        ·
          have hb1 := ppA_p1 s y0 y1 ; have hb2 := body_canon hb1; have hb3 := hb2 ⟨hq2, hq1, hq0, trivial⟩; obtain ⟨sz1, kz1, kz2, kz3⟩ := hb3; obtain ⟨gz1, gz2⟩ := ih (IntKind.i64.wrap (↑(BitVec.ofInt (64 : Nat) y0 ||| BitVec.ofInt (64 : Nat) (IntKind.i64.wrap (IntKind.i64.wrap (IntKind.i32.wrap ((↑(Utf8.decode s y1.toNat).fst : Int) - (48 : Int))) * (2 : Int) ^ min (IntKind.u64.wrap (↑y1.toNat : Int)).toNat (64 : Nat)))).toNat : Int)) (Int.ofNat (y1.toNat + (Utf8.decode s y1.toNat).snd)) kk zz hf (rounds_step mix (T := GTab.none) GOk.none (ppA_n s hs ) (ppA_r s hs ) (ppA_w s hs ) kz1 hSz kz2 kz3); exact ⟨rounds_next mix (T := GTab.none) GOk.none (ppA_n s hs ) (ppA_r s hs ) (ppA_w s hs ) kz1 hSz kz2 kz3 (fun _ => gz1), gz2⟩
      ·
        injection hf with hf; injection hf with e1 e2; subst e1; subst e2; have hb1 := ppA_p2 s y0 y1 ; have hb2 := body_canon hb1; have hb3 := hb2 ⟨hq1, hq0, trivial⟩; obtain ⟨sz1, kz1, kz2, kz3⟩ := hb3; exact ⟨rounds_end mix (T := GTab.none) GOk.none (ppA_n s hs ) (ppA_r s hs ) (ppA_w s hs ) kz1 (fun h => by cases h) hSz kz2 kz3, ppA_q2 s y0 y1 ⟩
    ·
      injection hf with hf; injection hf with e1 e2; subst e1; subst e2; have hb1 := ppA_p3 s y0 y1 ; have hb2 := body_canon hb1; have hb3 := hb2 ⟨hq0, trivial⟩; obtain ⟨sz1, kz1, kz2, kz3⟩ := hb3; exact ⟨rounds_end mix (T := GTab.none) GOk.none (ppA_n s hs ) (ppA_r s hs ) (ppA_w s hs ) kz1 (fun h => by cases h) hSz kz2 kz3, ppA_q3 s y0 y1 ⟩
theorem ppA_ok (s : ByteArray) (hs : 1 ≤ s.size ∧ s.size ≤ 8) (fu kk : Nat) (zz : Int × Int) (hf : ppA_f s fu ((0 : Int)) (Int.ofNat (nat_lit 0)) = some (kk, zz)) : ∀ B : Bd, B.L = [] → LoopOk Try.prog B (ppA_hd s).ro (ppA_hd s).a (ppA_hd s).s (ppA_X kk) (ppA_E kk s zz.1 zz.2 ) := by
  have hSz := begin_step (ppA_n s hs ) (ppA_r s hs ) (ppA_w s hs ) (ppA_e0 s hs ) (ppA_e1 s hs )
  obtain ⟨gz1, gz2⟩ := ppA_loop s hs fu ((0 : Int)) (Int.ofNat (nat_lit 0)) kk zz hf hSz
  exact rounds_ok (ppA_n s hs ) (Nat.le_of_ble_eq_true (by kernel_rfl)) gz2 (rounds_begin (ppA_n s hs ) (ppA_r s hs ) (ppA_w s hs ) (ppA_e0 s hs ) (ppA_e1 s hs ) (fun _ => gz1))

noncomputable def pp0_c0 (s : ByteArray) (ppA_z0 : Int) (ppA_z1 : Int)  : Int := (ppA_z0)
theorem pp0_p0 (s : ByteArray) (ppA_z0 : Int) (ppA_z1 : Int)  (hs : 1 ≤ s.size ∧ s.size ≤ 8) (ppA_k0 : (decide ((↑s.size : Int) ≥ (1 : Int))) = true) (ppA_k4 : (!decide ((↑s.size : Int) ≤ (8 : Int))) = false) (ppA_l : ∀ B : Bd, B.L = [] → LoopOk Try.prog B (ppA_hd s).ro (ppA_hd s).a (ppA_hd s).s (ppA_X 0) (ppA_E 0 s ppA_z0 ppA_z1 )) : Known Try.prog [] 20 [.string s] (.tuple #[(.int .i64 (ppA_z0)), (.int .i64 ((0 : Int))), (.int .i64 ((3 : Int)))]) :=
  open_res mix (GOk.add GOk.none ppA_l) (T := (GTab.add GTab.none 5 (ppA_hd s).ro (ppA_hd s).a (ppA_hd s).s (ppA_X 0) (ppA_E 0 s ppA_z0 ppA_z1 ) (by kernel_rfl))) (fuel := 3000) (ans := [(0, .b 1), (4, .b 0), (5, .loop (ppA_X 0) (ppA_E 0 s ppA_z0 ppA_z1 )), ]) (log := [LoopRes Try.prog ([] : Vars).length (GTab.add GTab.none 5 (ppA_hd s).ro (ppA_hd s).a (ppA_hd s).s (ppA_X 0) (ppA_E 0 s ppA_z0 ppA_z1 ) (by kernel_rfl)) (ppA_hd s).ro (ppA_hd s).a (ppA_hd s).s (ppA_X 0) (ppA_E 0 s ppA_z0 ppA_z1 ), (!decide ((↑s.size : Int) ≤ (8 : Int))) = false, (decide ((↑s.size : Int) ≥ (1 : Int))) = true]) (by kernel_rfl) ⟨(loop_known2 add_eq), ppA_k4, ppA_k0, trivial⟩ (by kernel_rfl)
set_option maxHeartbeats 8000000 in
theorem pp0 (s : ByteArray) (ppA_z0 : Int) (ppA_z1 : Int)  (hs : 1 ≤ s.size ∧ s.size ≤ 8) (ppA_k0 : (decide ((↑s.size : Int) ≥ (1 : Int))) = true) (ppA_k4 : (!decide ((↑s.size : Int) ≤ (8 : Int))) = false) (ppA_l : ∀ B : Bd, B.L = [] → LoopOk Try.prog B (ppA_hd s).ro (ppA_hd s).a (ppA_hd s).s (ppA_X 0) (ppA_E 0 s ppA_z0 ppA_z1 )) : Known Try.prog [] 20 [.string s] (.tuple #[(.int .i64 (pp0_c0 s ppA_z0 ppA_z1)), (.int .i64 ((0 : Int))), (.int .i64 ((3 : Int)))]) := by
  have e0 : pp0_c0 s ppA_z0 ppA_z1 = (ppA_z0) := rfl; rw [e0]; exact pp0_p0 s ppA_z0 ppA_z1 hs ppA_k0 ppA_k4 ppA_l

noncomputable def pp1_c0 (s : ByteArray) (ppA_z0 : Int) (ppA_z1 : Int)  : Int := (ppA_z0)
noncomputable def pp1_c1 (s : ByteArray) (ppA_z0 : Int) (ppA_z1 : Int)  : Int := ((↑s.size : Int))
theorem pp1_p0 (s : ByteArray) (ppA_z0 : Int) (ppA_z1 : Int)  (hs : 1 ≤ s.size ∧ s.size ≤ 8) (ppA_k0 : (decide ((↑s.size : Int) ≥ (1 : Int))) = true) (ppA_k4 : (!decide ((↑s.size : Int) ≤ (8 : Int))) = false) (ppA_l : ∀ B : Bd, B.L = [] → LoopOk Try.prog B (ppA_hd s).ro (ppA_hd s).a (ppA_hd s).s (ppA_X 1) (ppA_E 1 s ppA_z0 ppA_z1 )) : Known Try.prog [] 20 [.string s] (.tuple #[(.int .i64 (ppA_z0)), (.int .i64 ((↑s.size : Int))), (.int .i64 ((0 : Int)))]) :=
  open_res mix (GOk.add GOk.none ppA_l) (T := (GTab.add GTab.none 5 (ppA_hd s).ro (ppA_hd s).a (ppA_hd s).s (ppA_X 1) (ppA_E 1 s ppA_z0 ppA_z1 ) (by kernel_rfl))) (fuel := 3000) (ans := [(0, .b 1), (4, .b 0), (5, .loop (ppA_X 1) (ppA_E 1 s ppA_z0 ppA_z1 )), ]) (log := [LoopRes Try.prog ([] : Vars).length (GTab.add GTab.none 5 (ppA_hd s).ro (ppA_hd s).a (ppA_hd s).s (ppA_X 1) (ppA_E 1 s ppA_z0 ppA_z1 ) (by kernel_rfl)) (ppA_hd s).ro (ppA_hd s).a (ppA_hd s).s (ppA_X 1) (ppA_E 1 s ppA_z0 ppA_z1 ), (!decide ((↑s.size : Int) ≤ (8 : Int))) = false, (decide ((↑s.size : Int) ≥ (1 : Int))) = true]) (by kernel_rfl) ⟨(loop_known2 add_eq), ppA_k4, ppA_k0, trivial⟩ (by kernel_rfl)
set_option maxHeartbeats 8000000 in
theorem pp1 (s : ByteArray) (ppA_z0 : Int) (ppA_z1 : Int)  (hs : 1 ≤ s.size ∧ s.size ≤ 8) (ppA_k0 : (decide ((↑s.size : Int) ≥ (1 : Int))) = true) (ppA_k4 : (!decide ((↑s.size : Int) ≤ (8 : Int))) = false) (ppA_l : ∀ B : Bd, B.L = [] → LoopOk Try.prog B (ppA_hd s).ro (ppA_hd s).a (ppA_hd s).s (ppA_X 1) (ppA_E 1 s ppA_z0 ppA_z1 )) : Known Try.prog [] 20 [.string s] (.tuple #[(.int .i64 (pp1_c0 s ppA_z0 ppA_z1)), (.int .i64 (pp1_c1 s ppA_z0 ppA_z1)), (.int .i64 ((0 : Int)))]) := by
  have e0 : pp1_c0 s ppA_z0 ppA_z1 = (ppA_z0) := rfl; rw [e0]; have e1 : pp1_c1 s ppA_z0 ppA_z1 = ((↑s.size : Int)) := rfl; rw [e1]; exact pp1_p0 s ppA_z0 ppA_z1 hs ppA_k0 ppA_k4 ppA_l

theorem ppE_p0 (s : ByteArray) (hs : ¬ (1 ≤ s.size ∧ s.size ≤ 8)) (hq0 : (decide ((↑s.size : Int) ≥ (1 : Int))) = true) (hq1 : (!decide ((↑s.size : Int) ≤ (8 : Int))) = true) : Known Try.prog [] 20 [.string s] (.tuple #[(.int .i64 ((0 : Int))), (.int .i64 ((0 : Int))), (.int .i64 ((3 : Int)))]) :=
  open_res mix GOk.none (T := GTab.none) (fuel := 3000) (ans := [(0, .b 1), (4, .b 1)]) (log := [(!decide ((↑s.size : Int) ≤ (8 : Int))) = true, (decide ((↑s.size : Int) ≥ (1 : Int))) = true]) (by kernel_rfl) ⟨hq1, hq0, trivial⟩ (by kernel_rfl)
theorem ppE_p1 (s : ByteArray) (hs : ¬ (1 ≤ s.size ∧ s.size ≤ 8)) (hq0 : (decide ((↑s.size : Int) ≥ (1 : Int))) = false) : Known Try.prog [] 20 [.string s] (.tuple #[(.int .i64 ((0 : Int))), (.int .i64 ((0 : Int))), (.int .i64 ((3 : Int)))]) :=
  open_res mix GOk.none (T := GTab.none) (fuel := 3000) (ans := [(0, .b 0)]) (log := [(decide ((↑s.size : Int) ≥ (1 : Int))) = false]) (by kernel_rfl) ⟨hq0, trivial⟩ (by kernel_rfl)
set_option maxHeartbeats 8000000 in
theorem ppE (s : ByteArray) (hs : ¬ (1 ≤ s.size ∧ s.size ≤ 8)) : Known Try.prog [] 20 [.string s] (.tuple #[(.int .i64 ((0 : Int))), (.int .i64 ((0 : Int))), (.int .i64 ((3 : Int)))]) := by
  rcases Bool.eq_false_or_eq_true (decide ((↑s.size : Int) ≥ (1 : Int))) with hq0 | hq0
  ·
    have hq1 : (!decide ((↑s.size : Int) ≤ (8 : Int))) = true := by
      rcases Bool.eq_false_or_eq_true (!decide ((↑s.size : Int) ≤ (8 : Int))) with h | h
      · exact h
      · exfalso; (first | (simp_all only [Bool.and_eq_true, Bool.not_eq_true', Bool.false_eq_true, Bool.true_eq_false, reduceCtorEq]; done) | (simp only [sx, sy, eq_self, ne_eq, IntKind.wrap_i64, wrapU64, Int.reduceLT] at * <;> first | contradiction | omega) | omega | ((try simp only [sx, sy, eq_self, ne_eq, IntKind.wrap_i64, wrapU64, Int.reduceLT] at *) <;> omega) | (simp_all; done))
    exact ppE_p0 s hs hq0 hq1
  ·
    exact ppE_p1 s hs hq0

noncomputable def rpA_hd (s : ByteArray) : Hd := headF Try.prog [] tabW 3000 21 [.string s] [(0, .b 0), (4, .b 0), (5, .stop)]
noncomputable def rpA_S (s : ByteArray) (y0 : Int) (y1 : Int) : St := (St.mk (TV.node (some (Value.string s)) (TV.node (some (Value.tuple { toList := [] })) (TV.node (some (Value.int IntKind.i64 (0 : Int))) (TV.node (some (Value.string s)) (TV.node (some junk) (TV.node (some junk) TV.nil TV.nil) TV.nil) (TV.node (some junk) TV.nil TV.nil)) (TV.node (some (Value.string s)) (TV.node (some junk) TV.nil TV.nil) (TV.node (some junk) TV.nil TV.nil))) (TV.node (some (Value.int IntKind.i64 y0)) (TV.node (some (Value.bool (decide ((↑s.size : Int) < (1 : Int))))) (TV.node (some junk) (TV.node (some (Value.tuple { toList := [] })) TV.nil TV.nil) TV.nil) (TV.node (some junk) TV.nil TV.nil)) (TV.node (some (Value.bool (decide ((↑s.size : Int) > (8 : Int))))) (TV.node (some junk) TV.nil TV.nil) (TV.node (some junk) TV.nil TV.nil)))) (TV.node (some (Value.int IntKind.i64 (0 : Int))) (TV.node (some (Value.int IntKind.i64 (0 : Int))) (TV.node (some (Value.int IntKind.i64 (↑s.size : Int))) (TV.node (some junk) (TV.node (some (Value.tuple { toList := [] })) TV.nil TV.nil) TV.nil) (TV.node (some junk) TV.nil TV.nil)) (TV.node (some (Value.int IntKind.i64 (↑s.size : Int))) (TV.node (some junk) TV.nil TV.nil) (TV.node (some junk) TV.nil TV.nil))) (TV.node (some (Value.int IntKind.i64 y1)) (TV.node (some (Value.bool false)) (TV.node (some junk) (TV.node (some (Value.tuple { toList := [] })) TV.nil TV.nil) TV.nil) (TV.node (some junk) TV.nil TV.nil)) (TV.node (some (Value.bool false)) (TV.node (some junk) TV.nil TV.nil) (TV.node (some junk) TV.nil TV.nil))))) (HS.mk Tr.nil 0 1099511627775 1099511627775) [])
theorem rpA_n (s : ByteArray) (hs : 1 ≤ s.size ∧ s.size ≤ 8) : 0 = (rpA_hd s).s.hs.next := by kernel_rfl
theorem rpA_r (s : ByteArray) (hs : 1 ≤ s.size ∧ s.size ≤ 8) : (rpA_hd s).s.hs.rd < bitOf 0 := by
  have e : (rpA_hd s).s.hs.rd = 0 := by kernel_rfl
  rw [e]; exact blt_iff.1 (by kernel_rfl)
theorem rpA_w (s : ByteArray) (hs : 1 ≤ s.size ∧ s.size ≤ 8) : (rpA_hd s).s.hs.wr < bitOf 0 := by
  have e : (rpA_hd s).s.hs.wr = 0 := by kernel_rfl
  rw [e]; exact blt_iff.1 (by kernel_rfl)
theorem rpA_e0 (s : ByteArray) (hs : 1 ≤ s.size ∧ s.size ≤ 8) : canonS 0 40 [] [15, 23, 19, 27, 17, 25, 21, 29, 16, 24, 20, 28, 18, 26, 22, 31, 30] 0 0 0 (rpA_hd s).s = some (rpA_S s ((0 : Int)) ((0 : Int))) := by kernel_rfl
theorem rpA_e1 (s : ByteArray) (hs : 1 ≤ s.size ∧ s.size ≤ 8) : canonOk 0 40 [] 0 (rpA_hd s).s = true := canonOkF_eq.symm.trans (by kernel_rfl)
def rpA_X : Nat → VX
  | 0 => .ret
  | 1 => .exit 0
  | _ => .normal
noncomputable def rpA_E (kE : Nat) (s : ByteArray) (y0 : Int) (y1 : Int) : St := match kE with
  | 0 => (St.mk (TV.node (some (Value.string s)) (TV.node (some (Value.tuple { toList := [] })) (TV.node (some (Value.int IntKind.i64 (0 : Int))) (TV.node (some (Value.string s)) (TV.node (some junk) (TV.node (some junk) TV.nil TV.nil) TV.nil) (TV.node (some junk) TV.nil TV.nil)) (TV.node (some (Value.string s)) (TV.node (some junk) TV.nil TV.nil) (TV.node (some junk) TV.nil TV.nil))) (TV.node (some (Value.int IntKind.i64 y0)) (TV.node (some (Value.bool (decide ((↑s.size : Int) < (1 : Int))))) (TV.node (some junk) (TV.node (some (Value.tuple { toList := [] })) TV.nil TV.nil) TV.nil) (TV.node (some junk) TV.nil TV.nil)) (TV.node (some (Value.bool (decide ((↑s.size : Int) > (8 : Int))))) (TV.node (some junk) TV.nil TV.nil) (TV.node (some junk) TV.nil TV.nil)))) (TV.node (some (Value.int IntKind.i64 (0 : Int))) (TV.node (some (Value.int IntKind.i64 (3 : Int))) (TV.node (some (Value.int IntKind.i64 (↑s.size : Int))) (TV.node (some junk) (TV.node (some (Value.tuple { toList := [] })) TV.nil TV.nil) TV.nil) (TV.node (some junk) TV.nil TV.nil)) (TV.node (some (Value.int IntKind.i64 (↑s.size : Int))) (TV.node (some junk) TV.nil TV.nil) (TV.node (some junk) TV.nil TV.nil))) (TV.node (some (Value.int IntKind.i64 y1)) (TV.node (some (Value.bool false)) (TV.node (some junk) (TV.node (some (Value.tuple { toList := [] })) TV.nil TV.nil) TV.nil) (TV.node (some junk) TV.nil TV.nil)) (TV.node (some (Value.bool false)) (TV.node (some junk) TV.nil TV.nil) (TV.node (some junk) TV.nil TV.nil))))) (HS.mk Tr.nil 40 1099511627775 1099511627775) [])
  | 1 => (St.mk (TV.node (some (Value.string s)) (TV.node (some (Value.tuple { toList := [] })) (TV.node (some (Value.int IntKind.i64 (0 : Int))) (TV.node (some (Value.string s)) (TV.node (some junk) (TV.node (some junk) TV.nil TV.nil) TV.nil) (TV.node (some junk) TV.nil TV.nil)) (TV.node (some (Value.string s)) (TV.node (some junk) TV.nil TV.nil) (TV.node (some junk) TV.nil TV.nil))) (TV.node (some (Value.int IntKind.i64 y0)) (TV.node (some (Value.bool (decide ((↑s.size : Int) < (1 : Int))))) (TV.node (some junk) (TV.node (some (Value.tuple { toList := [] })) TV.nil TV.nil) TV.nil) (TV.node (some junk) TV.nil TV.nil)) (TV.node (some (Value.bool (decide ((↑s.size : Int) > (8 : Int))))) (TV.node (some junk) TV.nil TV.nil) (TV.node (some junk) TV.nil TV.nil)))) (TV.node (some (Value.int IntKind.i64 (0 : Int))) (TV.node (some (Value.int IntKind.i64 (0 : Int))) (TV.node (some (Value.int IntKind.i64 (↑s.size : Int))) (TV.node (some junk) (TV.node (some (Value.tuple { toList := [] })) TV.nil TV.nil) TV.nil) (TV.node (some junk) TV.nil TV.nil)) (TV.node (some (Value.int IntKind.i64 (↑s.size : Int))) (TV.node (some junk) TV.nil TV.nil) (TV.node (some junk) TV.nil TV.nil))) (TV.node (some (Value.int IntKind.i64 y1)) (TV.node (some (Value.bool false)) (TV.node (some junk) (TV.node (some (Value.tuple { toList := [] })) TV.nil TV.nil) TV.nil) (TV.node (some junk) TV.nil TV.nil)) (TV.node (some (Value.bool false)) (TV.node (some junk) TV.nil TV.nil) (TV.node (some junk) TV.nil TV.nil))))) (HS.mk Tr.nil 40 1099511627775 1099511627775) [])
  | _ => (rpA_hd s).s
theorem rpA_p0 (s : ByteArray) (y0 : Int) (y1 : Int) : bodyK Try.prog ([] : Vars).length tabW 3000 (rpA_hd s) (rpA_S s y0 y1 ) [(0, .b 1), (1, .b 1), (2, .b 1), (3, .b 1)] 0 40 [15, 23, 19, 27, 17, 25, 21, 29, 16, 24, 20, 28, 18, 26, 22, 31, 30] 0 0 0 = some (.normal, (rpA_S s (IntKind.i64.wrap (y0 + pwI y1)) (IntKind.i64.wrap (y1 + (1 : Int)))), [(decide ((0 : Int) ≤ y1 ∧ y1 ≤ (8 : Int))) = true, (byI s y1 == (49 : Int)) = true, (decide ((0 : Int) ≤ y1) && decide (y1 < (↑s.size : Int))) = true, (decide (y1 < (↑s.size : Int))) = true]) := by kernel_rfl
theorem rpA_p1 (s : ByteArray) (y0 : Int) (y1 : Int) : bodyK Try.prog ([] : Vars).length tabW 3000 (rpA_hd s) (rpA_S s y0 y1 ) [(0, .b 1), (1, .b 1), (2, .b 0), (3, .b 1)] 0 40 [15, 23, 19, 27, 17, 25, 21, 29, 16, 24, 20, 28, 18, 26, 22, 31, 30] 0 0 0 = some (.normal, (rpA_S s (y0) (IntKind.i64.wrap (y1 + (1 : Int)))), [(byI s y1 == (48 : Int)) = true, (byI s y1 == (49 : Int)) = false, (decide ((0 : Int) ≤ y1) && decide (y1 < (↑s.size : Int))) = true, (decide (y1 < (↑s.size : Int))) = true]) := by kernel_rfl
theorem rpA_p2 (s : ByteArray) (y0 : Int) (y1 : Int) : bodyK Try.prog ([] : Vars).length tabW 3000 (rpA_hd s) (rpA_S s y0 y1 ) [(0, .b 1), (1, .b 1), (2, .b 0), (3, .b 0)] 0 40 [15, 23, 19, 27, 17, 25, 21, 29, 16, 24, 20, 28, 18, 26, 22, 31, 30] 40 0 0 = some (.ret, rpA_E 0 s (y0) (y1) , [(byI s y1 == (48 : Int)) = false, (byI s y1 == (49 : Int)) = false, (decide ((0 : Int) ≤ y1) && decide (y1 < (↑s.size : Int))) = true, (decide (y1 < (↑s.size : Int))) = true]) := by kernel_rfl
theorem rpA_q2 (s : ByteArray) (y0 : Int) (y1 : Int) : (rpA_E 0 s (y0) (y1) ).hs.next = 40 := by kernel_rfl
theorem rpA_p3 (s : ByteArray) (y0 : Int) (y1 : Int) : bodyK Try.prog ([] : Vars).length tabW 3000 (rpA_hd s) (rpA_S s y0 y1 ) [(0, .b 0)] 0 40 [15, 23, 19, 27, 17, 25, 21, 29, 16, 24, 20, 28, 18, 26, 22, 31, 30] 40 0 0 = some (.exit 0, rpA_E 1 s (y0) (y1) , [(decide (y1 < (↑s.size : Int))) = false]) := by kernel_rfl
theorem rpA_q3 (s : ByteArray) (y0 : Int) (y1 : Int) : (rpA_E 1 s (y0) (y1) ).hs.next = 40 := by kernel_rfl
theorem rpA_d0 (s : ByteArray) (hs : 1 ≤ s.size ∧ s.size ≤ 8) (y0 : Int) (y1 : Int) (hi : (decide (0 ≤ y0 ∧ y0 ≤ 255 ∧ 0 ≤ y1 ∧ y1 ≤ 8)) = true) (hq0 : (decide (y1 < (↑s.size : Int))) = true) : (decide ((0 : Int) ≤ y1) && decide (y1 < (↑s.size : Int))) = true := by
  rcases Bool.eq_false_or_eq_true (decide ((0 : Int) ≤ y1) && decide (y1 < (↑s.size : Int))) with h | h
  · exact h
  · exfalso; (first | (simp_all only [Bool.and_eq_true, Bool.not_eq_true', Bool.false_eq_true, Bool.true_eq_false, reduceCtorEq]; done) | (simp only [sx, sy, eq_self, ne_eq, IntKind.wrap_i64, wrapU64, Int.reduceLT] at * <;> first | contradiction | omega) | omega | ((try simp only [sx, sy, eq_self, ne_eq, IntKind.wrap_i64, wrapU64, Int.reduceLT] at *) <;> omega) | (simp_all; done))
theorem rpA_d1 (s : ByteArray) (hs : 1 ≤ s.size ∧ s.size ≤ 8) (y0 : Int) (y1 : Int) (hi : (decide (0 ≤ y0 ∧ y0 ≤ 255 ∧ 0 ≤ y1 ∧ y1 ≤ 8)) = true) (hq0 : (decide (y1 < (↑s.size : Int))) = true) (hq1 : (decide ((0 : Int) ≤ y1) && decide (y1 < (↑s.size : Int))) = true) (hq2 : (byI s y1 == (49 : Int)) = true) : (decide ((0 : Int) ≤ y1 ∧ y1 ≤ (8 : Int))) = true := by
  rcases Bool.eq_false_or_eq_true (decide ((0 : Int) ≤ y1 ∧ y1 ≤ (8 : Int))) with h | h
  · exact h
  · exfalso; (first | (simp_all only [Bool.and_eq_true, Bool.not_eq_true', Bool.false_eq_true, Bool.true_eq_false, reduceCtorEq]; done) | (simp only [sx, sy, eq_self, ne_eq, IntKind.wrap_i64, wrapU64, Int.reduceLT] at * <;> first | contradiction | omega) | omega | ((try simp only [sx, sy, eq_self, ne_eq, IntKind.wrap_i64, wrapU64, Int.reduceLT] at *) <;> omega) | (simp_all; done))
noncomputable def rpA_f (s : ByteArray) : Nat → Int → Int → Option (Nat × (Int × Int))
  | 0, _, _ => none
  | fu + 1, y0, y1 => (bif (decide (0 ≤ y0 ∧ y0 ≤ 255 ∧ 0 ≤ y1 ∧ y1 ≤ 8)) then (bif (decide (y1 < (↑s.size : Int))) then (bif (byI s y1 == (49 : Int)) then rpA_f s fu (IntKind.i64.wrap (y0 + pwI y1)) (IntKind.i64.wrap (y1 + (1 : Int))) else (bif (byI s y1 == (48 : Int)) then rpA_f s fu (y0) (IntKind.i64.wrap (y1 + (1 : Int))) else some (0, ((y0), (y1))))) else some (1, ((y0), (y1)))) else none)
theorem rpA_fs (s : ByteArray) (fu : Nat) (y0 : Int) (y1 : Int) : rpA_f s (fu + 1) y0 y1 = (bif (decide (0 ≤ y0 ∧ y0 ≤ 255 ∧ 0 ≤ y1 ∧ y1 ≤ 8)) then (bif (decide (y1 < (↑s.size : Int))) then (bif (byI s y1 == (49 : Int)) then rpA_f s fu (IntKind.i64.wrap (y0 + pwI y1)) (IntKind.i64.wrap (y1 + (1 : Int))) else (bif (byI s y1 == (48 : Int)) then rpA_f s fu (y0) (IntKind.i64.wrap (y1 + (1 : Int))) else some (0, ((y0), (y1))))) else some (1, ((y0), (y1)))) else none) := rfl
theorem rpA_f0 (s : ByteArray) (y0 : Int) (y1 : Int) : rpA_f s 0 y0 y1 = none := rfl
theorem rpA_loop (s : ByteArray) (hs : 1 ≤ s.size ∧ s.size ≤ 8) : ∀ (fu : Nat) (y0 : Int) (y1 : Int) (kk : Nat) (zz : Int × Int), rpA_f s fu y0 y1 = some (kk, zz) → VStep (rpA_hd s).s.hs (rpA_S s y0 y1 ).hs → RoundsC Try.prog [] 0 40 (rpA_hd s).s.hs (rpA_hd s).ro (rpA_hd s).a (rpA_S s y0 y1 ) (rpA_X kk) (rpA_E kk s zz.1 zz.2 ) ∧ ((rpA_E kk s zz.1 zz.2 )).hs.next = 40 := by
  intro fu
  induction fu with
  | zero =>
    intro y0 y1 kk zz hf hSz
    have hf := (rpA_f0 s y0 y1 ).symm.trans hf
    simp at hf
  | succ fu ih =>
    intro y0 y1 kk zz hf hSz
    have hf := (rpA_fs s fu y0 y1 ).symm.trans hf
    rcases bif_or hf with ⟨hi, hf⟩ | ⟨hi, hf⟩
    case inr => cases hf
    rcases bif_or hf with ⟨hq0, hf⟩ | ⟨hq0, hf⟩
    ·
      have hq1 := rpA_d0 s hs y0 y1 hi hq0 
      rcases bif_or hf with ⟨hq2, hf⟩ | ⟨hq2, hf⟩
      ·
        have hq3 := rpA_d1 s hs y0 y1 hi hq0 hq1 hq2 
        have hb1 := rpA_p0 s y0 y1 ; have hb2 := body_canon hb1; have hb3 := hb2 ⟨hq3, hq2, hq1, hq0, trivial⟩; obtain ⟨sz1, kz1, kz2, kz3⟩ := hb3; obtain ⟨gz1, gz2⟩ := ih (IntKind.i64.wrap (y0 + pwI y1)) (IntKind.i64.wrap (y1 + (1 : Int))) kk zz hf (rounds_step mix (T := tabW) tabW_ok (rpA_n s hs ) (rpA_r s hs ) (rpA_w s hs ) kz1 hSz kz2 kz3); exact ⟨rounds_next mix (T := tabW) tabW_ok (rpA_n s hs ) (rpA_r s hs ) (rpA_w s hs ) kz1 hSz kz2 kz3 (fun _ => gz1), gz2⟩
      ·
        rcases bif_or hf with ⟨hq4, hf⟩ | ⟨hq4, hf⟩
        ·
          have hb1 := rpA_p1 s y0 y1 ; have hb2 := body_canon hb1; have hb3 := hb2 ⟨hq4, hq2, hq1, hq0, trivial⟩; obtain ⟨sz1, kz1, kz2, kz3⟩ := hb3; obtain ⟨gz1, gz2⟩ := ih (y0) (IntKind.i64.wrap (y1 + (1 : Int))) kk zz hf (rounds_step mix (T := tabW) tabW_ok (rpA_n s hs ) (rpA_r s hs ) (rpA_w s hs ) kz1 hSz kz2 kz3); exact ⟨rounds_next mix (T := tabW) tabW_ok (rpA_n s hs ) (rpA_r s hs ) (rpA_w s hs ) kz1 hSz kz2 kz3 (fun _ => gz1), gz2⟩
        ·
          injection hf with hf; injection hf with e1 e2; subst e1; subst e2; have hb1 := rpA_p2 s y0 y1 ; have hb2 := body_canon hb1; have hb3 := hb2 ⟨hq4, hq2, hq1, hq0, trivial⟩; obtain ⟨sz1, kz1, kz2, kz3⟩ := hb3; exact ⟨rounds_end mix (T := tabW) tabW_ok (rpA_n s hs ) (rpA_r s hs ) (rpA_w s hs ) kz1 (fun h => by cases h) hSz kz2 kz3, rpA_q2 s y0 y1 ⟩
    ·
      injection hf with hf; injection hf with e1 e2; subst e1; subst e2; have hb1 := rpA_p3 s y0 y1 ; have hb2 := body_canon hb1; have hb3 := hb2 ⟨hq0, trivial⟩; obtain ⟨sz1, kz1, kz2, kz3⟩ := hb3; exact ⟨rounds_end mix (T := tabW) tabW_ok (rpA_n s hs ) (rpA_r s hs ) (rpA_w s hs ) kz1 (fun h => by cases h) hSz kz2 kz3, rpA_q3 s y0 y1 ⟩
theorem rpA_ok (s : ByteArray) (hs : 1 ≤ s.size ∧ s.size ≤ 8) (fu kk : Nat) (zz : Int × Int) (hf : rpA_f s fu ((0 : Int)) ((0 : Int)) = some (kk, zz)) : ∀ B : Bd, B.L = [] → LoopOk Try.prog B (rpA_hd s).ro (rpA_hd s).a (rpA_hd s).s (rpA_X kk) (rpA_E kk s zz.1 zz.2 ) := by
  have hSz := begin_step (rpA_n s hs ) (rpA_r s hs ) (rpA_w s hs ) (rpA_e0 s hs ) (rpA_e1 s hs )
  obtain ⟨gz1, gz2⟩ := rpA_loop s hs fu ((0 : Int)) ((0 : Int)) kk zz hf hSz
  exact rounds_ok (rpA_n s hs ) (Nat.le_of_ble_eq_true (by kernel_rfl)) gz2 (rounds_begin (rpA_n s hs ) (rpA_r s hs ) (rpA_w s hs ) (rpA_e0 s hs ) (rpA_e1 s hs ) (fun _ => gz1))

theorem rp0_p0 (s : ByteArray) (rpA_z0 : Int) (rpA_z1 : Int)  (hs : 1 ≤ s.size ∧ s.size ≤ 8) (rpA_k0 : (decide ((↑s.size : Int) < (1 : Int))) = false) (rpA_k4 : (decide ((↑s.size : Int) > (8 : Int))) = false) (rpA_l : ∀ B : Bd, B.L = [] → LoopOk Try.prog B (rpA_hd s).ro (rpA_hd s).a (rpA_hd s).s (rpA_X 0) (rpA_E 0 s rpA_z0 rpA_z1 )) : Known Try.prog [] 21 [.string s] (.tuple #[(.int .i64 ((0 : Int))), (.int .i64 ((0 : Int))), (.int .i64 ((3 : Int)))]) :=
  open_res mix (GOk.add tabW_ok rpA_l) (T := (GTab.add tabW 6 (rpA_hd s).ro (rpA_hd s).a (rpA_hd s).s (rpA_X 0) (rpA_E 0 s rpA_z0 rpA_z1 ) (by kernel_rfl))) (fuel := 3000) (ans := [(0, .b 0), (4, .b 0), (5, .loop (rpA_X 0) (rpA_E 0 s rpA_z0 rpA_z1 )), ]) (log := [LoopRes Try.prog ([] : Vars).length (GTab.add tabW 6 (rpA_hd s).ro (rpA_hd s).a (rpA_hd s).s (rpA_X 0) (rpA_E 0 s rpA_z0 rpA_z1 ) (by kernel_rfl)) (rpA_hd s).ro (rpA_hd s).a (rpA_hd s).s (rpA_X 0) (rpA_E 0 s rpA_z0 rpA_z1 ), (decide ((↑s.size : Int) > (8 : Int))) = false, (decide ((↑s.size : Int) < (1 : Int))) = false]) (by kernel_rfl) ⟨(loop_known2 add_eq), rpA_k4, rpA_k0, trivial⟩ (by kernel_rfl)
set_option maxHeartbeats 8000000 in
theorem rp0 (s : ByteArray) (rpA_z0 : Int) (rpA_z1 : Int)  (hs : 1 ≤ s.size ∧ s.size ≤ 8) (rpA_k0 : (decide ((↑s.size : Int) < (1 : Int))) = false) (rpA_k4 : (decide ((↑s.size : Int) > (8 : Int))) = false) (rpA_l : ∀ B : Bd, B.L = [] → LoopOk Try.prog B (rpA_hd s).ro (rpA_hd s).a (rpA_hd s).s (rpA_X 0) (rpA_E 0 s rpA_z0 rpA_z1 )) : Known Try.prog [] 21 [.string s] (.tuple #[(.int .i64 ((0 : Int))), (.int .i64 ((0 : Int))), (.int .i64 ((3 : Int)))]) := by
  exact rp0_p0 s rpA_z0 rpA_z1 hs rpA_k0 rpA_k4 rpA_l

noncomputable def rp1_c0 (s : ByteArray) (rpA_z0 : Int) (rpA_z1 : Int)  : Int := (rpA_z0)
noncomputable def rp1_c1 (s : ByteArray) (rpA_z0 : Int) (rpA_z1 : Int)  : Int := ((↑s.size : Int))
theorem rp1_p0 (s : ByteArray) (rpA_z0 : Int) (rpA_z1 : Int)  (hs : 1 ≤ s.size ∧ s.size ≤ 8) (rpA_k0 : (decide ((↑s.size : Int) < (1 : Int))) = false) (rpA_k4 : (decide ((↑s.size : Int) > (8 : Int))) = false) (rpA_l : ∀ B : Bd, B.L = [] → LoopOk Try.prog B (rpA_hd s).ro (rpA_hd s).a (rpA_hd s).s (rpA_X 1) (rpA_E 1 s rpA_z0 rpA_z1 )) : Known Try.prog [] 21 [.string s] (.tuple #[(.int .i64 (rpA_z0)), (.int .i64 ((↑s.size : Int))), (.int .i64 ((0 : Int)))]) :=
  open_res mix (GOk.add tabW_ok rpA_l) (T := (GTab.add tabW 6 (rpA_hd s).ro (rpA_hd s).a (rpA_hd s).s (rpA_X 1) (rpA_E 1 s rpA_z0 rpA_z1 ) (by kernel_rfl))) (fuel := 3000) (ans := [(0, .b 0), (4, .b 0), (5, .loop (rpA_X 1) (rpA_E 1 s rpA_z0 rpA_z1 )), ]) (log := [LoopRes Try.prog ([] : Vars).length (GTab.add tabW 6 (rpA_hd s).ro (rpA_hd s).a (rpA_hd s).s (rpA_X 1) (rpA_E 1 s rpA_z0 rpA_z1 ) (by kernel_rfl)) (rpA_hd s).ro (rpA_hd s).a (rpA_hd s).s (rpA_X 1) (rpA_E 1 s rpA_z0 rpA_z1 ), (decide ((↑s.size : Int) > (8 : Int))) = false, (decide ((↑s.size : Int) < (1 : Int))) = false]) (by kernel_rfl) ⟨(loop_known2 add_eq), rpA_k4, rpA_k0, trivial⟩ (by kernel_rfl)
set_option maxHeartbeats 8000000 in
theorem rp1 (s : ByteArray) (rpA_z0 : Int) (rpA_z1 : Int)  (hs : 1 ≤ s.size ∧ s.size ≤ 8) (rpA_k0 : (decide ((↑s.size : Int) < (1 : Int))) = false) (rpA_k4 : (decide ((↑s.size : Int) > (8 : Int))) = false) (rpA_l : ∀ B : Bd, B.L = [] → LoopOk Try.prog B (rpA_hd s).ro (rpA_hd s).a (rpA_hd s).s (rpA_X 1) (rpA_E 1 s rpA_z0 rpA_z1 )) : Known Try.prog [] 21 [.string s] (.tuple #[(.int .i64 (rp1_c0 s rpA_z0 rpA_z1)), (.int .i64 (rp1_c1 s rpA_z0 rpA_z1)), (.int .i64 ((0 : Int)))]) := by
  have e0 : rp1_c0 s rpA_z0 rpA_z1 = (rpA_z0) := rfl; rw [e0]; have e1 : rp1_c1 s rpA_z0 rpA_z1 = ((↑s.size : Int)) := rfl; rw [e1]; exact rp1_p0 s rpA_z0 rpA_z1 hs rpA_k0 rpA_k4 rpA_l

theorem rpE_p0 (s : ByteArray) (hs : ¬ (1 ≤ s.size ∧ s.size ≤ 8)) (hq0 : (decide ((↑s.size : Int) < (1 : Int))) = true) : Known Try.prog [] 21 [.string s] (.tuple #[(.int .i64 ((0 : Int))), (.int .i64 ((0 : Int))), (.int .i64 ((3 : Int)))]) :=
  open_res mix tabW_ok (T := tabW) (fuel := 3000) (ans := [(0, .b 1)]) (log := [(decide ((↑s.size : Int) < (1 : Int))) = true]) (by kernel_rfl) ⟨hq0, trivial⟩ (by kernel_rfl)
theorem rpE_p1 (s : ByteArray) (hs : ¬ (1 ≤ s.size ∧ s.size ≤ 8)) (hq0 : (decide ((↑s.size : Int) < (1 : Int))) = false) (hq1 : (decide ((↑s.size : Int) > (8 : Int))) = true) : Known Try.prog [] 21 [.string s] (.tuple #[(.int .i64 ((0 : Int))), (.int .i64 ((0 : Int))), (.int .i64 ((3 : Int)))]) :=
  open_res mix tabW_ok (T := tabW) (fuel := 3000) (ans := [(0, .b 0), (4, .b 1)]) (log := [(decide ((↑s.size : Int) > (8 : Int))) = true, (decide ((↑s.size : Int) < (1 : Int))) = false]) (by kernel_rfl) ⟨hq1, hq0, trivial⟩ (by kernel_rfl)
set_option maxHeartbeats 8000000 in
theorem rpE (s : ByteArray) (hs : ¬ (1 ≤ s.size ∧ s.size ≤ 8)) : Known Try.prog [] 21 [.string s] (.tuple #[(.int .i64 ((0 : Int))), (.int .i64 ((0 : Int))), (.int .i64 ((3 : Int)))]) := by
  rcases Bool.eq_false_or_eq_true (decide ((↑s.size : Int) < (1 : Int))) with hq0 | hq0
  ·
    exact rpE_p0 s hs hq0
  ·
    have hq1 : (decide ((↑s.size : Int) > (8 : Int))) = true := by
      rcases Bool.eq_false_or_eq_true (decide ((↑s.size : Int) > (8 : Int))) with h | h
      · exact h
      · exfalso; (first | (simp_all only [Bool.and_eq_true, Bool.not_eq_true', Bool.false_eq_true, Bool.true_eq_false, reduceCtorEq]; done) | (simp only [sx, sy, eq_self, ne_eq, IntKind.wrap_i64, wrapU64, Int.reduceLT] at * <;> first | contradiction | omega) | omega | ((try simp only [sx, sy, eq_self, ne_eq, IntKind.wrap_i64, wrapU64, Int.reduceLT] at *) <;> omega) | (simp_all; done))
    exact rpE_p1 s hs hq0 hq1

end Go.Proofs.Ytfpabkpmcmfbhaa
