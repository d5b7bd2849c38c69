/- Layer 8: the loops of rides. -/
import Derived.Test.YtcjlidciniiofaaRN
import Derived.ProofKit
import Derived.IntWalk
namespace Go.Proofs.Ytcjlidciniiofaa
open Go Go.RowKit
set_option linter.unusedVariables false
set_option linter.unusedSimpArgs false
set_option linter.unnecessarySimpa false
set_option maxHeartbeats 8000000
set_option maxRecDepth 100000
theorem qNx (v l m : Int) (hg : (decide (0 ≤ v ∧ v ≤ m ∧ 1 ≤ m ∧ m ≤ 20 ∧ 1 ≤ l ∧ l ≤ 63000 ∧ (v = 0 ∨ rT (v - 1) ≤ l))) = true) : Known Try.prog [] 59 [.int .i64 v, .int .i64 l, .int .i64 m] (.int .i64 (nxV m v l)) := by have h := of_decide_eq_true hg; exact rNx_is h
noncomputable def qNx_k : List Value → Option (Bool × Value)
  | [.int .i64 v, .int .i64 l, .int .i64 m] => some (decide (0 ≤ v ∧ v ≤ m ∧ 1 ≤ m ∧ m ≤ 20 ∧ 1 ≤ l ∧ l ≤ 63000 ∧ (v = 0 ∨ rT (v - 1) ≤ l)), .int .i64 (nxV m v l))
  | _ => none
theorem qNx_ok : ∀ args v, qNx_k args = some (true, v) → Known Try.prog [] 59 args v := by
  intro args v h
  unfold qNx_k at h
  split at h
  · injection h with h; injection h with hg h; subst h; exact qNx _ _ _ hg
  · cases h
theorem qDu (n m : Int) (hg : (decide (0 ≤ n ∧ n ≤ 63000 ∧ 1 ≤ m ∧ m ≤ 20)) = true) : Known Try.prog [] 40 [.int .i64 n, .int .i64 m] (.int .i64 (rD m n)) := by have h := of_decide_eq_true hg; exact pDuration ⟨h.1, h.2.1⟩ h.2.2
noncomputable def qDu_k : List Value → Option (Bool × Value)
  | [.int .i64 n, .int .i64 m] => some (decide (0 ≤ n ∧ n ≤ 63000 ∧ 1 ≤ m ∧ m ≤ 20), .int .i64 (rD m n))
  | _ => none
theorem qDu_ok : ∀ args v, qDu_k args = some (true, v) → Known Try.prog [] 40 args v := by
  intro args v h
  unfold qDu_k at h
  split at h
  · injection h with h; injection h with hg h; subst h; exact qDu _ _ hg
  · cases h
noncomputable def tabB : GTab := (GTab.fn 59 qNx_k GTab.none)
theorem tabB_ok : GOk Try.prog [] tabB := (GOk.fn qNx_ok GOk.none)
noncomputable def rdA_hd (n m : Int) : Hd := headF Try.prog [] tabB 3000 45 [.int .i64 n, .int .i64 m] [(0, .stop)]
noncomputable def rdA_S (n m : Int) (y0 : Int) (y1 : Int) (y2 : Int) (y3 : Int) : St := (St.mk (TV.node (some (Value.int IntKind.i64 n)) (TV.node (some (Value.int IntKind.i64 m)) (TV.node (some (Value.tuple { toList := [] })) (TV.node (some (Value.int IntKind.i64 y1)) (TV.node (some junk) TV.nil TV.nil) (TV.node (some junk) TV.nil TV.nil)) (TV.node (some junk) (TV.node (some junk) TV.nil TV.nil) TV.nil)) (TV.node (some (Value.int IntKind.i64 (0 : Int))) (TV.node (some (Value.int IntKind.i64 y3)) (TV.node (some junk) TV.nil TV.nil) (TV.node (some (Value.tuple { toList := [] })) TV.nil TV.nil)) (TV.node (some junk) (TV.node (some junk) TV.nil TV.nil) TV.nil))) (TV.node (some (Value.tuple { toList := [] })) (TV.node (some (Value.int IntKind.i64 (0 : Int))) (TV.node (some (Value.int IntKind.i64 y2)) (TV.node (some junk) TV.nil TV.nil) (TV.node (some junk) TV.nil TV.nil)) (TV.node (some junk) (TV.node (some junk) TV.nil TV.nil) TV.nil)) (TV.node (some (Value.int IntKind.i64 y0)) (TV.node (some (Value.int IntKind.i64 n)) (TV.node (some junk) TV.nil TV.nil) (TV.node (some (Value.tuple { toList := [] })) TV.nil TV.nil)) (TV.node (some junk) (TV.node (some junk) TV.nil TV.nil) TV.nil)))) (HS.mk Tr.nil 0 1099511627775 1099511627775) [])
theorem rdA_n (n m : Int) (h1 : 0 ≤ n ∧ n ≤ 63000) (h2 : 1 ≤ m ∧ m ≤ 20) : 0 = (rdA_hd n m).s.hs.next := by kernel_rfl
theorem rdA_r (n m : Int) (h1 : 0 ≤ n ∧ n ≤ 63000) (h2 : 1 ≤ m ∧ m ≤ 20) : (rdA_hd n m).s.hs.rd < bitOf 0 := by
  have e : (rdA_hd n m).s.hs.rd = 0 := by kernel_rfl
  rw [e]; exact blt_iff.1 (by kernel_rfl)
theorem rdA_w (n m : Int) (h1 : 0 ≤ n ∧ n ≤ 63000) (h2 : 1 ≤ m ∧ m ≤ 20) : (rdA_hd n m).s.hs.wr < bitOf 0 := by
  have e : (rdA_hd n m).s.hs.wr = 0 := by kernel_rfl
  rw [e]; exact blt_iff.1 (by kernel_rfl)
theorem rdA_e0 (n m : Int) (h1 : 0 ≤ n ∧ n ≤ 63000) (h2 : 1 ≤ m ∧ m ≤ 20) : canonS 0 40 [] [15, 23, 11, 19, 17, 13, 21, 16, 24, 12, 20, 18, 14, 22] 0 0 0 (rdA_hd n m).s = some (rdA_S n m ((0 : Int)) ((0 : Int)) ((0 : Int)) (n)) := by kernel_rfl
theorem rdA_e1 (n m : Int) (h1 : 0 ≤ n ∧ n ≤ 63000) (h2 : 1 ≤ m ∧ m ≤ 20) : canonOk 0 40 [] 0 (rdA_hd n m).s = true := canonOkF_eq.symm.trans (by kernel_rfl)
def rdA_X : Nat → VX
  | 0 => .exit 0
  | _ => .normal
noncomputable def rdA_E (kE : Nat) (n m : Int) (y0 : Int) (y1 : Int) (y2 : Int) (y3 : Int) : St := match kE with
  | 0 => (St.mk (TV.node (some (Value.int IntKind.i64 n)) (TV.node (some (Value.int IntKind.i64 m)) (TV.node (some (Value.tuple { toList := [] })) (TV.node (some (Value.int IntKind.i64 y1)) (TV.node (some junk) TV.nil TV.nil) (TV.node (some junk) TV.nil TV.nil)) (TV.node (some junk) (TV.node (some junk) TV.nil TV.nil) TV.nil)) (TV.node (some (Value.int IntKind.i64 (0 : Int))) (TV.node (some (Value.int IntKind.i64 y3)) (TV.node (some junk) TV.nil TV.nil) (TV.node (some (Value.tuple { toList := [] })) TV.nil TV.nil)) (TV.node (some junk) (TV.node (some junk) TV.nil TV.nil) TV.nil))) (TV.node (some (Value.tuple { toList := [] })) (TV.node (some (Value.int IntKind.i64 (0 : Int))) (TV.node (some (Value.int IntKind.i64 y2)) (TV.node (some junk) TV.nil TV.nil) (TV.node (some junk) TV.nil TV.nil)) (TV.node (some junk) (TV.node (some junk) TV.nil TV.nil) TV.nil)) (TV.node (some (Value.int IntKind.i64 y0)) (TV.node (some (Value.int IntKind.i64 n)) (TV.node (some junk) TV.nil TV.nil) (TV.node (some (Value.tuple { toList := [] })) TV.nil TV.nil)) (TV.node (some junk) (TV.node (some junk) TV.nil TV.nil) TV.nil)))) (HS.mk Tr.nil 40 1099511627775 1099511627775) [])
  | _ => (rdA_hd n m).s
noncomputable def rdA_b1 (n m : Int) (y0 : Int) (y1 : Int) (y2 : Int) (y3 : Int) : Bool := decide ((0 : Int) ≤ y2 ∧ y2 ≤ m ∧ (1 : Int) ≤ m ∧ m ≤ (20 : Int) ∧ (1 : Int) ≤ y3 ∧ y3 ≤ (63000 : Int) ∧ (y2 = (0 : Int) ∨ rT (y2 - (1 : Int)) ≤ y3))
theorem rdA_p0 (n m : Int) (y0 : Int) (y1 : Int) (y2 : Int) (y3 : Int) : bodyK Try.prog ([] : Vars).length tabB 3000 (rdA_hd n m) (rdA_S n m y0 y1 y2 y3 ) [(0, .b 1), (1, .b 1)] 0 40 [15, 23, 11, 19, 17, 13, 21, 16, 24, 12, 20, 18, 14, 22] 0 0 0 = some (.normal, (rdA_S n m (IntKind.i64.wrap (y0 + (1 : Int))) (if nxV m y2 y3 > y1 then nxV m y2 y3 else y1) (nxV m y2 y3) (IntKind.i64.wrap (y3 - nxV m y2 y3))), [(rdA_b1 n m y0 y1 y2 y3 ) = true, (decide (y3 > (0 : Int))) = true]) := by kernel_rfl
theorem rdA_p1 (n m : Int) (y0 : Int) (y1 : Int) (y2 : Int) (y3 : Int) : bodyK Try.prog ([] : Vars).length tabB 3000 (rdA_hd n m) (rdA_S n m y0 y1 y2 y3 ) [(0, .b 0)] 0 40 [15, 23, 11, 19, 17, 13, 21, 16, 24, 12, 20, 18, 14, 22] 40 0 0 = some (.exit 0, rdA_E 0 n m (y0) (y1) (y2) (y3) , [(decide (y3 > (0 : Int))) = false]) := by kernel_rfl
theorem rdA_q1 (n m : Int) (y0 : Int) (y1 : Int) (y2 : Int) (y3 : Int) : (rdA_E 0 n m (y0) (y1) (y2) (y3) ).hs.next = 40 := by kernel_rfl
theorem rdA_d0 (n m : Int) (h1 : 0 ≤ n ∧ n ≤ 63000) (h2 : 1 ≤ m ∧ m ≤ 20) (y0 : Int) (y1 : Int) (y2 : Int) (y3 : Int) (hi : (decide (0 ≤ y2 ∧ y2 ≤ m ∧ 0 ≤ y3 ∧ y3 ≤ 63000 ∧ (y2 = 0 ∨ rT (y2 - 1) ≤ y3) ∧ 0 ≤ y0 ∧ y0 ≤ 63000 ∧ 0 ≤ y1 ∧ y1 ≤ 20 ∧ (y3 = 0 ∨ (0 ≤ nxV m y2 y3 ∧ nxV m y2 y3 ≤ 20 ∧ nxV m y2 y3 ≤ y3)))) = true) (hq0 : (decide (y3 > (0 : Int))) = true) : (rdA_b1 n m y0 y1 y2 y3 ) = true := by
  rcases Bool.eq_false_or_eq_true (rdA_b1 n m y0 y1 y2 y3 ) with h | h
  · exact h
  · exfalso; (try simp only [rdA_b1] at *); (first | (simp_all only [Bool.and_eq_true, Bool.not_eq_true', Bool.false_eq_true, Bool.true_eq_false, reduceCtorEq]; done) | (simp only [sx, sy, eq_self, ne_eq, IntKind.wrap_i64, wrapU64, Int.reduceLT] at * <;> first | contradiction | omega) | omega | ((try simp only [sx, sy, eq_self, ne_eq, IntKind.wrap_i64, wrapU64, Int.reduceLT] at *) <;> omega) | (simp_all; done))
noncomputable def rdA_f (n m : Int) : Nat → Int → Int → Int → Int → Option (Nat × (Int × Int × Int × Int))
  | 0, _, _, _, _ => none
  | fu + 1, y0, y1, y2, y3 => (bif (decide (0 ≤ y2 ∧ y2 ≤ m ∧ 0 ≤ y3 ∧ y3 ≤ 63000 ∧ (y2 = 0 ∨ rT (y2 - 1) ≤ y3) ∧ 0 ≤ y0 ∧ y0 ≤ 63000 ∧ 0 ≤ y1 ∧ y1 ≤ 20 ∧ (y3 = 0 ∨ (0 ≤ nxV m y2 y3 ∧ nxV m y2 y3 ≤ 20 ∧ nxV m y2 y3 ≤ y3)))) then (bif (decide (y3 > (0 : Int))) then rdA_f n m fu (IntKind.i64.wrap (y0 + (1 : Int))) (if nxV m y2 y3 > y1 then nxV m y2 y3 else y1) (nxV m y2 y3) (IntKind.i64.wrap (y3 - nxV m y2 y3)) else some (0, ((y0), (y1), (y2), (y3)))) else none)
theorem rdA_fs (n m : Int) (fu : Nat) (y0 : Int) (y1 : Int) (y2 : Int) (y3 : Int) : rdA_f n m (fu + 1) y0 y1 y2 y3 = (bif (decide (0 ≤ y2 ∧ y2 ≤ m ∧ 0 ≤ y3 ∧ y3 ≤ 63000 ∧ (y2 = 0 ∨ rT (y2 - 1) ≤ y3) ∧ 0 ≤ y0 ∧ y0 ≤ 63000 ∧ 0 ≤ y1 ∧ y1 ≤ 20 ∧ (y3 = 0 ∨ (0 ≤ nxV m y2 y3 ∧ nxV m y2 y3 ≤ 20 ∧ nxV m y2 y3 ≤ y3)))) then (bif (decide (y3 > (0 : Int))) then rdA_f n m fu (IntKind.i64.wrap (y0 + (1 : Int))) (if nxV m y2 y3 > y1 then nxV m y2 y3 else y1) (nxV m y2 y3) (IntKind.i64.wrap (y3 - nxV m y2 y3)) else some (0, ((y0), (y1), (y2), (y3)))) else none) := rfl
theorem rdA_f0 (n m : Int) (y0 : Int) (y1 : Int) (y2 : Int) (y3 : Int) : rdA_f n m 0 y0 y1 y2 y3 = none := rfl
theorem rdA_loop (n m : Int) (h1 : 0 ≤ n ∧ n ≤ 63000) (h2 : 1 ≤ m ∧ m ≤ 20) : ∀ (fu : Nat) (y0 : Int) (y1 : Int) (y2 : Int) (y3 : Int) (kk : Nat) (zz : Int × Int × Int × Int), rdA_f n m fu y0 y1 y2 y3 = some (kk, zz) → VStep (rdA_hd n m).s.hs (rdA_S n m y0 y1 y2 y3 ).hs → RoundsC Try.prog [] 0 40 (rdA_hd n m).s.hs (rdA_hd n m).ro (rdA_hd n m).a (rdA_S n m y0 y1 y2 y3 ) (rdA_X kk) (rdA_E kk n m zz.1 zz.2.1 zz.2.2.1 zz.2.2.2 ) ∧ ((rdA_E kk n m zz.1 zz.2.1 zz.2.2.1 zz.2.2.2 )).hs.next = 40 := by
  intro fu
  induction fu with
  | zero =>
    intro y0 y1 y2 y3 kk zz hf hSz
    have hf := (rdA_f0 n m y0 y1 y2 y3 ).symm.trans hf
    simp at hf
  | succ fu ih =>
    intro y0 y1 y2 y3 kk zz hf hSz
    have hf := (rdA_fs n m fu y0 y1 y2 y3 ).symm.trans hf
    rcases bif_or hf with ⟨hi, hf⟩ | ⟨hi, hf⟩
    case inr => cases hf
    rcases bif_or hf with ⟨hq0, hf⟩ | ⟨hq0, hf⟩
    ·
      have hq1 := rdA_d0 n m h1 h2 y0 y1 y2 y3 hi hq0 
      have hb1 := rdA_p0 n m y0 y1 y2 y3 ; have hb2 := body_canon hb1; have hb3 := hb2 ⟨hq1, hq0, trivial⟩; obtain ⟨sz1, kz1, kz2, kz3⟩ := hb3; obtain ⟨gz1, gz2⟩ := ih (IntKind.i64.wrap (y0 + (1 : Int))) (if nxV m y2 y3 > y1 then nxV m y2 y3 else y1) (nxV m y2 y3) (IntKind.i64.wrap (y3 - nxV m y2 y3)) kk zz hf (rounds_step mix (T := tabB) tabB_ok (rdA_n n m h1 h2 ) (rdA_r n m h1 h2 ) (rdA_w n m h1 h2 ) kz1 hSz kz2 kz3); exact ⟨rounds_next mix (T := tabB) tabB_ok (rdA_n n m h1 h2 ) (rdA_r n m h1 h2 ) (rdA_w n m h1 h2 ) kz1 hSz kz2 kz3 (fun _ => gz1), gz2⟩
    ·
      injection hf with hf; injection hf with e1 e2; subst e1; subst e2; have hb1 := rdA_p1 n m y0 y1 y2 y3 ; have hb2 := body_canon hb1; have hb3 := hb2 ⟨hq0, trivial⟩; obtain ⟨sz1, kz1, kz2, kz3⟩ := hb3; exact ⟨rounds_end mix (T := tabB) tabB_ok (rdA_n n m h1 h2 ) (rdA_r n m h1 h2 ) (rdA_w n m h1 h2 ) kz1 (fun h => by cases h) hSz kz2 kz3, rdA_q1 n m y0 y1 y2 y3 ⟩
theorem rdA_ok (n m : Int) (h1 : 0 ≤ n ∧ n ≤ 63000) (h2 : 1 ≤ m ∧ m ≤ 20) (fu kk : Nat) (zz : Int × Int × Int × Int) (hf : rdA_f n m fu ((0 : Int)) ((0 : Int)) ((0 : Int)) (n) = some (kk, zz)) : ∀ B : Bd, B.L = [] → LoopOk Try.prog B (rdA_hd n m).ro (rdA_hd n m).a (rdA_hd n m).s (rdA_X kk) (rdA_E kk n m zz.1 zz.2.1 zz.2.2.1 zz.2.2.2 ) := by
  have hSz := begin_step (rdA_n n m h1 h2 ) (rdA_r n m h1 h2 ) (rdA_w n m h1 h2 ) (rdA_e0 n m h1 h2 ) (rdA_e1 n m h1 h2 )
  obtain ⟨gz1, gz2⟩ := rdA_loop n m h1 h2 fu ((0 : Int)) ((0 : Int)) ((0 : Int)) (n) kk zz hf hSz
  exact rounds_ok (rdA_n n m h1 h2 ) (Nat.le_of_ble_eq_true (by kernel_rfl)) gz2 (rounds_begin (rdA_n n m h1 h2 ) (rdA_r n m h1 h2 ) (rdA_w n m h1 h2 ) (rdA_e0 n m h1 h2 ) (rdA_e1 n m h1 h2 ) (fun _ => gz1))

noncomputable def rdK_c0 (n m : Int) (rdA_z0 : Int) (rdA_z1 : Int) (rdA_z2 : Int) (rdA_z3 : Int)  : Int := (rdA_z0)
noncomputable def rdK_c1 (n m : Int) (rdA_z0 : Int) (rdA_z1 : Int) (rdA_z2 : Int) (rdA_z3 : Int)  : Int := (rdA_z1)
theorem rdK_p0 (n m : Int) (rdA_z0 : Int) (rdA_z1 : Int) (rdA_z2 : Int) (rdA_z3 : Int)  (h1 : 0 ≤ n ∧ n ≤ 63000) (h2 : 1 ≤ m ∧ m ≤ 20) (rdA_l : ∀ B : Bd, B.L = [] → LoopOk Try.prog B (rdA_hd n m).ro (rdA_hd n m).a (rdA_hd n m).s (rdA_X 0) (rdA_E 0 n m rdA_z0 rdA_z1 rdA_z2 rdA_z3 )) : Known Try.prog [] 45 [.int .i64 n, .int .i64 m] (.tuple #[(.int .i64 (rdA_z0)), (.int .i64 (rdA_z1))]) :=
  open_res mix (GOk.add tabB_ok rdA_l) (T := (GTab.add tabB 4 (rdA_hd n m).ro (rdA_hd n m).a (rdA_hd n m).s (rdA_X 0) (rdA_E 0 n m rdA_z0 rdA_z1 rdA_z2 rdA_z3 ) (by kernel_rfl))) (fuel := 3000) (ans := [(0, .loop (rdA_X 0) (rdA_E 0 n m rdA_z0 rdA_z1 rdA_z2 rdA_z3 )), ]) (log := [LoopRes Try.prog ([] : Vars).length (GTab.add tabB 4 (rdA_hd n m).ro (rdA_hd n m).a (rdA_hd n m).s (rdA_X 0) (rdA_E 0 n m rdA_z0 rdA_z1 rdA_z2 rdA_z3 ) (by kernel_rfl)) (rdA_hd n m).ro (rdA_hd n m).a (rdA_hd n m).s (rdA_X 0) (rdA_E 0 n m rdA_z0 rdA_z1 rdA_z2 rdA_z3 )]) (by kernel_rfl) ⟨(loop_known2 add_eq), trivial⟩ (by kernel_rfl)
set_option maxHeartbeats 8000000 in
theorem rdK (n m : Int) (rdA_z0 : Int) (rdA_z1 : Int) (rdA_z2 : Int) (rdA_z3 : Int)  (h1 : 0 ≤ n ∧ n ≤ 63000) (h2 : 1 ≤ m ∧ m ≤ 20) (rdA_l : ∀ B : Bd, B.L = [] → LoopOk Try.prog B (rdA_hd n m).ro (rdA_hd n m).a (rdA_hd n m).s (rdA_X 0) (rdA_E 0 n m rdA_z0 rdA_z1 rdA_z2 rdA_z3 )) : Known Try.prog [] 45 [.int .i64 n, .int .i64 m] (.tuple #[(.int .i64 (rdK_c0 n m rdA_z0 rdA_z1 rdA_z2 rdA_z3)), (.int .i64 (rdK_c1 n m rdA_z0 rdA_z1 rdA_z2 rdA_z3))]) := by
  have e0 : rdK_c0 n m rdA_z0 rdA_z1 rdA_z2 rdA_z3 = (rdA_z0) := rfl; rw [e0]; have e1 : rdK_c1 n m rdA_z0 rdA_z1 rdA_z2 rdA_z3 = (rdA_z1) := rfl; rw [e1]; exact rdK_p0 n m rdA_z0 rdA_z1 rdA_z2 rdA_z3 h1 h2 rdA_l

end Go.Proofs.Ytcjlidciniiofaa
