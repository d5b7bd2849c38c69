/- Layer 8: the speeds. -/
import Derived.Test.YtjemhamkakgnhaaRM
import Derived.ProofKit
import Derived.IntWalk
namespace Go.Proofs.Ytjemhamkakgnhaa
open Go Go.RowKit
set_option linter.unusedVariables false
set_option linter.unusedSimpArgs false
set_option linter.unnecessarySimpa false
set_option maxHeartbeats 8000000
set_option maxRecDepth 100000
theorem qRd (n m : Int) (hg : (decide (0 ≤ n ∧ n ≤ 63000 ∧ 1 ≤ m ∧ m ≤ 20)) = true) : Known Try.prog [] 37 [.int .i64 n, .int .i64 m] (.tuple #[.int .i64 (rD m n), .int .i64 (pkV n m)]) := by have h := of_decide_eq_true hg; exact ride_is ⟨h.1, h.2.1⟩ h.2.2
noncomputable def qRd_k : List Value → Option (Bool × Value)
  | [.int .i64 n, .int .i64 m] => some (decide (0 ≤ n ∧ n ≤ 63000 ∧ 1 ≤ m ∧ m ≤ 20), .tuple #[.int .i64 (rD m n), .int .i64 (pkV n m)])
  | _ => none
theorem qRd_ok : ∀ args v, qRd_k args = some (true, v) → Known Try.prog [] 37 args v := by
  intro args v h
  unfold qRd_k at h
  split at h
  · injection h with h; injection h with hg h; subst h; exact qRd _ _ hg
  · cases h
noncomputable def tabS : GTab := (GTab.fn 37 qRd_k tabB)
theorem tabS_ok : GOk Try.prog [] tabS := (GOk.fn qRd_ok tabB_ok)
noncomputable def spA_hd (n m : Int) : Hd := headD Try.prog [] tabB 3000 19 [.val (.int .i64 n), .val (.int .i64 m)] [(0, .b 0), (3, .b 0), (6, .b 0), (9, .b 0), (11, .b 1), (12, .b 0), (13, .stop)]
noncomputable def spA_R (n m : Int) (rc0 : Array Value) (rn0 : Nat) (y1 : Int) (y2 : Int) : St := (((entryR Try.prog [(.cell 0 0, 3)] 5 45 [7, 15, 11, 19, 9, 17, 13, 8, 16, 12, 20, 10, 18, 14] 31 31 (spA_hd n m).s).rows [(5, rc0, 3)]).updF [(4, .int .i64 y1), (5, .int .i64 y2)] [(0, 0, .complex .f64 5 rn0)])
noncomputable def spA_S (n m : Int) (y0 : List Int) (y1 : Int) (y2 : Int) : St := (((entryR Try.prog [(.cell 0 0, 3)] 5 45 [7, 15, 11, 19, 9, 17, 13, 8, 16, 12, 20, 10, 18, 14] 31 31 (spA_hd n m).s).rows [(5, (rowA gI y0.reverse), 3)]).updF [(4, .int .i64 y1), (5, .int .i64 y2)] [(0, 0, .complex .f64 5 y0.length)])
theorem spA_n (n m : Int) (h1 : 0 ≤ n ∧ n ≤ 63000) (h2 : 1 ≤ m ∧ m ≤ 20) (h3 : rD m n ≤ 1000) : 5 = (spA_hd n m).s.hs.next := by kernel_rfl
theorem spA_r (n m : Int) (h1 : 0 ≤ n ∧ n ≤ 63000) (h2 : 1 ≤ m ∧ m ≤ 20) (h3 : rD m n ≤ 1000) : (spA_hd n m).s.hs.rd < bitOf 5 := by
  have e : (spA_hd n m).s.hs.rd = 2 := by kernel_rfl
  rw [e]; exact blt_iff.1 (by kernel_rfl)
theorem spA_w (n m : Int) (h1 : 0 ≤ n ∧ n ≤ 63000) (h2 : 1 ≤ m ∧ m ≤ 20) (h3 : rD m n ≤ 1000) : (spA_hd n m).s.hs.wr < bitOf 5 := by
  have e : (spA_hd n m).s.hs.wr = 31 := by kernel_rfl
  rw [e]; exact blt_iff.1 (by kernel_rfl)
theorem spA_e0 (n m : Int) (h1 : 0 ≤ n ∧ n ≤ 63000) (h2 : 1 ≤ m ∧ m ≤ 20) (h3 : rD m n ≤ 1000) : beginS Try.prog [(.cell 0 0, 3)] 5 45 (sameB 5 1) [7, 15, 11, 19, 9, 17, 13, 8, 16, 12, 20, 10, 18, 14] 6 31 31 (spA_hd n m).s = some (spA_S n m [] ((0 : Int)) (n)) := by
  have h : beginS Try.prog [(.cell 0 0, 3)] 5 45 (sameB 5 1) [7, 15, 11, 19, 9, 17, 13, 8, 16, 12, 20, 10, 18, 14] 6 31 31 (spA_hd n m).s = some (spA_R n m #[] 0 ((0 : Int)) (n)) := by kernel_rfl
  refine h.trans (congrArg some ?_)
  show spA_R n m #[] 0 ((0 : Int)) (n) = spA_R n m (rowA gI ([] : List Int).reverse) ([] : List Int).length ((0 : Int)) (n)
  simp only [List.reverse_nil, rowA_nil, List.length_nil, List.reverse_reverse, List.length_reverse]
theorem spA_e1 (n m : Int) (h1 : 0 ≤ n ∧ n ≤ 63000) (h2 : 1 ≤ m ∧ m ≤ 20) (h3 : rD m n ≤ 1000) : beginOk Try.prog [(.cell 0 0, 3)] 5 45 (sameB 5 1) 6 (spA_hd n m).s = true := by kernel_rfl
def spA_X : Nat → VX
  | 0 => .exit 0
  | _ => .normal
noncomputable def spA_E (kE : Nat) (n m : Int) (y0 : List Int) (y1 : Int) (y2 : Int) : St := match kE with
  | 0 => bodySt (bodyR Try.prog ([] : Vars).length tabB 3000 (spA_hd n m) (spA_S n m y0 y1 y2 ) [(0, .b 0)] 5 45 [(5, 5)] [7, 15, 11, 19, 9, 17, 13, 8, 16, 12, 20, 10, 18, 14] 45 31 31)
  | _ => (spA_hd n m).s
noncomputable def spA_b1 (n m : Int) (y0 : List Int) (y1 : Int) (y2 : Int) : Bool := decide ((0 : Int) ≤ y1 ∧ y1 ≤ m ∧ (1 : Int) ≤ m ∧ m ≤ (20 : Int) ∧ (1 : Int) ≤ y2 ∧ y2 ≤ (63000 : Int) ∧ (y1 = (0 : Int) ∨ rT (y1 - (1 : Int)) ≤ y2))
theorem spA_p0 (n m : Int) (y0 : List Int) (y1 : Int) (y2 : Int) : bodyR Try.prog ([] : Vars).length tabB 3000 (spA_hd n m) (spA_S n m y0 y1 y2 ) [(0, .b 1), (1, .b 1), (2, .b 1), (3, .yes), (4, .arr (rowA (gI) ((nxV m y1 y2 :: y0).reverse)))] 5 45 [(7, 5)] [7, 15, 11, 19, 9, 17, 13, 8, 16, 12, 20, 10, 18, 14] 6 31 31 = some (.normal, (spA_S n m (nxV m y1 y2 :: y0) (nxV m y1 y2) (IntKind.i64.wrap (y2 - nxV m y1 y2))), [((rowA (gI) (y0.reverse)).toList ++ ([Value.int IntKind.i64 (nxV m y1 y2)])).toArray = rowA (gI) ((nxV m y1 y2 :: y0).reverse), ((rowA gI y0.reverse).size.beq (y0.length.mul Try.prog.types[(3 : Nat)].size)) = true, (decide ((y0.length + (1 : Nat)) * (8 : Nat) < (1000000000 : Nat))) = true, (spA_b1 n m y0 y1 y2 ) = true, (decide (y2 > (0 : Int))) = true]) := by kernel_rfl
theorem spA_p1 (n m : Int) (y0 : List Int) (y1 : Int) (y2 : Int) : bodyR Try.prog ([] : Vars).length tabB 3000 (spA_hd n m) (spA_S n m y0 y1 y2 ) [(0, .b 0)] 5 45 [(5, 5)] [7, 15, 11, 19, 9, 17, 13, 8, 16, 12, 20, 10, 18, 14] 45 31 31 = some (.exit 0, bodySt (bodyR Try.prog ([] : Vars).length tabB 3000 (spA_hd n m) (spA_S n m y0 y1 y2 ) [(0, .b 0)] 5 45 [(5, 5)] [7, 15, 11, 19, 9, 17, 13, 8, 16, 12, 20, 10, 18, 14] 45 31 31), [(decide (y2 > (0 : Int))) = false]) := by kernel_rfl
theorem spA_q1 (n m : Int) (y0 : List Int) (y1 : Int) (y2 : Int) : (bodySt (bodyR Try.prog ([] : Vars).length tabB 3000 (spA_hd n m) (spA_S n m y0 y1 y2 ) [(0, .b 0)] 5 45 [(5, 5)] [7, 15, 11, 19, 9, 17, 13, 8, 16, 12, 20, 10, 18, 14] 45 31 31)).hs.next = 45 := by kernel_rfl
theorem spA_d0 (n m : Int) (h1 : 0 ≤ n ∧ n ≤ 63000) (h2 : 1 ≤ m ∧ m ≤ 20) (h3 : rD m n ≤ 1000) (y0 : List Int) (y1 : Int) (y2 : Int) (hi : (decide (0 ≤ y1 ∧ y1 ≤ m ∧ 0 ≤ y2 ∧ y2 ≤ 63000 ∧ (y1 = 0 ∨ rT (y1 - 1) ≤ y2) ∧ y0.length ≤ 63000 ∧ (y0.length : Int) + y2 ≤ n ∧ (y2 = 0 ∨ (0 ≤ nxV m y1 y2 ∧ nxV m y1 y2 ≤ 20 ∧ nxV m y1 y2 ≤ y2)))) = true) (hq0 : (decide (y2 > (0 : Int))) = true) : (spA_b1 n m y0 y1 y2 ) = true := by
  rcases Bool.eq_false_or_eq_true (spA_b1 n m y0 y1 y2 ) with h | h
  · exact h
  · exfalso; (try simp only [spA_b1] at *); (first | (simp_all only [Bool.and_eq_true, Bool.not_eq_true', Bool.false_eq_true, Bool.true_eq_false, reduceCtorEq]; done) | (simp only [sx, sy, eq_self, ne_eq, IntKind.wrap_i64, wrapU64, Int.reduceLT] at * <;> first | contradiction | omega) | (simp_all; done))
theorem spA_d1 (n m : Int) (h1 : 0 ≤ n ∧ n ≤ 63000) (h2 : 1 ≤ m ∧ m ≤ 20) (h3 : rD m n ≤ 1000) (y0 : List Int) (y1 : Int) (y2 : Int) (hi : (decide (0 ≤ y1 ∧ y1 ≤ m ∧ 0 ≤ y2 ∧ y2 ≤ 63000 ∧ (y1 = 0 ∨ rT (y1 - 1) ≤ y2) ∧ y0.length ≤ 63000 ∧ (y0.length : Int) + y2 ≤ n ∧ (y2 = 0 ∨ (0 ≤ nxV m y1 y2 ∧ nxV m y1 y2 ≤ 20 ∧ nxV m y1 y2 ≤ y2)))) = true) (hq0 : (decide (y2 > (0 : Int))) = true) (hq1 : (spA_b1 n m y0 y1 y2 ) = true) : (decide ((y0.length + (1 : Nat)) * (8 : Nat) < (1000000000 : Nat))) = true := by
  rcases Bool.eq_false_or_eq_true (decide ((y0.length + (1 : Nat)) * (8 : Nat) < (1000000000 : Nat))) with h | h
  · exact h
  · exfalso; (try simp only [spA_b1] at *); (first | (simp_all only [Bool.and_eq_true, Bool.not_eq_true', Bool.false_eq_true, Bool.true_eq_false, reduceCtorEq]; done) | (simp only [sx, sy, eq_self, ne_eq, IntKind.wrap_i64, wrapU64, Int.reduceLT] at * <;> first | contradiction | omega) | (simp_all; done))
noncomputable def spA_f (n m : Int) : Nat → List Int → Int → Int → Option (Nat × (List Int × Int × Int))
  | 0, _, _, _ => none
  | fu + 1, y0, y1, y2 => (bif (decide (0 ≤ y1 ∧ y1 ≤ m ∧ 0 ≤ y2 ∧ y2 ≤ 63000 ∧ (y1 = 0 ∨ rT (y1 - 1) ≤ y2) ∧ y0.length ≤ 63000 ∧ (y0.length : Int) + y2 ≤ n ∧ (y2 = 0 ∨ (0 ≤ nxV m y1 y2 ∧ nxV m y1 y2 ≤ 20 ∧ nxV m y1 y2 ≤ y2)))) then (bif (decide (y2 > (0 : Int))) then spA_f n m fu (nxV m y1 y2 :: y0) (nxV m y1 y2) (IntKind.i64.wrap (y2 - nxV m y1 y2)) else some (0, (y0, y1, y2))) else none)
theorem spA_fs (n m : Int) (fu : Nat) (y0 : List Int) (y1 : Int) (y2 : Int) : spA_f n m (fu + 1) y0 y1 y2 = (bif (decide (0 ≤ y1 ∧ y1 ≤ m ∧ 0 ≤ y2 ∧ y2 ≤ 63000 ∧ (y1 = 0 ∨ rT (y1 - 1) ≤ y2) ∧ y0.length ≤ 63000 ∧ (y0.length : Int) + y2 ≤ n ∧ (y2 = 0 ∨ (0 ≤ nxV m y1 y2 ∧ nxV m y1 y2 ≤ 20 ∧ nxV m y1 y2 ≤ y2)))) then (bif (decide (y2 > (0 : Int))) then spA_f n m fu (nxV m y1 y2 :: y0) (nxV m y1 y2) (IntKind.i64.wrap (y2 - nxV m y1 y2)) else some (0, (y0, y1, y2))) else none) := rfl
theorem spA_f0 (n m : Int) (y0 : List Int) (y1 : Int) (y2 : Int) : spA_f n m 0 y0 y1 y2 = none := rfl
theorem spA_loop (n m : Int) (h1 : 0 ≤ n ∧ n ≤ 63000) (h2 : 1 ≤ m ∧ m ≤ 20) (h3 : rD m n ≤ 1000) : ∀ (fu : Nat) (y0 : List Int) (y1 : Int) (y2 : Int) (kk : Nat) (zz : List Int × Int × Int), spA_f n m fu y0 y1 y2 = some (kk, zz) → VStep (spA_hd n m).s.hs (spA_S n m y0 y1 y2 ).hs → RoundsC Try.prog [] 5 45 (spA_hd n m).s.hs (spA_hd n m).ro (spA_hd n m).a (spA_S n m y0 y1 y2 ) (spA_X kk) (spA_E kk n m zz.1 zz.2.1 zz.2.2 ) ∧ ((spA_E kk n m zz.1 zz.2.1 zz.2.2 )).hs.next = 45 := by
  intro fu
  induction fu with
  | zero =>
    intro y0 y1 y2 kk zz hf hSz
    have hf := (spA_f0 n m y0 y1 y2 ).symm.trans hf
    simp at hf
  | succ fu ih =>
    intro y0 y1 y2 kk zz hf hSz
    have hf := (spA_fs n m fu y0 y1 y2 ).symm.trans hf
    rcases bif_or hf with ⟨hi, hf⟩ | ⟨hi, hf⟩
    case inr => cases hf
    rcases bif_or hf with ⟨hq0, hf⟩ | ⟨hq0, hf⟩
    ·
      have hq1 := spA_d0 n m h1  h2  h3  y0 y1 y2 hi hq0 
      have hq2 := spA_d1 n m h1  h2  h3  y0 y1 y2 hi hq0 hq1 
      have hb1 := spA_p0 n m y0 y1 y2 ; have hb2 := body_canonR hb1; have hb3 := hb2 ⟨(row_snoc (g := (gI)) rfl), (fact_size (g := (gI)) (k := 1) (fun _ => rfl) (by simp)), hq2, hq1, hq0, trivial⟩; obtain ⟨sz1, kz1, kz2, kz3⟩ := hb3; obtain ⟨gz1, gz2⟩ := ih (nxV m y1 y2 :: y0) (nxV m y1 y2) (IntKind.i64.wrap (y2 - nxV m y1 y2)) kk zz hf (rounds_step mix (T := tabB) tabB_ok (spA_n n m h1  h2  h3  ) (spA_r n m h1  h2  h3  ) (spA_w n m h1  h2  h3  ) kz1 hSz kz2 kz3); exact ⟨rounds_next mix (T := tabB) tabB_ok (spA_n n m h1  h2  h3  ) (spA_r n m h1  h2  h3  ) (spA_w n m h1  h2  h3  ) kz1 hSz kz2 kz3 (fun _ => gz1), gz2⟩
    ·
      injection hf with hf; injection hf with e1 e2; subst e1; subst e2; have hb1 := spA_p1 n m y0 y1 y2 ; have hb2 := body_canonR hb1; have hb3 := hb2 ⟨hq0, trivial⟩; obtain ⟨sz1, kz1, kz2, kz3⟩ := hb3; exact ⟨rounds_end mix (T := tabB) tabB_ok (spA_n n m h1  h2  h3  ) (spA_r n m h1  h2  h3  ) (spA_w n m h1  h2  h3  ) kz1 (fun h => by cases h) hSz kz2 kz3, spA_q1 n m y0 y1 y2 ⟩
theorem spA_ok (n m : Int) (h1 : 0 ≤ n ∧ n ≤ 63000) (h2 : 1 ≤ m ∧ m ≤ 20) (h3 : rD m n ≤ 1000) (fu kk : Nat) (zz : List Int × Int × Int) (hf : spA_f n m fu [] ((0 : Int)) (n) = some (kk, zz)) : ∀ B : Bd, B.L = [] → LoopOk Try.prog B (spA_hd n m).ro (spA_hd n m).a (spA_hd n m).s (spA_X kk) (spA_E kk n m zz.1 zz.2.1 zz.2.2 ) := by
  obtain ⟨sb1, sb2, sb3, sb4⟩ := begin_open (spA_e0 n m h1  h2  h3  ) (spA_e1 n m h1  h2  h3  )
  have hSz := begin_step2 (spA_n n m h1  h2  h3  ) (spA_r n m h1  h2  h3  ) (spA_w n m h1  h2  h3  ) sb2 sb3 sb4
  obtain ⟨gz1, gz2⟩ := spA_loop n m h1  h2  h3  fu [] ((0 : Int)) (n) kk zz hf hSz
  exact rounds_ok (spA_n n m h1  h2  h3  ) (Nat.le_of_ble_eq_true (by kernel_rfl)) gz2 (rounds_begin2 (spA_n n m h1  h2  h3  ) (spA_r n m h1  h2  h3  ) (spA_w n m h1  h2  h3  ) sb2 sb3 sb4 (fun _ => gz1))

noncomputable def spK_c0 (n m : Int) (spA_z0 : List Int) (spA_z1 : Int) (spA_z2 : Int)  : List Int := (spA_z0.reverse)
theorem spK_p0 (n m : Int) (spA_z0 : List Int) (spA_z1 : Int) (spA_z2 : Int)  (h1 : 0 ≤ n ∧ n ≤ 63000) (h2 : 1 ≤ m ∧ m ≤ 20) (h3 : rD m n ≤ 1000) (spA_k0 : (decide (n < (0 : Int))) = false) (spA_k3 : (decide (n > (63000 : Int))) = false) (spA_k6 : (decide (m < (1 : Int))) = false) (spA_k9 : (decide (m > (20 : Int))) = false) (spA_k11 : (decide ((0 : Int) ≤ n ∧ n ≤ (63000 : Int) ∧ (1 : Int) ≤ m ∧ m ≤ (20 : Int))) = true) (spA_k12 : (decide (rD m n > (1000 : Int))) = false) (spA_l : ∀ B : Bd, B.L = [] → LoopOk Try.prog B (spA_hd n m).ro (spA_hd n m).a (spA_hd n m).s (spA_X 0) (spA_E 0 n m spA_z0 spA_z1 spA_z2 )) : KnownR Try.prog [] 19 [.val (.int .i64 n), .val (.int .i64 m)] (.tuple #[(.complex .f64 0 ((spA_z0.reverse)).length), (.int .i64 ((0 : Int)))]) [(rowA gI ((spA_z0.reverse)), 3)] :=
  knownR_eq (v := Value.tuple { toList := [Value.complex FloatKind.f64 (nat_lit 0) spA_z0.length, Value.int IntKind.i64 (0 : Int)] }) (bs := [(rowA gI spA_z0.reverse, nat_lit 3)]) (open_resD mix (GOk.add tabB_ok spA_l) (T := (GTab.add tabB 3 (spA_hd n m).ro (spA_hd n m).a (spA_hd n m).s (spA_X 0) (spA_E 0 n m spA_z0 spA_z1 spA_z2 ) (by kernel_rfl))) (fuel := 3000) (es := [3]) (ans := [(0, .b 0), (3, .b 0), (6, .b 0), (9, .b 0), (11, .b 1), (12, .b 0), (13, .loop (spA_X 0) (spA_E 0 n m spA_z0 spA_z1 spA_z2 )), ]) (log := [LoopRes Try.prog ([] : Vars).length (GTab.add tabB 3 (spA_hd n m).ro (spA_hd n m).a (spA_hd n m).s (spA_X 0) (spA_E 0 n m spA_z0 spA_z1 spA_z2 ) (by kernel_rfl)) (spA_hd n m).ro (spA_hd n m).a (spA_hd n m).s (spA_X 0) (spA_E 0 n m spA_z0 spA_z1 spA_z2 ), (decide (rD m n > (1000 : Int))) = false, (decide ((0 : Int) ≤ n ∧ n ≤ (63000 : Int) ∧ (1 : Int) ≤ m ∧ m ≤ (20 : Int))) = true, (decide (m > (20 : Int))) = false, (decide (m < (1 : Int))) = false, (decide (n > (63000 : Int))) = false, (decide (n < (0 : Int))) = false]) (by kernel_rfl) ⟨(loop_known2 add_eq), spA_k12, spA_k11, spA_k9, spA_k6, spA_k3, spA_k0, trivial⟩ (by kernel_rfl)) (by first | rfl | (simp; done) | (simp_all; done)) (by first | rfl | (simp [rowA_nil]; done) | (simp_all [rowA_nil]; done))
set_option maxHeartbeats 8000000 in
theorem spK (n m : Int) (spA_z0 : List Int) (spA_z1 : Int) (spA_z2 : Int)  (h1 : 0 ≤ n ∧ n ≤ 63000) (h2 : 1 ≤ m ∧ m ≤ 20) (h3 : rD m n ≤ 1000) (spA_k0 : (decide (n < (0 : Int))) = false) (spA_k3 : (decide (n > (63000 : Int))) = false) (spA_k6 : (decide (m < (1 : Int))) = false) (spA_k9 : (decide (m > (20 : Int))) = false) (spA_k11 : (decide ((0 : Int) ≤ n ∧ n ≤ (63000 : Int) ∧ (1 : Int) ≤ m ∧ m ≤ (20 : Int))) = true) (spA_k12 : (decide (rD m n > (1000 : Int))) = false) (spA_l : ∀ B : Bd, B.L = [] → LoopOk Try.prog B (spA_hd n m).ro (spA_hd n m).a (spA_hd n m).s (spA_X 0) (spA_E 0 n m spA_z0 spA_z1 spA_z2 )) : KnownR Try.prog [] 19 [.val (.int .i64 n), .val (.int .i64 m)] (.tuple #[(.complex .f64 0 ((spK_c0 n m spA_z0 spA_z1 spA_z2)).length), (.int .i64 ((0 : Int)))]) [(rowA gI ((spK_c0 n m spA_z0 spA_z1 spA_z2)), 3)] := by
  have e0 : spK_c0 n m spA_z0 spA_z1 spA_z2 = (spA_z0.reverse) := rfl; rw [e0]; exact spK_p0 n m spA_z0 spA_z1 spA_z2 h1 h2 h3 spA_k0 spA_k3 spA_k6 spA_k9 spA_k11 spA_k12 spA_l

theorem spE_p0 (n m : Int) (h1 : ¬ (0 ≤ n ∧ n ≤ 63000 ∧ 1 ≤ m ∧ m ≤ 20)) (hq0 : (decide (n < (0 : Int))) = true) : KnownR Try.prog [] 19 [.val (.int .i64 n), .val (.int .i64 m)] (.tuple #[(.complex .f64 0 ((([] : List Int))).length), (.int .i64 ((2 : Int)))]) [(rowA gI ((([] : List Int))), 3)] :=
  knownR_eq (v := Value.tuple { toList := [Value.complex FloatKind.f64 (nat_lit 0) (nat_lit 0), Value.int IntKind.i64 (2 : Int)] }) (bs := [({ toList := [] }, nat_lit 3)]) (open_resD mix tabB_ok (T := tabB) (fuel := 3000) (es := [3]) (ans := [(0, .b 1)]) (log := [(decide (n < (0 : Int))) = true]) (by kernel_rfl) ⟨hq0, trivial⟩ (by kernel_rfl)) (by first | rfl | (simp; done) | (simp_all; done)) (by first | rfl | (simp [rowA_nil]; done) | (simp_all [rowA_nil]; done))
theorem spE_p1 (n m : Int) (h1 : ¬ (0 ≤ n ∧ n ≤ 63000 ∧ 1 ≤ m ∧ m ≤ 20)) (hq0 : (decide (n < (0 : Int))) = false) (hq1 : (decide (n > (63000 : Int))) = true) : KnownR Try.prog [] 19 [.val (.int .i64 n), .val (.int .i64 m)] (.tuple #[(.complex .f64 0 ((([] : List Int))).length), (.int .i64 ((2 : Int)))]) [(rowA gI ((([] : List Int))), 3)] :=
  knownR_eq (v := Value.tuple { toList := [Value.complex FloatKind.f64 (nat_lit 0) (nat_lit 0), Value.int IntKind.i64 (2 : Int)] }) (bs := [({ toList := [] }, nat_lit 3)]) (open_resD mix tabB_ok (T := tabB) (fuel := 3000) (es := [3]) (ans := [(0, .b 0), (3, .b 1)]) (log := [(decide (n > (63000 : Int))) = true, (decide (n < (0 : Int))) = false]) (by kernel_rfl) ⟨hq1, hq0, trivial⟩ (by kernel_rfl)) (by first | rfl | (simp; done) | (simp_all; done)) (by first | rfl | (simp [rowA_nil]; done) | (simp_all [rowA_nil]; done))
theorem spE_p2 (n m : Int) (h1 : ¬ (0 ≤ n ∧ n ≤ 63000 ∧ 1 ≤ m ∧ m ≤ 20)) (hq0 : (decide (n < (0 : Int))) = false) (hq1 : (decide (n > (63000 : Int))) = false) (hq2 : (decide (m < (1 : Int))) = true) : KnownR Try.prog [] 19 [.val (.int .i64 n), .val (.int .i64 m)] (.tuple #[(.complex .f64 0 ((([] : List Int))).length), (.int .i64 ((2 : Int)))]) [(rowA gI ((([] : List Int))), 3)] :=
  knownR_eq (v := Value.tuple { toList := [Value.complex FloatKind.f64 (nat_lit 0) (nat_lit 0), Value.int IntKind.i64 (2 : Int)] }) (bs := [({ toList := [] }, nat_lit 3)]) (open_resD mix tabB_ok (T := tabB) (fuel := 3000) (es := [3]) (ans := [(0, .b 0), (3, .b 0), (6, .b 1)]) (log := [(decide (m < (1 : Int))) = true, (decide (n > (63000 : Int))) = false, (decide (n < (0 : Int))) = false]) (by kernel_rfl) ⟨hq2, hq1, hq0, trivial⟩ (by kernel_rfl)) (by first | rfl | (simp; done) | (simp_all; done)) (by first | rfl | (simp [rowA_nil]; done) | (simp_all [rowA_nil]; done))
theorem spE_p3 (n m : Int) (h1 : ¬ (0 ≤ n ∧ n ≤ 63000 ∧ 1 ≤ m ∧ m ≤ 20)) (hq0 : (decide (n < (0 : Int))) = false) (hq1 : (decide (n > (63000 : Int))) = false) (hq2 : (decide (m < (1 : Int))) = false) (hq3 : (decide (m > (20 : Int))) = true) : KnownR Try.prog [] 19 [.val (.int .i64 n), .val (.int .i64 m)] (.tuple #[(.complex .f64 0 ((([] : List Int))).length), (.int .i64 ((2 : Int)))]) [(rowA gI ((([] : List Int))), 3)] :=
  knownR_eq (v := Value.tuple { toList := [Value.complex FloatKind.f64 (nat_lit 0) (nat_lit 0), Value.int IntKind.i64 (2 : Int)] }) (bs := [({ toList := [] }, nat_lit 3)]) (open_resD mix tabB_ok (T := tabB) (fuel := 3000) (es := [3]) (ans := [(0, .b 0), (3, .b 0), (6, .b 0), (9, .b 1)]) (log := [(decide (m > (20 : Int))) = true, (decide (m < (1 : Int))) = false, (decide (n > (63000 : Int))) = false, (decide (n < (0 : Int))) = false]) (by kernel_rfl) ⟨hq3, hq2, hq1, hq0, trivial⟩ (by kernel_rfl)) (by first | rfl | (simp; done) | (simp_all; done)) (by first | rfl | (simp [rowA_nil]; done) | (simp_all [rowA_nil]; done))
set_option maxHeartbeats 8000000 in
theorem spE (n m : Int) (h1 : ¬ (0 ≤ n ∧ n ≤ 63000 ∧ 1 ≤ m ∧ m ≤ 20)) : KnownR Try.prog [] 19 [.val (.int .i64 n), .val (.int .i64 m)] (.tuple #[(.complex .f64 0 ((([] : List Int))).length), (.int .i64 ((2 : Int)))]) [(rowA gI ((([] : List Int))), 3)] := by
  rcases Bool.eq_false_or_eq_true (decide (n < (0 : Int))) with hq0 | hq0
  ·
    exact spE_p0 n m h1 hq0
  ·
    rcases Bool.eq_false_or_eq_true (decide (n > (63000 : Int))) with hq1 | hq1
    ·
      exact spE_p1 n m h1 hq0 hq1
    ·
      rcases Bool.eq_false_or_eq_true (decide (m < (1 : Int))) with hq2 | hq2
      ·
        exact spE_p2 n m h1 hq0 hq1 hq2
      ·
        have hq3 : (decide (m > (20 : Int))) = true := by
          rcases Bool.eq_false_or_eq_true (decide (m > (20 : Int))) with h | h
          · exact h
          · exfalso; (first | (simp_all only [Bool.and_eq_true, Bool.not_eq_true', Bool.false_eq_true, Bool.true_eq_false, reduceCtorEq]; done) | (simp only [sx, sy, eq_self, ne_eq, IntKind.wrap_i64, wrapU64, Int.reduceLT] at * <;> first | contradiction | omega) | (simp_all; done))
        exact spE_p3 n m h1 hq0 hq1 hq2 hq3

noncomputable def spG_b4 (n m : Int) : Bool := decide ((0 : Int) ≤ n ∧ n ≤ (63000 : Int) ∧ (1 : Int) ≤ m ∧ m ≤ (20 : Int))
theorem spG_p0 (n m : Int) (h1 : 0 ≤ n ∧ n ≤ 63000) (h2 : 1 ≤ m ∧ m ≤ 20) (h3 : 1000 < rD m n) (hq0 : (decide (n < (0 : Int))) = false) (hq1 : (decide (n > (63000 : Int))) = false) (hq2 : (decide (m < (1 : Int))) = false) (hq3 : (decide (m > (20 : Int))) = false) (hq4 : (spG_b4 n m) = true) (hq5 : (decide (rD m n > (1000 : Int))) = true) : KnownR Try.prog [] 19 [.val (.int .i64 n), .val (.int .i64 m)] (.tuple #[(.complex .f64 0 ((([] : List Int))).length), (.int .i64 ((4 : Int)))]) [(rowA gI ((([] : List Int))), 3)] :=
  knownR_eq (v := Value.tuple { toList := [Value.complex FloatKind.f64 (nat_lit 0) (nat_lit 0), Value.int IntKind.i64 (4 : Int)] }) (bs := [({ toList := [] }, nat_lit 3)]) (open_resD mix tabB_ok (T := tabB) (fuel := 3000) (es := [3]) (ans := [(0, .b 0), (3, .b 0), (6, .b 0), (9, .b 0), (11, .b 1), (12, .b 1)]) (log := [(decide (rD m n > (1000 : Int))) = true, (spG_b4 n m) = true, (decide (m > (20 : Int))) = false, (decide (m < (1 : Int))) = false, (decide (n > (63000 : Int))) = false, (decide (n < (0 : Int))) = false]) (by kernel_rfl) ⟨hq5, hq4, hq3, hq2, hq1, hq0, trivial⟩ (by kernel_rfl)) (by first | rfl | (simp; done) | (simp_all; done)) (by first | rfl | (simp [rowA_nil]; done) | (simp_all [rowA_nil]; done))
set_option maxHeartbeats 8000000 in
theorem spG (n m : Int) (h1 : 0 ≤ n ∧ n ≤ 63000) (h2 : 1 ≤ m ∧ m ≤ 20) (h3 : 1000 < rD m n) : KnownR Try.prog [] 19 [.val (.int .i64 n), .val (.int .i64 m)] (.tuple #[(.complex .f64 0 ((([] : List Int))).length), (.int .i64 ((4 : Int)))]) [(rowA gI ((([] : List Int))), 3)] := by
  have hq0 : (decide (n < (0 : Int))) = false := by
    rcases Bool.eq_false_or_eq_true (decide (n < (0 : Int))) with h | h
    · exfalso; (try simp only [spG_b4] at *); (first | (simp_all only [Bool.and_eq_true, Bool.not_eq_true', Bool.false_eq_true, Bool.true_eq_false, reduceCtorEq]; done) | (simp only [sx, sy, eq_self, ne_eq, IntKind.wrap_i64, wrapU64, Int.reduceLT] at * <;> first | contradiction | omega) | (simp_all; done))
    · exact h
  have hq1 : (decide (n > (63000 : Int))) = false := by
    rcases Bool.eq_false_or_eq_true (decide (n > (63000 : Int))) with h | h
    · exfalso; (try simp only [spG_b4] at *); (first | (simp_all only [Bool.and_eq_true, Bool.not_eq_true', Bool.false_eq_true, Bool.true_eq_false, reduceCtorEq]; done) | (simp only [sx, sy, eq_self, ne_eq, IntKind.wrap_i64, wrapU64, Int.reduceLT] at * <;> first | contradiction | omega) | (simp_all; done))
    · exact h
  have hq2 : (decide (m < (1 : Int))) = false := by
    rcases Bool.eq_false_or_eq_true (decide (m < (1 : Int))) with h | h
    · exfalso; (try simp only [spG_b4] at *); (first | (simp_all only [Bool.and_eq_true, Bool.not_eq_true', Bool.false_eq_true, Bool.true_eq_false, reduceCtorEq]; done) | (simp only [sx, sy, eq_self, ne_eq, IntKind.wrap_i64, wrapU64, Int.reduceLT] at * <;> first | contradiction | omega) | (simp_all; done))
    · exact h
  have hq3 : (decide (m > (20 : Int))) = false := by
    rcases Bool.eq_false_or_eq_true (decide (m > (20 : Int))) with h | h
    · exfalso; (try simp only [spG_b4] at *); (first | (simp_all only [Bool.and_eq_true, Bool.not_eq_true', Bool.false_eq_true, Bool.true_eq_false, reduceCtorEq]; done) | (simp only [sx, sy, eq_self, ne_eq, IntKind.wrap_i64, wrapU64, Int.reduceLT] at * <;> first | contradiction | omega) | (simp_all; done))
    · exact h
  have hq4 : (spG_b4 n m) = true := by
    rcases Bool.eq_false_or_eq_true (spG_b4 n m) with h | h
    · exact h
    · exfalso; (try simp only [spG_b4] at *); (first | (simp_all only [Bool.and_eq_true, Bool.not_eq_true', Bool.false_eq_true, Bool.true_eq_false, reduceCtorEq]; done) | (simp only [sx, sy, eq_self, ne_eq, IntKind.wrap_i64, wrapU64, Int.reduceLT] at * <;> first | contradiction | omega) | (simp_all; done))
  have hq5 : (decide (rD m n > (1000 : Int))) = true := by
    rcases Bool.eq_false_or_eq_true (decide (rD m n > (1000 : Int))) with h | h
    · exact h
    · exfalso; (try simp only [spG_b4] at *); (first | (simp_all only [Bool.and_eq_true, Bool.not_eq_true', Bool.false_eq_true, Bool.true_eq_false, reduceCtorEq]; done) | (simp only [sx, sy, eq_self, ne_eq, IntKind.wrap_i64, wrapU64, Int.reduceLT] at * <;> first | contradiction | omega) | (simp_all; done))
  exact spG_p0 n m h1 h2 h3 hq0 hq1 hq2 hq3 hq4 hq5

noncomputable def rpA_hd (n m : Int) : Hd := headD Try.prog [] tabS 3000 20 [.val (.int .i64 n), .val (.int .i64 m)] [(0, .b 0), (3, .b 0), (6, .b 0), (9, .b 0), (11, .b 1), (15, .b 0), (17, .stop)]
noncomputable def rpA_R (n m : Int) (rc0 : Array Value) (rn0 : Nat) (y1 : Int) (y2 : Int) : St := (((entryR Try.prog [(.slot 8, 3)] 0 40 [31, 39, 35, 27, 33, 37, 29, 32, 36, 28, 34, 38, 30] 0 0 (rpA_hd n m).s).rows [(0, rc0, 3)]).updF [(8, .complex .f64 0 rn0), (9, .int .i64 y1), (10, .int .i64 y2)] [])
noncomputable def rpA_S (n m : Int) (y0 : List Int) (y1 : Int) (y2 : Int) : St := (((entryR Try.prog [(.slot 8, 3)] 0 40 [31, 39, 35, 27, 33, 37, 29, 32, 36, 28, 34, 38, 30] 0 0 (rpA_hd n m).s).rows [(0, (rowA gI y0.reverse), 3)]).updF [(8, .complex .f64 0 y0.length), (9, .int .i64 y1), (10, .int .i64 y2)] [])
theorem rpA_n (n m : Int) (h1 : 0 ≤ n ∧ n ≤ 63000) (h2 : 1 ≤ m ∧ m ≤ 20) (h3 : rD m n ≤ 1000) : 0 = (rpA_hd n m).s.hs.next := by kernel_rfl
theorem rpA_r (n m : Int) (h1 : 0 ≤ n ∧ n ≤ 63000) (h2 : 1 ≤ m ∧ m ≤ 20) (h3 : rD m n ≤ 1000) : (rpA_hd n m).s.hs.rd < bitOf 0 := by
  have e : (rpA_hd n m).s.hs.rd = 0 := by kernel_rfl
  rw [e]; exact blt_iff.1 (by kernel_rfl)
theorem rpA_w (n m : Int) (h1 : 0 ≤ n ∧ n ≤ 63000) (h2 : 1 ≤ m ∧ m ≤ 20) (h3 : rD m n ≤ 1000) : (rpA_hd n m).s.hs.wr < bitOf 0 := by
  have e : (rpA_hd n m).s.hs.wr = 0 := by kernel_rfl
  rw [e]; exact blt_iff.1 (by kernel_rfl)
theorem rpA_e0 (n m : Int) (h1 : 0 ≤ n ∧ n ≤ 63000) (h2 : 1 ≤ m ∧ m ≤ 20) (h3 : rD m n ≤ 1000) : beginS Try.prog [(.slot 8, 3)] 0 40 (sameB 0 1) [31, 39, 35, 27, 33, 37, 29, 32, 36, 28, 34, 38, 30] 1 0 0 (rpA_hd n m).s = some (rpA_S n m [] ((0 : Int)) (n)) := by
  have h : beginS Try.prog [(.slot 8, 3)] 0 40 (sameB 0 1) [31, 39, 35, 27, 33, 37, 29, 32, 36, 28, 34, 38, 30] 1 0 0 (rpA_hd n m).s = some (rpA_R n m #[] 0 ((0 : Int)) (n)) := by kernel_rfl
  refine h.trans (congrArg some ?_)
  show rpA_R n m #[] 0 ((0 : Int)) (n) = rpA_R n m (rowA gI ([] : List Int).reverse) ([] : List Int).length ((0 : Int)) (n)
  simp only [List.reverse_nil, rowA_nil, List.length_nil, List.reverse_reverse, List.length_reverse]
theorem rpA_e1 (n m : Int) (h1 : 0 ≤ n ∧ n ≤ 63000) (h2 : 1 ≤ m ∧ m ≤ 20) (h3 : rD m n ≤ 1000) : beginOk Try.prog [(.slot 8, 3)] 0 40 (sameB 0 1) 1 (rpA_hd n m).s = true := by kernel_rfl
def rpA_X : Nat → VX
  | 0 => .exit 0
  | _ => .normal
noncomputable def rpA_E (kE : Nat) (n m : Int) (y0 : List Int) (y1 : Int) (y2 : Int) : St := match kE with
  | 0 => bodySt (bodyR Try.prog ([] : Vars).length tabS 3000 (rpA_hd n m) (rpA_S n m y0 y1 y2 ) [(0, .b 0)] 0 40 [(0, 0)] [31, 39, 35, 27, 33, 37, 29, 32, 36, 28, 34, 38, 30] 40 0 0)
  | _ => (rpA_hd n m).s
noncomputable def rpA_b1 (n m : Int) (y0 : List Int) (y1 : Int) (y2 : Int) : Bool := decide ((0 : Int) ≤ y1 ∧ y1 ≤ m ∧ (1 : Int) ≤ m ∧ m ≤ (20 : Int) ∧ (1 : Int) ≤ y2 ∧ y2 ≤ (63000 : Int) ∧ (y1 = (0 : Int) ∨ rT (y1 - (1 : Int)) ≤ y2))
theorem rpA_p0 (n m : Int) (y0 : List Int) (y1 : Int) (y2 : Int) : bodyR Try.prog ([] : Vars).length tabS 3000 (rpA_hd n m) (rpA_S n m y0 y1 y2 ) [(0, .b 1), (1, .b 1), (2, .b 1), (3, .yes), (4, .arr (rowA (gI) ((nxV m y1 y2 :: y0).reverse)))] 0 40 [(2, 0)] [31, 39, 35, 27, 33, 37, 29, 32, 36, 28, 34, 38, 30] 1 0 0 = some (.normal, (rpA_S n m (nxV m y1 y2 :: y0) (nxV m y1 y2) (IntKind.i64.wrap (y2 - nxV m y1 y2))), [((rowA (gI) (y0.reverse)).toList ++ ([Value.int IntKind.i64 (nxV m y1 y2)])).toArray = rowA (gI) ((nxV m y1 y2 :: y0).reverse), ((rowA gI y0.reverse).size.beq (y0.length.mul Try.prog.types[(3 : Nat)].size)) = true, (decide ((y0.length + (1 : Nat)) * (8 : Nat) < (1000000000 : Nat))) = true, (rpA_b1 n m y0 y1 y2 ) = true, (decide (y2 > (0 : Int))) = true]) := by kernel_rfl
theorem rpA_p1 (n m : Int) (y0 : List Int) (y1 : Int) (y2 : Int) : bodyR Try.prog ([] : Vars).length tabS 3000 (rpA_hd n m) (rpA_S n m y0 y1 y2 ) [(0, .b 0)] 0 40 [(0, 0)] [31, 39, 35, 27, 33, 37, 29, 32, 36, 28, 34, 38, 30] 40 0 0 = some (.exit 0, bodySt (bodyR Try.prog ([] : Vars).length tabS 3000 (rpA_hd n m) (rpA_S n m y0 y1 y2 ) [(0, .b 0)] 0 40 [(0, 0)] [31, 39, 35, 27, 33, 37, 29, 32, 36, 28, 34, 38, 30] 40 0 0), [(decide (y2 > (0 : Int))) = false]) := by kernel_rfl
theorem rpA_q1 (n m : Int) (y0 : List Int) (y1 : Int) (y2 : Int) : (bodySt (bodyR Try.prog ([] : Vars).length tabS 3000 (rpA_hd n m) (rpA_S n m y0 y1 y2 ) [(0, .b 0)] 0 40 [(0, 0)] [31, 39, 35, 27, 33, 37, 29, 32, 36, 28, 34, 38, 30] 40 0 0)).hs.next = 40 := by kernel_rfl
theorem rpA_d0 (n m : Int) (h1 : 0 ≤ n ∧ n ≤ 63000) (h2 : 1 ≤ m ∧ m ≤ 20) (h3 : rD m n ≤ 1000) (y0 : List Int) (y1 : Int) (y2 : Int) (hi : (decide (0 ≤ y1 ∧ y1 ≤ m ∧ 0 ≤ y2 ∧ y2 ≤ 63000 ∧ (y1 = 0 ∨ rT (y1 - 1) ≤ y2) ∧ y0.length ≤ 63000 ∧ (y0.length : Int) + y2 ≤ n ∧ (y2 = 0 ∨ (0 ≤ nxV m y1 y2 ∧ nxV m y1 y2 ≤ 20 ∧ nxV m y1 y2 ≤ y2)))) = true) (hq0 : (decide (y2 > (0 : Int))) = true) : (rpA_b1 n m y0 y1 y2 ) = true := by
  rcases Bool.eq_false_or_eq_true (rpA_b1 n m y0 y1 y2 ) with h | h
  · exact h
  · exfalso; (try simp only [rpA_b1] at *); (first | (simp_all only [Bool.and_eq_true, Bool.not_eq_true', Bool.false_eq_true, Bool.true_eq_false, reduceCtorEq]; done) | (simp only [sx, sy, eq_self, ne_eq, IntKind.wrap_i64, wrapU64, Int.reduceLT] at * <;> first | contradiction | omega) | (simp_all; done))
theorem rpA_d1 (n m : Int) (h1 : 0 ≤ n ∧ n ≤ 63000) (h2 : 1 ≤ m ∧ m ≤ 20) (h3 : rD m n ≤ 1000) (y0 : List Int) (y1 : Int) (y2 : Int) (hi : (decide (0 ≤ y1 ∧ y1 ≤ m ∧ 0 ≤ y2 ∧ y2 ≤ 63000 ∧ (y1 = 0 ∨ rT (y1 - 1) ≤ y2) ∧ y0.length ≤ 63000 ∧ (y0.length : Int) + y2 ≤ n ∧ (y2 = 0 ∨ (0 ≤ nxV m y1 y2 ∧ nxV m y1 y2 ≤ 20 ∧ nxV m y1 y2 ≤ y2)))) = true) (hq0 : (decide (y2 > (0 : Int))) = true) (hq1 : (rpA_b1 n m y0 y1 y2 ) = true) : (decide ((y0.length + (1 : Nat)) * (8 : Nat) < (1000000000 : Nat))) = true := by
  rcases Bool.eq_false_or_eq_true (decide ((y0.length + (1 : Nat)) * (8 : Nat) < (1000000000 : Nat))) with h | h
  · exact h
  · exfalso; (try simp only [rpA_b1] at *); (first | (simp_all only [Bool.and_eq_true, Bool.not_eq_true', Bool.false_eq_true, Bool.true_eq_false, reduceCtorEq]; done) | (simp only [sx, sy, eq_self, ne_eq, IntKind.wrap_i64, wrapU64, Int.reduceLT] at * <;> first | contradiction | omega) | (simp_all; done))
noncomputable def rpA_f (n m : Int) : Nat → List Int → Int → Int → Option (Nat × (List Int × Int × Int))
  | 0, _, _, _ => none
  | fu + 1, y0, y1, y2 => (bif (decide (0 ≤ y1 ∧ y1 ≤ m ∧ 0 ≤ y2 ∧ y2 ≤ 63000 ∧ (y1 = 0 ∨ rT (y1 - 1) ≤ y2) ∧ y0.length ≤ 63000 ∧ (y0.length : Int) + y2 ≤ n ∧ (y2 = 0 ∨ (0 ≤ nxV m y1 y2 ∧ nxV m y1 y2 ≤ 20 ∧ nxV m y1 y2 ≤ y2)))) then (bif (decide (y2 > (0 : Int))) then rpA_f n m fu (nxV m y1 y2 :: y0) (nxV m y1 y2) (IntKind.i64.wrap (y2 - nxV m y1 y2)) else some (0, (y0, y1, y2))) else none)
theorem rpA_fs (n m : Int) (fu : Nat) (y0 : List Int) (y1 : Int) (y2 : Int) : rpA_f n m (fu + 1) y0 y1 y2 = (bif (decide (0 ≤ y1 ∧ y1 ≤ m ∧ 0 ≤ y2 ∧ y2 ≤ 63000 ∧ (y1 = 0 ∨ rT (y1 - 1) ≤ y2) ∧ y0.length ≤ 63000 ∧ (y0.length : Int) + y2 ≤ n ∧ (y2 = 0 ∨ (0 ≤ nxV m y1 y2 ∧ nxV m y1 y2 ≤ 20 ∧ nxV m y1 y2 ≤ y2)))) then (bif (decide (y2 > (0 : Int))) then rpA_f n m fu (nxV m y1 y2 :: y0) (nxV m y1 y2) (IntKind.i64.wrap (y2 - nxV m y1 y2)) else some (0, (y0, y1, y2))) else none) := rfl
theorem rpA_f0 (n m : Int) (y0 : List Int) (y1 : Int) (y2 : Int) : rpA_f n m 0 y0 y1 y2 = none := rfl
theorem rpA_loop (n m : Int) (h1 : 0 ≤ n ∧ n ≤ 63000) (h2 : 1 ≤ m ∧ m ≤ 20) (h3 : rD m n ≤ 1000) : ∀ (fu : Nat) (y0 : List Int) (y1 : Int) (y2 : Int) (kk : Nat) (zz : List Int × Int × Int), rpA_f n m fu y0 y1 y2 = some (kk, zz) → VStep (rpA_hd n m).s.hs (rpA_S n m y0 y1 y2 ).hs → RoundsC Try.prog [] 0 40 (rpA_hd n m).s.hs (rpA_hd n m).ro (rpA_hd n m).a (rpA_S n m y0 y1 y2 ) (rpA_X kk) (rpA_E kk n m zz.1 zz.2.1 zz.2.2 ) ∧ ((rpA_E kk n m zz.1 zz.2.1 zz.2.2 )).hs.next = 40 := by
  intro fu
  induction fu with
  | zero =>
    intro y0 y1 y2 kk zz hf hSz
    have hf := (rpA_f0 n m y0 y1 y2 ).symm.trans hf
    simp at hf
  | succ fu ih =>
    intro y0 y1 y2 kk zz hf hSz
    have hf := (rpA_fs n m fu y0 y1 y2 ).symm.trans hf
    rcases bif_or hf with ⟨hi, hf⟩ | ⟨hi, hf⟩
    case inr => cases hf
    rcases bif_or hf with ⟨hq0, hf⟩ | ⟨hq0, hf⟩
    ·
      have hq1 := rpA_d0 n m h1  h2  h3  y0 y1 y2 hi hq0 
      have hq2 := rpA_d1 n m h1  h2  h3  y0 y1 y2 hi hq0 hq1 
      have hb1 := rpA_p0 n m y0 y1 y2 ; have hb2 := body_canonR hb1; have hb3 := hb2 ⟨(row_snoc (g := (gI)) rfl), (fact_size (g := (gI)) (k := 1) (fun _ => rfl) (by simp)), hq2, hq1, hq0, trivial⟩; obtain ⟨sz1, kz1, kz2, kz3⟩ := hb3; obtain ⟨gz1, gz2⟩ := ih (nxV m y1 y2 :: y0) (nxV m y1 y2) (IntKind.i64.wrap (y2 - nxV m y1 y2)) kk zz hf (rounds_step mix (T := tabS) tabS_ok (rpA_n n m h1  h2  h3  ) (rpA_r n m h1  h2  h3  ) (rpA_w n m h1  h2  h3  ) kz1 hSz kz2 kz3); exact ⟨rounds_next mix (T := tabS) tabS_ok (rpA_n n m h1  h2  h3  ) (rpA_r n m h1  h2  h3  ) (rpA_w n m h1  h2  h3  ) kz1 hSz kz2 kz3 (fun _ => gz1), gz2⟩
    ·
      injection hf with hf; injection hf with e1 e2; subst e1; subst e2; have hb1 := rpA_p1 n m y0 y1 y2 ; have hb2 := body_canonR hb1; have hb3 := hb2 ⟨hq0, trivial⟩; obtain ⟨sz1, kz1, kz2, kz3⟩ := hb3; exact ⟨rounds_end mix (T := tabS) tabS_ok (rpA_n n m h1  h2  h3  ) (rpA_r n m h1  h2  h3  ) (rpA_w n m h1  h2  h3  ) kz1 (fun h => by cases h) hSz kz2 kz3, rpA_q1 n m y0 y1 y2 ⟩
theorem rpA_ok (n m : Int) (h1 : 0 ≤ n ∧ n ≤ 63000) (h2 : 1 ≤ m ∧ m ≤ 20) (h3 : rD m n ≤ 1000) (fu kk : Nat) (zz : List Int × Int × Int) (hf : rpA_f n m fu [] ((0 : Int)) (n) = some (kk, zz)) : ∀ B : Bd, B.L = [] → LoopOk Try.prog B (rpA_hd n m).ro (rpA_hd n m).a (rpA_hd n m).s (rpA_X kk) (rpA_E kk n m zz.1 zz.2.1 zz.2.2 ) := by
  obtain ⟨sb1, sb2, sb3, sb4⟩ := begin_open (rpA_e0 n m h1  h2  h3  ) (rpA_e1 n m h1  h2  h3  )
  have hSz := begin_step2 (rpA_n n m h1  h2  h3  ) (rpA_r n m h1  h2  h3  ) (rpA_w n m h1  h2  h3  ) sb2 sb3 sb4
  obtain ⟨gz1, gz2⟩ := rpA_loop n m h1  h2  h3  fu [] ((0 : Int)) (n) kk zz hf hSz
  exact rounds_ok (rpA_n n m h1  h2  h3  ) (Nat.le_of_ble_eq_true (by kernel_rfl)) gz2 (rounds_begin2 (rpA_n n m h1  h2  h3  ) (rpA_r n m h1  h2  h3  ) (rpA_w n m h1  h2  h3  ) sb2 sb3 sb4 (fun _ => gz1))

noncomputable def rpK_c0 (n m : Int) (rpA_z0 : List Int) (rpA_z1 : Int) (rpA_z2 : Int)  : List Int := (rpA_z0.reverse)
theorem rpK_p0 (n m : Int) (rpA_z0 : List Int) (rpA_z1 : Int) (rpA_z2 : Int)  (h1 : 0 ≤ n ∧ n ≤ 63000) (h2 : 1 ≤ m ∧ m ≤ 20) (h3 : rD m n ≤ 1000) (rpA_k0 : (decide (n < (0 : Int))) = false) (rpA_k3 : (decide (n > (63000 : Int))) = false) (rpA_k6 : (decide (m < (1 : Int))) = false) (rpA_k9 : (decide (m > (20 : Int))) = false) (rpA_k11 : (decide ((0 : Int) ≤ n ∧ n ≤ (63000 : Int) ∧ (1 : Int) ≤ m ∧ m ≤ (20 : Int))) = true) (rpA_k15 : (decide (rD m n > (1000 : Int))) = false) (rpA_l : ∀ B : Bd, B.L = [] → LoopOk Try.prog B (rpA_hd n m).ro (rpA_hd n m).a (rpA_hd n m).s (rpA_X 0) (rpA_E 0 n m rpA_z0 rpA_z1 rpA_z2 )) : KnownR Try.prog [] 20 [.val (.int .i64 n), .val (.int .i64 m)] (.tuple #[(.complex .f64 0 ((rpA_z0.reverse)).length), (.int .i64 ((0 : Int)))]) [(rowA gI ((rpA_z0.reverse)), 3)] :=
  knownR_eq (v := Value.tuple { toList := [Value.complex FloatKind.f64 (nat_lit 0) rpA_z0.length, Value.int IntKind.i64 (0 : Int)] }) (bs := [(rowA gI rpA_z0.reverse, nat_lit 3)]) (open_resD mix (GOk.add tabS_ok rpA_l) (T := (GTab.add tabS 10 (rpA_hd n m).ro (rpA_hd n m).a (rpA_hd n m).s (rpA_X 0) (rpA_E 0 n m rpA_z0 rpA_z1 rpA_z2 ) (by kernel_rfl))) (fuel := 3000) (es := [3]) (ans := [(0, .b 0), (3, .b 0), (6, .b 0), (9, .b 0), (11, .b 1), (15, .b 0), (17, .loop (rpA_X 0) (rpA_E 0 n m rpA_z0 rpA_z1 rpA_z2 )), ]) (log := [LoopRes Try.prog ([] : Vars).length (GTab.add tabS 10 (rpA_hd n m).ro (rpA_hd n m).a (rpA_hd n m).s (rpA_X 0) (rpA_E 0 n m rpA_z0 rpA_z1 rpA_z2 ) (by kernel_rfl)) (rpA_hd n m).ro (rpA_hd n m).a (rpA_hd n m).s (rpA_X 0) (rpA_E 0 n m rpA_z0 rpA_z1 rpA_z2 ), (decide (rD m n > (1000 : Int))) = false, (decide ((0 : Int) ≤ n ∧ n ≤ (63000 : Int) ∧ (1 : Int) ≤ m ∧ m ≤ (20 : Int))) = true, (decide (m > (20 : Int))) = false, (decide (m < (1 : Int))) = false, (decide (n > (63000 : Int))) = false, (decide (n < (0 : Int))) = false]) (by kernel_rfl) ⟨(loop_known2 add_eq), rpA_k15, rpA_k11, rpA_k9, rpA_k6, rpA_k3, rpA_k0, trivial⟩ (by kernel_rfl)) (by first | rfl | (simp; done) | (simp_all; done)) (by first | rfl | (simp [rowA_nil]; done) | (simp_all [rowA_nil]; done))
set_option maxHeartbeats 8000000 in
theorem rpK (n m : Int) (rpA_z0 : List Int) (rpA_z1 : Int) (rpA_z2 : Int)  (h1 : 0 ≤ n ∧ n ≤ 63000) (h2 : 1 ≤ m ∧ m ≤ 20) (h3 : rD m n ≤ 1000) (rpA_k0 : (decide (n < (0 : Int))) = false) (rpA_k3 : (decide (n > (63000 : Int))) = false) (rpA_k6 : (decide (m < (1 : Int))) = false) (rpA_k9 : (decide (m > (20 : Int))) = false) (rpA_k11 : (decide ((0 : Int) ≤ n ∧ n ≤ (63000 : Int) ∧ (1 : Int) ≤ m ∧ m ≤ (20 : Int))) = true) (rpA_k15 : (decide (rD m n > (1000 : Int))) = false) (rpA_l : ∀ B : Bd, B.L = [] → LoopOk Try.prog B (rpA_hd n m).ro (rpA_hd n m).a (rpA_hd n m).s (rpA_X 0) (rpA_E 0 n m rpA_z0 rpA_z1 rpA_z2 )) : KnownR Try.prog [] 20 [.val (.int .i64 n), .val (.int .i64 m)] (.tuple #[(.complex .f64 0 ((rpK_c0 n m rpA_z0 rpA_z1 rpA_z2)).length), (.int .i64 ((0 : Int)))]) [(rowA gI ((rpK_c0 n m rpA_z0 rpA_z1 rpA_z2)), 3)] := by
  have e0 : rpK_c0 n m rpA_z0 rpA_z1 rpA_z2 = (rpA_z0.reverse) := rfl; rw [e0]; exact rpK_p0 n m rpA_z0 rpA_z1 rpA_z2 h1 h2 h3 rpA_k0 rpA_k3 rpA_k6 rpA_k9 rpA_k11 rpA_k15 rpA_l

theorem rpE_p0 (n m : Int) (h1 : ¬ (0 ≤ n ∧ n ≤ 63000 ∧ 1 ≤ m ∧ m ≤ 20)) (hq0 : (decide (n < (0 : Int))) = true) : KnownR Try.prog [] 20 [.val (.int .i64 n), .val (.int .i64 m)] (.tuple #[(.complex .f64 0 ((([] : List Int))).length), (.int .i64 ((2 : Int)))]) [(rowA gI ((([] : List Int))), 3)] :=
  knownR_eq (v := Value.tuple { toList := [Value.complex FloatKind.f64 (nat_lit 0) (nat_lit 0), Value.int IntKind.i64 (2 : Int)] }) (bs := [({ toList := [] }, nat_lit 3)]) (open_resD mix tabS_ok (T := tabS) (fuel := 3000) (es := [3]) (ans := [(0, .b 1)]) (log := [(decide (n < (0 : Int))) = true]) (by kernel_rfl) ⟨hq0, trivial⟩ (by kernel_rfl)) (by first | rfl | (simp; done) | (simp_all; done)) (by first | rfl | (simp [rowA_nil]; done) | (simp_all [rowA_nil]; done))
theorem rpE_p1 (n m : Int) (h1 : ¬ (0 ≤ n ∧ n ≤ 63000 ∧ 1 ≤ m ∧ m ≤ 20)) (hq0 : (decide (n < (0 : Int))) = false) (hq1 : (decide (n > (63000 : Int))) = true) : KnownR Try.prog [] 20 [.val (.int .i64 n), .val (.int .i64 m)] (.tuple #[(.complex .f64 0 ((([] : List Int))).length), (.int .i64 ((2 : Int)))]) [(rowA gI ((([] : List Int))), 3)] :=
  knownR_eq (v := Value.tuple { toList := [Value.complex FloatKind.f64 (nat_lit 0) (nat_lit 0), Value.int IntKind.i64 (2 : Int)] }) (bs := [({ toList := [] }, nat_lit 3)]) (open_resD mix tabS_ok (T := tabS) (fuel := 3000) (es := [3]) (ans := [(0, .b 0), (3, .b 1)]) (log := [(decide (n > (63000 : Int))) = true, (decide (n < (0 : Int))) = false]) (by kernel_rfl) ⟨hq1, hq0, trivial⟩ (by kernel_rfl)) (by first | rfl | (simp; done) | (simp_all; done)) (by first | rfl | (simp [rowA_nil]; done) | (simp_all [rowA_nil]; done))
theorem rpE_p2 (n m : Int) (h1 : ¬ (0 ≤ n ∧ n ≤ 63000 ∧ 1 ≤ m ∧ m ≤ 20)) (hq0 : (decide (n < (0 : Int))) = false) (hq1 : (decide (n > (63000 : Int))) = false) (hq2 : (decide (m < (1 : Int))) = true) : KnownR Try.prog [] 20 [.val (.int .i64 n), .val (.int .i64 m)] (.tuple #[(.complex .f64 0 ((([] : List Int))).length), (.int .i64 ((2 : Int)))]) [(rowA gI ((([] : List Int))), 3)] :=
  knownR_eq (v := Value.tuple { toList := [Value.complex FloatKind.f64 (nat_lit 0) (nat_lit 0), Value.int IntKind.i64 (2 : Int)] }) (bs := [({ toList := [] }, nat_lit 3)]) (open_resD mix tabS_ok (T := tabS) (fuel := 3000) (es := [3]) (ans := [(0, .b 0), (3, .b 0), (6, .b 1)]) (log := [(decide (m < (1 : Int))) = true, (decide (n > (63000 : Int))) = false, (decide (n < (0 : Int))) = false]) (by kernel_rfl) ⟨hq2, hq1, hq0, trivial⟩ (by kernel_rfl)) (by first | rfl | (simp; done) | (simp_all; done)) (by first | rfl | (simp [rowA_nil]; done) | (simp_all [rowA_nil]; done))
theorem rpE_p3 (n m : Int) (h1 : ¬ (0 ≤ n ∧ n ≤ 63000 ∧ 1 ≤ m ∧ m ≤ 20)) (hq0 : (decide (n < (0 : Int))) = false) (hq1 : (decide (n > (63000 : Int))) = false) (hq2 : (decide (m < (1 : Int))) = false) (hq3 : (decide (m > (20 : Int))) = true) : KnownR Try.prog [] 20 [.val (.int .i64 n), .val (.int .i64 m)] (.tuple #[(.complex .f64 0 ((([] : List Int))).length), (.int .i64 ((2 : Int)))]) [(rowA gI ((([] : List Int))), 3)] :=
  knownR_eq (v := Value.tuple { toList := [Value.complex FloatKind.f64 (nat_lit 0) (nat_lit 0), Value.int IntKind.i64 (2 : Int)] }) (bs := [({ toList := [] }, nat_lit 3)]) (open_resD mix tabS_ok (T := tabS) (fuel := 3000) (es := [3]) (ans := [(0, .b 0), (3, .b 0), (6, .b 0), (9, .b 1)]) (log := [(decide (m > (20 : Int))) = true, (decide (m < (1 : Int))) = false, (decide (n > (63000 : Int))) = false, (decide (n < (0 : Int))) = false]) (by kernel_rfl) ⟨hq3, hq2, hq1, hq0, trivial⟩ (by kernel_rfl)) (by first | rfl | (simp; done) | (simp_all; done)) (by first | rfl | (simp [rowA_nil]; done) | (simp_all [rowA_nil]; done))
set_option maxHeartbeats 8000000 in
theorem rpE (n m : Int) (h1 : ¬ (0 ≤ n ∧ n ≤ 63000 ∧ 1 ≤ m ∧ m ≤ 20)) : KnownR Try.prog [] 20 [.val (.int .i64 n), .val (.int .i64 m)] (.tuple #[(.complex .f64 0 ((([] : List Int))).length), (.int .i64 ((2 : Int)))]) [(rowA gI ((([] : List Int))), 3)] := by
  rcases Bool.eq_false_or_eq_true (decide (n < (0 : Int))) with hq0 | hq0
  ·
    exact rpE_p0 n m h1 hq0
  ·
    rcases Bool.eq_false_or_eq_true (decide (n > (63000 : Int))) with hq1 | hq1
    ·
      exact rpE_p1 n m h1 hq0 hq1
    ·
      rcases Bool.eq_false_or_eq_true (decide (m < (1 : Int))) with hq2 | hq2
      ·
        exact rpE_p2 n m h1 hq0 hq1 hq2
      ·
        have hq3 : (decide (m > (20 : Int))) = true := by
          rcases Bool.eq_false_or_eq_true (decide (m > (20 : Int))) with h | h
          · exact h
          · exfalso; (first | (simp_all only [Bool.and_eq_true, Bool.not_eq_true', Bool.false_eq_true, Bool.true_eq_false, reduceCtorEq]; done) | (simp only [sx, sy, eq_self, ne_eq, IntKind.wrap_i64, wrapU64, Int.reduceLT] at * <;> first | contradiction | omega) | (simp_all; done))
        exact rpE_p3 n m h1 hq0 hq1 hq2 hq3

noncomputable def rpG_b4 (n m : Int) : Bool := decide ((0 : Int) ≤ n ∧ n ≤ (63000 : Int) ∧ (1 : Int) ≤ m ∧ m ≤ (20 : Int))
theorem rpG_p0 (n m : Int) (h1 : 0 ≤ n ∧ n ≤ 63000) (h2 : 1 ≤ m ∧ m ≤ 20) (h3 : 1000 < rD m n) (hq0 : (decide (n < (0 : Int))) = false) (hq1 : (decide (n > (63000 : Int))) = false) (hq2 : (decide (m < (1 : Int))) = false) (hq3 : (decide (m > (20 : Int))) = false) (hq4 : (rpG_b4 n m) = true) (hq5 : (decide (rD m n > (1000 : Int))) = true) : KnownR Try.prog [] 20 [.val (.int .i64 n), .val (.int .i64 m)] (.tuple #[(.complex .f64 0 ((([] : List Int))).length), (.int .i64 ((4 : Int)))]) [(rowA gI ((([] : List Int))), 3)] :=
  knownR_eq (v := Value.tuple { toList := [Value.complex FloatKind.f64 (nat_lit 0) (nat_lit 0), Value.int IntKind.i64 (4 : Int)] }) (bs := [({ toList := [] }, nat_lit 3)]) (open_resD mix tabS_ok (T := tabS) (fuel := 3000) (es := [3]) (ans := [(0, .b 0), (3, .b 0), (6, .b 0), (9, .b 0), (11, .b 1), (15, .b 1)]) (log := [(decide (rD m n > (1000 : Int))) = true, (rpG_b4 n m) = true, (decide (m > (20 : Int))) = false, (decide (m < (1 : Int))) = false, (decide (n > (63000 : Int))) = false, (decide (n < (0 : Int))) = false]) (by kernel_rfl) ⟨hq5, hq4, hq3, hq2, hq1, hq0, trivial⟩ (by kernel_rfl)) (by first | rfl | (simp; done) | (simp_all; done)) (by first | rfl | (simp [rowA_nil]; done) | (simp_all [rowA_nil]; done))
set_option maxHeartbeats 8000000 in
theorem rpG (n m : Int) (h1 : 0 ≤ n ∧ n ≤ 63000) (h2 : 1 ≤ m ∧ m ≤ 20) (h3 : 1000 < rD m n) : KnownR Try.prog [] 20 [.val (.int .i64 n), .val (.int .i64 m)] (.tuple #[(.complex .f64 0 ((([] : List Int))).length), (.int .i64 ((4 : Int)))]) [(rowA gI ((([] : List Int))), 3)] := by
  have hq0 : (decide (n < (0 : Int))) = false := by
    rcases Bool.eq_false_or_eq_true (decide (n < (0 : Int))) with h | h
    · exfalso; (try simp only [rpG_b4] at *); (first | (simp_all only [Bool.and_eq_true, Bool.not_eq_true', Bool.false_eq_true, Bool.true_eq_false, reduceCtorEq]; done) | (simp only [sx, sy, eq_self, ne_eq, IntKind.wrap_i64, wrapU64, Int.reduceLT] at * <;> first | contradiction | omega) | (simp_all; done))
    · exact h
  have hq1 : (decide (n > (63000 : Int))) = false := by
    rcases Bool.eq_false_or_eq_true (decide (n > (63000 : Int))) with h | h
    · exfalso; (try simp only [rpG_b4] at *); (first | (simp_all only [Bool.and_eq_true, Bool.not_eq_true', Bool.false_eq_true, Bool.true_eq_false, reduceCtorEq]; done) | (simp only [sx, sy, eq_self, ne_eq, IntKind.wrap_i64, wrapU64, Int.reduceLT] at * <;> first | contradiction | omega) | (simp_all; done))
    · exact h
  have hq2 : (decide (m < (1 : Int))) = false := by
    rcases Bool.eq_false_or_eq_true (decide (m < (1 : Int))) with h | h
    · exfalso; (try simp only [rpG_b4] at *); (first | (simp_all only [Bool.and_eq_true, Bool.not_eq_true', Bool.false_eq_true, Bool.true_eq_false, reduceCtorEq]; done) | (simp only [sx, sy, eq_self, ne_eq, IntKind.wrap_i64, wrapU64, Int.reduceLT] at * <;> first | contradiction | omega) | (simp_all; done))
    · exact h
  have hq3 : (decide (m > (20 : Int))) = false := by
    rcases Bool.eq_false_or_eq_true (decide (m > (20 : Int))) with h | h
    · exfalso; (try simp only [rpG_b4] at *); (first | (simp_all only [Bool.and_eq_true, Bool.not_eq_true', Bool.false_eq_true, Bool.true_eq_false, reduceCtorEq]; done) | (simp only [sx, sy, eq_self, ne_eq, IntKind.wrap_i64, wrapU64, Int.reduceLT] at * <;> first | contradiction | omega) | (simp_all; done))
    · exact h
  have hq4 : (rpG_b4 n m) = true := by
    rcases Bool.eq_false_or_eq_true (rpG_b4 n m) with h | h
    · exact h
    · exfalso; (try simp only [rpG_b4] at *); (first | (simp_all only [Bool.and_eq_true, Bool.not_eq_true', Bool.false_eq_true, Bool.true_eq_false, reduceCtorEq]; done) | (simp only [sx, sy, eq_self, ne_eq, IntKind.wrap_i64, wrapU64, Int.reduceLT] at * <;> first | contradiction | omega) | (simp_all; done))
  have hq5 : (decide (rD m n > (1000 : Int))) = true := by
    rcases Bool.eq_false_or_eq_true (decide (rD m n > (1000 : Int))) with h | h
    · exact h
    · exfalso; (try simp only [rpG_b4] at *); (first | (simp_all only [Bool.and_eq_true, Bool.not_eq_true', Bool.false_eq_true, Bool.true_eq_false, reduceCtorEq]; done) | (simp only [sx, sy, eq_self, ne_eq, IntKind.wrap_i64, wrapU64, Int.reduceLT] at * <;> first | contradiction | omega) | (simp_all; done))
  exact rpG_p0 n m h1 h2 h3 hq0 hq1 hq2 hq3 hq4 hq5

noncomputable def rPk_b4 (n m : Int) : Bool := decide ((0 : Int) ≤ n ∧ n ≤ (63000 : Int) ∧ (1 : Int) ≤ m ∧ m ≤ (20 : Int))
noncomputable def rPk_c0 (n m : Int) : Int := (pkV n m)
theorem rPk_p0 (n m : Int) (h1 : 0 ≤ n ∧ n ≤ 63000) (h2 : 1 ≤ m ∧ m ≤ 20) (hq0 : (decide (n < (0 : Int))) = false) (hq1 : (decide (n > (63000 : Int))) = false) (hq2 : (decide (m < (1 : Int))) = false) (hq3 : (decide (m > (20 : Int))) = false) (hq4 : (rPk_b4 n m) = true) : Known Try.prog [] 18 [.int .i64 n, .int .i64 m] (.tuple #[(.int .i64 (pkV n m)), (.int .i64 ((0 : Int)))]) :=
  open_res mix tabS_ok (T := tabS) (fuel := 3000) (ans := [(0, .b 0), (3, .b 0), (6, .b 0), (9, .b 0), (11, .b 1)]) (log := [(rPk_b4 n m) = true, (decide (m > (20 : Int))) = false, (decide (m < (1 : Int))) = false, (decide (n > (63000 : Int))) = false, (decide (n < (0 : Int))) = false]) (by kernel_rfl) ⟨hq4, hq3, hq2, hq1, hq0, trivial⟩ (by kernel_rfl)
set_option maxHeartbeats 8000000 in
theorem rPk (n m : Int) (h1 : 0 ≤ n ∧ n ≤ 63000) (h2 : 1 ≤ m ∧ m ≤ 20) : Known Try.prog [] 18 [.int .i64 n, .int .i64 m] (.tuple #[(.int .i64 (rPk_c0 n m)), (.int .i64 ((0 : Int)))]) := by
  have hq0 : (decide (n < (0 : Int))) = false := by
    rcases Bool.eq_false_or_eq_true (decide (n < (0 : Int))) with h | h
    · exfalso; (try simp only [rPk_b4] at *); (first | (simp_all only [Bool.and_eq_true, Bool.not_eq_true', Bool.false_eq_true, Bool.true_eq_false, reduceCtorEq]; done) | (simp only [sx, sy, eq_self, ne_eq, IntKind.wrap_i64, wrapU64, Int.reduceLT] at * <;> first | contradiction | omega) | (simp_all; done))
    · exact h
  have hq1 : (decide (n > (63000 : Int))) = false := by
    rcases Bool.eq_false_or_eq_true (decide (n > (63000 : Int))) with h | h
    · exfalso; (try simp only [rPk_b4] at *); (first | (simp_all only [Bool.and_eq_true, Bool.not_eq_true', Bool.false_eq_true, Bool.true_eq_false, reduceCtorEq]; done) | (simp only [sx, sy, eq_self, ne_eq, IntKind.wrap_i64, wrapU64, Int.reduceLT] at * <;> first | contradiction | omega) | (simp_all; done))
    · exact h
  have hq2 : (decide (m < (1 : Int))) = false := by
    rcases Bool.eq_false_or_eq_true (decide (m < (1 : Int))) with h | h
    · exfalso; (try simp only [rPk_b4] at *); (first | (simp_all only [Bool.and_eq_true, Bool.not_eq_true', Bool.false_eq_true, Bool.true_eq_false, reduceCtorEq]; done) | (simp only [sx, sy, eq_self, ne_eq, IntKind.wrap_i64, wrapU64, Int.reduceLT] at * <;> first | contradiction | omega) | (simp_all; done))
    · exact h
  have hq3 : (decide (m > (20 : Int))) = false := by
    rcases Bool.eq_false_or_eq_true (decide (m > (20 : Int))) with h | h
    · exfalso; (try simp only [rPk_b4] at *); (first | (simp_all only [Bool.and_eq_true, Bool.not_eq_true', Bool.false_eq_true, Bool.true_eq_false, reduceCtorEq]; done) | (simp only [sx, sy, eq_self, ne_eq, IntKind.wrap_i64, wrapU64, Int.reduceLT] at * <;> first | contradiction | omega) | (simp_all; done))
    · exact h
  have hq4 : (rPk_b4 n m) = true := by
    rcases Bool.eq_false_or_eq_true (rPk_b4 n m) with h | h
    · exact h
    · exfalso; (try simp only [rPk_b4] at *); (first | (simp_all only [Bool.and_eq_true, Bool.not_eq_true', Bool.false_eq_true, Bool.true_eq_false, reduceCtorEq]; done) | (simp only [sx, sy, eq_self, ne_eq, IntKind.wrap_i64, wrapU64, Int.reduceLT] at * <;> first | contradiction | omega) | (simp_all; done))
  have e0 : rPk_c0 n m = (pkV n m) := rfl; rw [e0]; exact rPk_p0 n m h1 h2 hq0 hq1 hq2 hq3 hq4

theorem rPkE_p0 (n m : Int) (h1 : ¬ (0 ≤ n ∧ n ≤ 63000 ∧ 1 ≤ m ∧ m ≤ 20)) (hq0 : (decide (n < (0 : Int))) = true) : Known Try.prog [] 18 [.int .i64 n, .int .i64 m] (.tuple #[(.int .i64 ((0 : Int))), (.int .i64 ((2 : Int)))]) :=
  open_res mix tabS_ok (T := tabS) (fuel := 3000) (ans := [(0, .b 1)]) (log := [(decide (n < (0 : Int))) = true]) (by kernel_rfl) ⟨hq0, trivial⟩ (by kernel_rfl)
theorem rPkE_p1 (n m : Int) (h1 : ¬ (0 ≤ n ∧ n ≤ 63000 ∧ 1 ≤ m ∧ m ≤ 20)) (hq0 : (decide (n < (0 : Int))) = false) (hq1 : (decide (n > (63000 : Int))) = true) : Known Try.prog [] 18 [.int .i64 n, .int .i64 m] (.tuple #[(.int .i64 ((0 : Int))), (.int .i64 ((2 : Int)))]) :=
  open_res mix tabS_ok (T := tabS) (fuel := 3000) (ans := [(0, .b 0), (3, .b 1)]) (log := [(decide (n > (63000 : Int))) = true, (decide (n < (0 : Int))) = false]) (by kernel_rfl) ⟨hq1, hq0, trivial⟩ (by kernel_rfl)
theorem rPkE_p2 (n m : Int) (h1 : ¬ (0 ≤ n ∧ n ≤ 63000 ∧ 1 ≤ m ∧ m ≤ 20)) (hq0 : (decide (n < (0 : Int))) = false) (hq1 : (decide (n > (63000 : Int))) = false) (hq2 : (decide (m < (1 : Int))) = true) : Known Try.prog [] 18 [.int .i64 n, .int .i64 m] (.tuple #[(.int .i64 ((0 : Int))), (.int .i64 ((2 : Int)))]) :=
  open_res mix tabS_ok (T := tabS) (fuel := 3000) (ans := [(0, .b 0), (3, .b 0), (6, .b 1)]) (log := [(decide (m < (1 : Int))) = true, (decide (n > (63000 : Int))) = false, (decide (n < (0 : Int))) = false]) (by kernel_rfl) ⟨hq2, hq1, hq0, trivial⟩ (by kernel_rfl)
theorem rPkE_p3 (n m : Int) (h1 : ¬ (0 ≤ n ∧ n ≤ 63000 ∧ 1 ≤ m ∧ m ≤ 20)) (hq0 : (decide (n < (0 : Int))) = false) (hq1 : (decide (n > (63000 : Int))) = false) (hq2 : (decide (m < (1 : Int))) = false) (hq3 : (decide (m > (20 : Int))) = true) : Known Try.prog [] 18 [.int .i64 n, .int .i64 m] (.tuple #[(.int .i64 ((0 : Int))), (.int .i64 ((2 : Int)))]) :=
  open_res mix tabS_ok (T := tabS) (fuel := 3000) (ans := [(0, .b 0), (3, .b 0), (6, .b 0), (9, .b 1)]) (log := [(decide (m > (20 : Int))) = true, (decide (m < (1 : Int))) = false, (decide (n > (63000 : Int))) = false, (decide (n < (0 : Int))) = false]) (by kernel_rfl) ⟨hq3, hq2, hq1, hq0, trivial⟩ (by kernel_rfl)
set_option maxHeartbeats 8000000 in
theorem rPkE (n m : Int) (h1 : ¬ (0 ≤ n ∧ n ≤ 63000 ∧ 1 ≤ m ∧ m ≤ 20)) : Known Try.prog [] 18 [.int .i64 n, .int .i64 m] (.tuple #[(.int .i64 ((0 : Int))), (.int .i64 ((2 : Int)))]) := by
  rcases Bool.eq_false_or_eq_true (decide (n < (0 : Int))) with hq0 | hq0
  ·
    exact rPkE_p0 n m h1 hq0
  ·
    rcases Bool.eq_false_or_eq_true (decide (n > (63000 : Int))) with hq1 | hq1
    ·
      exact rPkE_p1 n m h1 hq0 hq1
    ·
      rcases Bool.eq_false_or_eq_true (decide (m < (1 : Int))) with hq2 | hq2
      ·
        exact rPkE_p2 n m h1 hq0 hq1 hq2
      ·
        have hq3 : (decide (m > (20 : Int))) = true := by
          rcases Bool.eq_false_or_eq_true (decide (m > (20 : Int))) with h | h
          · exact h
          · exfalso; (first | (simp_all only [Bool.and_eq_true, Bool.not_eq_true', Bool.false_eq_true, Bool.true_eq_false, reduceCtorEq]; done) | (simp only [sx, sy, eq_self, ne_eq, IntKind.wrap_i64, wrapU64, Int.reduceLT] at * <;> first | contradiction | omega) | (simp_all; done))
        exact rPkE_p3 n m h1 hq0 hq1 hq2 hq3

noncomputable def pTr_b4 (n m : Int) : Bool := decide ((0 : Int) ≤ n ∧ n ≤ (63000 : Int) ∧ (1 : Int) ≤ m ∧ m ≤ (20 : Int))
noncomputable def pTr_c0 (n m : Int) : Int := (bif (decide (n < (0 : Int))) then ((0 : Int)) else (bif (decide (n > (63000 : Int))) then ((0 : Int)) else (bif (decide (m < (1 : Int))) then ((0 : Int)) else (bif (decide (m > (20 : Int))) then ((0 : Int)) else (rD m n)))))
noncomputable def pTr_c1 (n m : Int) : Int := (bif (decide (n < (0 : Int))) then ((2 : Int)) else (bif (decide (n > (63000 : Int))) then ((2 : Int)) else (bif (decide (m < (1 : Int))) then ((2 : Int)) else (bif (decide (m > (20 : Int))) then ((2 : Int)) else ((0 : Int))))))
theorem pTr_p0 (n m : Int)  (hq0 : (decide (n < (0 : Int))) = true) : Known Try.prog [] 15 [.int .i64 n, .int .i64 m] (.tuple #[(.int .i64 ((0 : Int))), (.int .i64 ((2 : Int)))]) :=
  open_res mix tabS_ok (T := tabS) (fuel := 3000) (ans := [(0, .b 1)]) (log := [(decide (n < (0 : Int))) = true]) (by kernel_rfl) ⟨hq0, trivial⟩ (by kernel_rfl)
theorem pTr_p1 (n m : Int)  (hq0 : (decide (n < (0 : Int))) = false) (hq1 : (decide (n > (63000 : Int))) = true) : Known Try.prog [] 15 [.int .i64 n, .int .i64 m] (.tuple #[(.int .i64 ((0 : Int))), (.int .i64 ((2 : Int)))]) :=
  open_res mix tabS_ok (T := tabS) (fuel := 3000) (ans := [(0, .b 0), (3, .b 1)]) (log := [(decide (n > (63000 : Int))) = true, (decide (n < (0 : Int))) = false]) (by kernel_rfl) ⟨hq1, hq0, trivial⟩ (by kernel_rfl)
theorem pTr_p2 (n m : Int)  (hq0 : (decide (n < (0 : Int))) = false) (hq1 : (decide (n > (63000 : Int))) = false) (hq2 : (decide (m < (1 : Int))) = true) : Known Try.prog [] 15 [.int .i64 n, .int .i64 m] (.tuple #[(.int .i64 ((0 : Int))), (.int .i64 ((2 : Int)))]) :=
  open_res mix tabS_ok (T := tabS) (fuel := 3000) (ans := [(0, .b 0), (3, .b 0), (6, .b 1)]) (log := [(decide (m < (1 : Int))) = true, (decide (n > (63000 : Int))) = false, (decide (n < (0 : Int))) = false]) (by kernel_rfl) ⟨hq2, hq1, hq0, trivial⟩ (by kernel_rfl)
theorem pTr_p3 (n m : Int)  (hq0 : (decide (n < (0 : Int))) = false) (hq1 : (decide (n > (63000 : Int))) = false) (hq2 : (decide (m < (1 : Int))) = false) (hq3 : (decide (m > (20 : Int))) = true) : Known Try.prog [] 15 [.int .i64 n, .int .i64 m] (.tuple #[(.int .i64 ((0 : Int))), (.int .i64 ((2 : Int)))]) :=
  open_res mix tabS_ok (T := tabS) (fuel := 3000) (ans := [(0, .b 0), (3, .b 0), (6, .b 0), (9, .b 1)]) (log := [(decide (m > (20 : Int))) = true, (decide (m < (1 : Int))) = false, (decide (n > (63000 : Int))) = false, (decide (n < (0 : Int))) = false]) (by kernel_rfl) ⟨hq3, hq2, hq1, hq0, trivial⟩ (by kernel_rfl)
theorem pTr_p4 (n m : Int)  (hq0 : (decide (n < (0 : Int))) = false) (hq1 : (decide (n > (63000 : Int))) = false) (hq2 : (decide (m < (1 : Int))) = false) (hq3 : (decide (m > (20 : Int))) = false) (hq4 : (pTr_b4 n m) = true) : Known Try.prog [] 15 [.int .i64 n, .int .i64 m] (.tuple #[(.int .i64 (rD m n)), (.int .i64 ((0 : Int)))]) :=
  open_res mix tabS_ok (T := tabS) (fuel := 3000) (ans := [(0, .b 0), (3, .b 0), (6, .b 0), (9, .b 0), (11, .b 1)]) (log := [(pTr_b4 n m) = true, (decide (m > (20 : Int))) = false, (decide (m < (1 : Int))) = false, (decide (n > (63000 : Int))) = false, (decide (n < (0 : Int))) = false]) (by kernel_rfl) ⟨hq4, hq3, hq2, hq1, hq0, trivial⟩ (by kernel_rfl)
set_option maxHeartbeats 8000000 in
theorem pTr (n m : Int)  : Known Try.prog [] 15 [.int .i64 n, .int .i64 m] (.tuple #[(.int .i64 (pTr_c0 n m)), (.int .i64 (pTr_c1 n m))]) := by
  rcases Bool.eq_false_or_eq_true (decide (n < (0 : Int))) with hq0 | hq0
  ·
    have e0 : pTr_c0 n m = ((0 : Int)) := ((bif_t hq0 _ _).trans rfl); rw [e0]; have e1 : pTr_c1 n m = ((2 : Int)) := ((bif_t hq0 _ _).trans rfl); rw [e1]; exact pTr_p0 n m hq0
  ·
    rcases Bool.eq_false_or_eq_true (decide (n > (63000 : Int))) with hq1 | hq1
    ·
      have e0 : pTr_c0 n m = ((0 : Int)) := ((bif_f hq0 _ _).trans ((bif_t hq1 _ _).trans rfl)); rw [e0]; have e1 : pTr_c1 n m = ((2 : Int)) := ((bif_f hq0 _ _).trans ((bif_t hq1 _ _).trans rfl)); rw [e1]; exact pTr_p1 n m hq0 hq1
    ·
      rcases Bool.eq_false_or_eq_true (decide (m < (1 : Int))) with hq2 | hq2
      ·
        have e0 : pTr_c0 n m = ((0 : Int)) := ((bif_f hq0 _ _).trans ((bif_f hq1 _ _).trans ((bif_t hq2 _ _).trans rfl))); rw [e0]; have e1 : pTr_c1 n m = ((2 : Int)) := ((bif_f hq0 _ _).trans ((bif_f hq1 _ _).trans ((bif_t hq2 _ _).trans rfl))); rw [e1]; exact pTr_p2 n m hq0 hq1 hq2
      ·
        rcases Bool.eq_false_or_eq_true (decide (m > (20 : Int))) with hq3 | hq3
        ·
          have e0 : pTr_c0 n m = ((0 : Int)) := ((bif_f hq0 _ _).trans ((bif_f hq1 _ _).trans ((bif_f hq2 _ _).trans ((bif_t hq3 _ _).trans rfl)))); rw [e0]; have e1 : pTr_c1 n m = ((2 : Int)) := ((bif_f hq0 _ _).trans ((bif_f hq1 _ _).trans ((bif_f hq2 _ _).trans ((bif_t hq3 _ _).trans rfl)))); rw [e1]; exact pTr_p3 n m hq0 hq1 hq2 hq3
        ·
          have hq4 : (pTr_b4 n m) = true := by
            rcases Bool.eq_false_or_eq_true (pTr_b4 n m) with h | h
            · exact h
            · exfalso; (try simp only [pTr_b4] at *); (first | (simp_all only [Bool.and_eq_true, Bool.not_eq_true', Bool.false_eq_true, Bool.true_eq_false, reduceCtorEq]; done) | (simp only [sx, sy, eq_self, ne_eq, IntKind.wrap_i64, wrapU64, Int.reduceLT] at * <;> first | contradiction | omega) | (simp_all; done))
          have e0 : pTr_c0 n m = (rD m n) := ((bif_f hq0 _ _).trans ((bif_f hq1 _ _).trans ((bif_f hq2 _ _).trans ((bif_f hq3 _ _).trans rfl)))); rw [e0]; have e1 : pTr_c1 n m = ((0 : Int)) := ((bif_f hq0 _ _).trans ((bif_f hq1 _ _).trans ((bif_f hq2 _ _).trans ((bif_f hq3 _ _).trans rfl)))); rw [e1]; exact pTr_p4 n m hq0 hq1 hq2 hq3 hq4
noncomputable def pTr_k : List Value → Option Value
  | [.int .i64 n, .int .i64 m] => some (.tuple #[(.int .i64 (pTr_c0 n m)), (.int .i64 (pTr_c1 n m))])
  | _ => none
theorem pTr_ok : ∀ args v, pTr_k args = some v → Known Try.prog [] 15 args v := by
  intro args v h
  unfold pTr_k at h
  split at h
  · injection h with h; subst h; exact pTr _ _
  · cases h

noncomputable def rTr_b4 (n m : Int) : Bool := decide ((0 : Int) ≤ n ∧ n ≤ (63000 : Int) ∧ (1 : Int) ≤ m ∧ m ≤ (20 : Int))
noncomputable def rTr_c0 (n m : Int) : Int := (bif (decide (n < (0 : Int))) then ((0 : Int)) else (bif (decide (n > (63000 : Int))) then ((0 : Int)) else (bif (decide (m < (1 : Int))) then ((0 : Int)) else (bif (decide (m > (20 : Int))) then ((0 : Int)) else (rD m n)))))
noncomputable def rTr_c1 (n m : Int) : Int := (bif (decide (n < (0 : Int))) then ((2 : Int)) else (bif (decide (n > (63000 : Int))) then ((2 : Int)) else (bif (decide (m < (1 : Int))) then ((2 : Int)) else (bif (decide (m > (20 : Int))) then ((2 : Int)) else ((0 : Int))))))
theorem rTr_p0 (n m : Int)  (hq0 : (decide (n < (0 : Int))) = true) : Known Try.prog [] 16 [.int .i64 n, .int .i64 m] (.tuple #[(.int .i64 ((0 : Int))), (.int .i64 ((2 : Int)))]) :=
  open_res mix tabS_ok (T := tabS) (fuel := 3000) (ans := [(0, .b 1)]) (log := [(decide (n < (0 : Int))) = true]) (by kernel_rfl) ⟨hq0, trivial⟩ (by kernel_rfl)
theorem rTr_p1 (n m : Int)  (hq0 : (decide (n < (0 : Int))) = false) (hq1 : (decide (n > (63000 : Int))) = true) : Known Try.prog [] 16 [.int .i64 n, .int .i64 m] (.tuple #[(.int .i64 ((0 : Int))), (.int .i64 ((2 : Int)))]) :=
  open_res mix tabS_ok (T := tabS) (fuel := 3000) (ans := [(0, .b 0), (3, .b 1)]) (log := [(decide (n > (63000 : Int))) = true, (decide (n < (0 : Int))) = false]) (by kernel_rfl) ⟨hq1, hq0, trivial⟩ (by kernel_rfl)
theorem rTr_p2 (n m : Int)  (hq0 : (decide (n < (0 : Int))) = false) (hq1 : (decide (n > (63000 : Int))) = false) (hq2 : (decide (m < (1 : Int))) = true) : Known Try.prog [] 16 [.int .i64 n, .int .i64 m] (.tuple #[(.int .i64 ((0 : Int))), (.int .i64 ((2 : Int)))]) :=
  open_res mix tabS_ok (T := tabS) (fuel := 3000) (ans := [(0, .b 0), (3, .b 0), (6, .b 1)]) (log := [(decide (m < (1 : Int))) = true, (decide (n > (63000 : Int))) = false, (decide (n < (0 : Int))) = false]) (by kernel_rfl) ⟨hq2, hq1, hq0, trivial⟩ (by kernel_rfl)
theorem rTr_p3 (n m : Int)  (hq0 : (decide (n < (0 : Int))) = false) (hq1 : (decide (n > (63000 : Int))) = false) (hq2 : (decide (m < (1 : Int))) = false) (hq3 : (decide (m > (20 : Int))) = true) : Known Try.prog [] 16 [.int .i64 n, .int .i64 m] (.tuple #[(.int .i64 ((0 : Int))), (.int .i64 ((2 : Int)))]) :=
  open_res mix tabS_ok (T := tabS) (fuel := 3000) (ans := [(0, .b 0), (3, .b 0), (6, .b 0), (9, .b 1)]) (log := [(decide (m > (20 : Int))) = true, (decide (m < (1 : Int))) = false, (decide (n > (63000 : Int))) = false, (decide (n < (0 : Int))) = false]) (by kernel_rfl) ⟨hq3, hq2, hq1, hq0, trivial⟩ (by kernel_rfl)
theorem rTr_p4 (n m : Int)  (hq0 : (decide (n < (0 : Int))) = false) (hq1 : (decide (n > (63000 : Int))) = false) (hq2 : (decide (m < (1 : Int))) = false) (hq3 : (decide (m > (20 : Int))) = false) (hq4 : (rTr_b4 n m) = true) : Known Try.prog [] 16 [.int .i64 n, .int .i64 m] (.tuple #[(.int .i64 (rD m n)), (.int .i64 ((0 : Int)))]) :=
  open_res mix tabS_ok (T := tabS) (fuel := 3000) (ans := [(0, .b 0), (3, .b 0), (6, .b 0), (9, .b 0), (11, .b 1)]) (log := [(rTr_b4 n m) = true, (decide (m > (20 : Int))) = false, (decide (m < (1 : Int))) = false, (decide (n > (63000 : Int))) = false, (decide (n < (0 : Int))) = false]) (by kernel_rfl) ⟨hq4, hq3, hq2, hq1, hq0, trivial⟩ (by kernel_rfl)
set_option maxHeartbeats 8000000 in
theorem rTr (n m : Int)  : Known Try.prog [] 16 [.int .i64 n, .int .i64 m] (.tuple #[(.int .i64 (rTr_c0 n m)), (.int .i64 (rTr_c1 n m))]) := by
  rcases Bool.eq_false_or_eq_true (decide (n < (0 : Int))) with hq0 | hq0
  ·
    have e0 : rTr_c0 n m = ((0 : Int)) := ((bif_t hq0 _ _).trans rfl); rw [e0]; have e1 : rTr_c1 n m = ((2 : Int)) := ((bif_t hq0 _ _).trans rfl); rw [e1]; exact rTr_p0 n m hq0
  ·
    rcases Bool.eq_false_or_eq_true (decide (n > (63000 : Int))) with hq1 | hq1
    ·
      have e0 : rTr_c0 n m = ((0 : Int)) := ((bif_f hq0 _ _).trans ((bif_t hq1 _ _).trans rfl)); rw [e0]; have e1 : rTr_c1 n m = ((2 : Int)) := ((bif_f hq0 _ _).trans ((bif_t hq1 _ _).trans rfl)); rw [e1]; exact rTr_p1 n m hq0 hq1
    ·
      rcases Bool.eq_false_or_eq_true (decide (m < (1 : Int))) with hq2 | hq2
      ·
        have e0 : rTr_c0 n m = ((0 : Int)) := ((bif_f hq0 _ _).trans ((bif_f hq1 _ _).trans ((bif_t hq2 _ _).trans rfl))); rw [e0]; have e1 : rTr_c1 n m = ((2 : Int)) := ((bif_f hq0 _ _).trans ((bif_f hq1 _ _).trans ((bif_t hq2 _ _).trans rfl))); rw [e1]; exact rTr_p2 n m hq0 hq1 hq2
      ·
        rcases Bool.eq_false_or_eq_true (decide (m > (20 : Int))) with hq3 | hq3
        ·
          have e0 : rTr_c0 n m = ((0 : Int)) := ((bif_f hq0 _ _).trans ((bif_f hq1 _ _).trans ((bif_f hq2 _ _).trans ((bif_t hq3 _ _).trans rfl)))); rw [e0]; have e1 : rTr_c1 n m = ((2 : Int)) := ((bif_f hq0 _ _).trans ((bif_f hq1 _ _).trans ((bif_f hq2 _ _).trans ((bif_t hq3 _ _).trans rfl)))); rw [e1]; exact rTr_p3 n m hq0 hq1 hq2 hq3
        ·
          have hq4 : (rTr_b4 n m) = true := by
            rcases Bool.eq_false_or_eq_true (rTr_b4 n m) with h | h
            · exact h
            · exfalso; (try simp only [rTr_b4] at *); (first | (simp_all only [Bool.and_eq_true, Bool.not_eq_true', Bool.false_eq_true, Bool.true_eq_false, reduceCtorEq]; done) | (simp only [sx, sy, eq_self, ne_eq, IntKind.wrap_i64, wrapU64, Int.reduceLT] at * <;> first | contradiction | omega) | (simp_all; done))
          have e0 : rTr_c0 n m = (rD m n) := ((bif_f hq0 _ _).trans ((bif_f hq1 _ _).trans ((bif_f hq2 _ _).trans ((bif_f hq3 _ _).trans rfl)))); rw [e0]; have e1 : rTr_c1 n m = ((0 : Int)) := ((bif_f hq0 _ _).trans ((bif_f hq1 _ _).trans ((bif_f hq2 _ _).trans ((bif_f hq3 _ _).trans rfl)))); rw [e1]; exact rTr_p4 n m hq0 hq1 hq2 hq3 hq4
noncomputable def rTr_k : List Value → Option Value
  | [.int .i64 n, .int .i64 m] => some (.tuple #[(.int .i64 (rTr_c0 n m)), (.int .i64 (rTr_c1 n m))])
  | _ => none
theorem rTr_ok : ∀ args v, rTr_k args = some v → Known Try.prog [] 16 args v := by
  intro args v h
  unfold rTr_k at h
  split at h
  · injection h with h; subst h; exact rTr _ _
  · cases h

end Go.Proofs.Ytjemhamkakgnhaa
