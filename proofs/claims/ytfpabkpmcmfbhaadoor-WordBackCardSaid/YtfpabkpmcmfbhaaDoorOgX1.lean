/- Layer 33: WordBits: the loops of Cars and Differ, of both. -/
import Derived.Test.YtfpabkpmcmfbhaaDoorOgT3
import Derived.ProofKit
import Derived.IntWalk
namespace Go.Proofs.YtfpabkpmcmfbhaaDoor
open Go Go.RowKit
set_option linter.unusedVariables false
set_option linter.unusedSimpArgs false
set_option linter.unnecessarySimpa false
set_option maxHeartbeats 8000000
set_option maxRecDepth 100000
noncomputable def pbV (c : Int) : Int := pbt_c0 c
theorem qPb (c : Int) (hg : (decide (1 ≤ c ∧ c ≤ 9)) = true) : Known Tryd.prog knWordKnownL 37 [.int .i64 c] (.int .i64 (pbV c)) := pbt c (of_decide_eq_true hg)
noncomputable def qPb_k : List Value → Option (Bool × Value)
  | [.int .i64 c] => some (decide (1 ≤ c ∧ c ≤ 9), .int .i64 (pbV c))
  | _ => none
theorem qPb_ok : ∀ args v, qPb_k args = some (true, v) → Known Tryd.prog knWordKnownL 37 args v := by
  intro args v h
  unfold qPb_k at h
  split at h
  · injection h with h; injection h with hg h; subst h; exact qPb _ hg
  · cases h
attribute [local irreducible] btB vlX pbV
noncomputable def tabX : GTab := (GTab.fn 25 qBt_k (GTab.fn1 24 qVl_k (GTab.fn 37 qPb_k GTab.none)))
theorem tabX_ok : GOk Tryd.prog knWordKnownL tabX := (GOk.fn qBt_ok (GOk.fn1 qVl_ok (GOk.fn qPb_ok GOk.none)))
noncomputable def coA_hd (a : Int) : Hd := headD Tryd.prog knWordKnownL tabX 3000 23 [.val (.int .i64 a)] [(0, .stop)]
noncomputable def coA_R (a : Int) (rc0 : Array Value) (rn0 : Nat) (y1 : Int) : St := (((entryR Tryd.prog [(.slot 3, 3)] 3 43 [7, 15, 11, 19, 5, 9, 17, 13, 21, 8, 16, 12, 20, 6, 10, 18, 14] 0 0 (coA_hd a).s).rows [(3, rc0, 3)]).updF [(3, .complex .f64 3 rn0), (4, .int .i64 y1)] [])
noncomputable def coA_S (a : Int) (y0 : List Int) (y1 : Int) : St := coA_R a (rowA gI y0.reverse) y0.length y1 
theorem coA_n (a : Int) (ha : 0 ≤ a ∧ a ≤ 255) : 3 = (coA_hd a).s.hs.next := by kernel_rfl
theorem coA_r (a : Int) (ha : 0 ≤ a ∧ a ≤ 255) : (coA_hd a).s.hs.rd < bitOf 3 := by
  have e : (coA_hd a).s.hs.rd = 0 := by kernel_rfl
  rw [e]; exact blt_iff.1 (by kernel_rfl)
theorem coA_w (a : Int) (ha : 0 ≤ a ∧ a ≤ 255) : (coA_hd a).s.hs.wr < bitOf 3 := by
  have e : (coA_hd a).s.hs.wr = 0 := by kernel_rfl
  rw [e]; exact blt_iff.1 (by kernel_rfl)
theorem coA_e0 (a : Int) (ha : 0 ≤ a ∧ a ≤ 255) : beginS Tryd.prog [(.slot 3, 3)] 3 43 (sameB 3 1) [7, 15, 11, 19, 5, 9, 17, 13, 21, 8, 16, 12, 20, 6, 10, 18, 14] 4 0 0 (coA_hd a).s = some (coA_S a [] ((1 : Int))) := by
  have h : beginS Tryd.prog [(.slot 3, 3)] 3 43 (sameB 3 1) [7, 15, 11, 19, 5, 9, 17, 13, 21, 8, 16, 12, 20, 6, 10, 18, 14] 4 0 0 (coA_hd a).s = some (coA_R a #[] 0 ((1 : Int))) := by kernel_rfl
  refine h.trans (congrArg some ?_)
  show coA_R a #[] 0 ((1 : Int)) = coA_R a (rowA gI ([] : List Int).reverse) ([] : List Int).length ((1 : Int))
  all_goals first | (simp only [List.reverse_nil, rowA_nil, List.length_nil, List.reverse_reverse, List.length_reverse]; done) | rfl | (simp only [List.reverse_nil, rowA_nil, List.length_nil, List.reverse_reverse, List.length_reverse]; rfl)
theorem coA_e1 (a : Int) (ha : 0 ≤ a ∧ a ≤ 255) : beginOk Tryd.prog [(.slot 3, 3)] 3 43 (sameB 3 1) 4 (coA_hd a).s = true := by kernel_rfl
def coA_X : Nat → VX
  | 0 => .exit 0
  | _ => .normal
noncomputable def coA_E (kE : Nat) (a : Int) (y0 : List Int) (y1 : Int) : St := match kE with
  | 0 => (((bodySt (bodyR Tryd.prog (knWordKnownL : Vars).length tabX 3000 (coA_hd a) (coA_S a y0 y1 ) [(0, .b 0), (1, .b 0)] 3 43 [(3, 3)] [7, 15, 11, 19, 5, 9, 17, 13, 21, 8, 16, 12, 20, 6, 10, 18, 14] 43 0 0)).rows [(3, rowA gI y0.reverse, 3)]).updF [(3, .complex .f64 3 y0.length), (4, .int .i64 y1)] [])
  | _ => (coA_hd a).s
noncomputable def coA_b0 (a : Int) (y0 : List Int) (y1 : Int) : Bool := decide (IntKind.u64.wrap (IntKind.i64.wrap (y1 - (1 : Int))) < (0 : Int))
noncomputable def coA_b1 (a : Int) (y0 : List Int) (y1 : Int) : Bool := a.fdiv ((2 : Int) ^ min (IntKind.u64.wrap (IntKind.i64.wrap (y1 - (1 : Int)))).toNat (64 : Nat)) != (0 : Int)
noncomputable def coA_b3 (a : Int) (y0 : List Int) (y1 : Int) : Bool := IntKind.i64.wrap (↑(BitVec.ofInt (64 : Nat) a &&& BitVec.ofInt (64 : Nat) (pbV y1)).toNat : Int) != (0 : Int)
theorem coA_p0 (a : Int) (y0 : List Int) (y1 : Int) : bodyR Tryd.prog (knWordKnownL : Vars).length tabX 3000 (coA_hd a) (coA_S a y0 y1 ) [(0, .b 0), (1, .b 1), (2, .b 1), (3, .b 1), (4, .b 1), (5, .yes), (6, .arr (rowA (gI) ((y1 :: y0).reverse)))] 3 43 [(5, 3)] [7, 15, 11, 19, 5, 9, 17, 13, 21, 8, 16, 12, 20, 6, 10, 18, 14] 4 0 0 = some (.normal, (coA_S a (y1 :: y0) (IntKind.i64.wrap (y1 + (1 : Int)))), [((rowA (gI) (y0.reverse)).toList ++ ([Value.int IntKind.i64 y1])).toArray = rowA (gI) ((y1 :: y0).reverse), ((rowA gI y0.reverse).size.beq (y0.length.mul Tryd.prog.types[(3 : Nat)].size)) = true, (decide ((y0.length + (1 : Nat)) * (8 : Nat) < (1000000000 : Nat))) = true, (coA_b3 a y0 y1 ) = true, (decide ((1 : Int) ≤ y1 ∧ y1 ≤ (9 : Int))) = true, (coA_b1 a y0 y1 ) = true, (coA_b0 a y0 y1 ) = false]) := by kernel_rfl
theorem coA_p1 (a : Int) (y0 : List Int) (y1 : Int) : bodyR Tryd.prog (knWordKnownL : Vars).length tabX 3000 (coA_hd a) (coA_S a y0 y1 ) [(0, .b 0), (1, .b 1), (2, .b 1), (3, .b 0)] 3 43 [(3, 3)] [7, 15, 11, 19, 5, 9, 17, 13, 21, 8, 16, 12, 20, 6, 10, 18, 14] 4 0 0 = some (.normal, (coA_S a (y0) (IntKind.i64.wrap (y1 + (1 : Int)))), [(coA_b3 a y0 y1 ) = false, (decide ((1 : Int) ≤ y1 ∧ y1 ≤ (9 : Int))) = true, (coA_b1 a y0 y1 ) = true, (coA_b0 a y0 y1 ) = false]) := by kernel_rfl
theorem coA_p2 (a : Int) (y0 : List Int) (y1 : Int) : bodyR Tryd.prog (knWordKnownL : Vars).length tabX 3000 (coA_hd a) (coA_S a y0 y1 ) [(0, .b 0), (1, .b 0)] 3 43 [(3, 3)] [7, 15, 11, 19, 5, 9, 17, 13, 21, 8, 16, 12, 20, 6, 10, 18, 14] 43 0 0 = some (.exit 0, coA_E 0 a (y0) (y1) , [(coA_b1 a y0 y1 ) = false, (coA_b0 a y0 y1 ) = false]) := by kernel_rfl
theorem coA_q2 (a : Int) (y0 : List Int) (y1 : Int) : (coA_E 0 a (y0) (y1) ).hs.next = 43 := by kernel_rfl
theorem coA_d0 (a : Int) (ha : 0 ≤ a ∧ a ≤ 255) (y0 : List Int) (y1 : Int) (hi : (decide (1 ≤ y1 ∧ y1 ≤ 9) && decide ((y0.length + 1) * 8 < 1000000000)) = true) : (coA_b0 a y0 y1 ) = false := by
  rcases Bool.eq_false_or_eq_true (coA_b0 a y0 y1 ) with h | h
  · exfalso; (try simp only [coA_b0] at *); (first | (simp_all only [Bool.and_eq_true, Bool.not_eq_true', Bool.false_eq_true, Bool.true_eq_false, reduceCtorEq]; done) | (simp only [sx, sy, eq_self, ne_eq, IntKind.wrap_i64, wrapU64, Int.reduceLT] at * <;> first | contradiction | omega) | omega | ((try simp only [sx, sy, eq_self, ne_eq, IntKind.wrap_i64, wrapU64, Int.reduceLT] at *) <;> omega) | (simp_all; done))
  · exact h
theorem coA_d1 (a : Int) (ha : 0 ≤ a ∧ a ≤ 255) (y0 : List Int) (y1 : Int) (hi : (decide (1 ≤ y1 ∧ y1 ≤ 9) && decide ((y0.length + 1) * 8 < 1000000000)) = true) (hq0 : (coA_b0 a y0 y1 ) = false) (hq1 : (coA_b1 a y0 y1 ) = true) : (decide ((1 : Int) ≤ y1 ∧ y1 ≤ (9 : Int))) = true := by
  rcases Bool.eq_false_or_eq_true (decide ((1 : Int) ≤ y1 ∧ y1 ≤ (9 : Int))) with h | h
  · exact h
  · exfalso; (try simp only [coA_b0, coA_b1] at *); (first | (simp_all only [Bool.and_eq_true, Bool.not_eq_true', Bool.false_eq_true, Bool.true_eq_false, reduceCtorEq]; done) | (simp only [sx, sy, eq_self, ne_eq, IntKind.wrap_i64, wrapU64, Int.reduceLT] at * <;> first | contradiction | omega) | omega | ((try simp only [sx, sy, eq_self, ne_eq, IntKind.wrap_i64, wrapU64, Int.reduceLT] at *) <;> omega) | (simp_all; done))
theorem coA_d2 (a : Int) (ha : 0 ≤ a ∧ a ≤ 255) (y0 : List Int) (y1 : Int) (hi : (decide (1 ≤ y1 ∧ y1 ≤ 9) && decide ((y0.length + 1) * 8 < 1000000000)) = true) (hq0 : (coA_b0 a y0 y1 ) = false) (hq1 : (coA_b1 a y0 y1 ) = true) (hq2 : (decide ((1 : Int) ≤ y1 ∧ y1 ≤ (9 : Int))) = true) (hq3 : (coA_b3 a y0 y1 ) = true) : (decide ((y0.length + (1 : Nat)) * (8 : Nat) < (1000000000 : Nat))) = true := by
  rcases Bool.eq_false_or_eq_true (decide ((y0.length + (1 : Nat)) * (8 : Nat) < (1000000000 : Nat))) with h | h
  · exact h
  · exfalso; (try simp only [coA_b0, coA_b1, coA_b3] at *); (first | (simp_all only [Bool.and_eq_true, Bool.not_eq_true', Bool.false_eq_true, Bool.true_eq_false, reduceCtorEq]; done) | (simp only [sx, sy, eq_self, ne_eq, IntKind.wrap_i64, wrapU64, Int.reduceLT] at * <;> first | contradiction | omega) | omega | ((try simp only [sx, sy, eq_self, ne_eq, IntKind.wrap_i64, wrapU64, Int.reduceLT] at *) <;> omega) | (simp_all; done))
noncomputable def coA_f (a : Int) : Nat → List Int → Int → Option (Nat × (List Int × Int))
  | 0, _, _ => none
  | fu + 1, y0, y1 => (bif (decide (1 ≤ y1 ∧ y1 ≤ 9) && decide ((y0.length + 1) * 8 < 1000000000)) then (bif (a.fdiv ((2 : Int) ^ min (IntKind.u64.wrap (IntKind.i64.wrap (y1 - (1 : Int)))).toNat (64 : Nat)) != (0 : Int)) then (bif (IntKind.i64.wrap (↑(BitVec.ofInt (64 : Nat) a &&& BitVec.ofInt (64 : Nat) (pbV y1)).toNat : Int) != (0 : Int)) then coA_f a fu (y1 :: y0) (IntKind.i64.wrap (y1 + (1 : Int))) else coA_f a fu (y0) (IntKind.i64.wrap (y1 + (1 : Int)))) else some (0, ((y0), (y1)))) else none)
theorem coA_fs (a : Int) (fu : Nat) (y0 : List Int) (y1 : Int) : coA_f a (fu + 1) y0 y1 = (bif (decide (1 ≤ y1 ∧ y1 ≤ 9) && decide ((y0.length + 1) * 8 < 1000000000)) then (bif (a.fdiv ((2 : Int) ^ min (IntKind.u64.wrap (IntKind.i64.wrap (y1 - (1 : Int)))).toNat (64 : Nat)) != (0 : Int)) then (bif (IntKind.i64.wrap (↑(BitVec.ofInt (64 : Nat) a &&& BitVec.ofInt (64 : Nat) (pbV y1)).toNat : Int) != (0 : Int)) then coA_f a fu (y1 :: y0) (IntKind.i64.wrap (y1 + (1 : Int))) else coA_f a fu (y0) (IntKind.i64.wrap (y1 + (1 : Int)))) else some (0, ((y0), (y1)))) else none) := rfl
theorem coA_f0 (a : Int) (y0 : List Int) (y1 : Int) : coA_f a 0 y0 y1 = none := rfl
theorem coA_loop (a : Int) (ha : 0 ≤ a ∧ a ≤ 255) : ∀ (fu : Nat) (y0 : List Int) (y1 : Int) (kk : Nat) (zz : List Int × Int), coA_f a fu y0 y1 = some (kk, zz) → VStep (coA_hd a).s.hs (coA_S a y0 y1 ).hs → RoundsC Tryd.prog knWordKnownL 3 43 (coA_hd a).s.hs (coA_hd a).ro (coA_hd a).a (coA_S a y0 y1 ) (coA_X kk) (coA_E kk a zz.1 zz.2 ) ∧ ((coA_E kk a zz.1 zz.2 )).hs.next = 43 := by
  intro fu
  induction fu with
  | zero =>
    intro y0 y1 kk zz hf hSz
    have hf := (coA_f0 a y0 y1 ).symm.trans hf
    simp at hf
  | succ fu ih =>
    intro y0 y1 kk zz hf hSz
    have hf := (coA_fs a fu y0 y1 ).symm.trans hf
    rcases bif_or hf with ⟨hi, hf⟩ | ⟨hi, hf⟩
    case inr => cases hf
    have hq0 := coA_d0 a ha y0 y1 hi 
    rcases bif_or hf with ⟨hq1, hf⟩ | ⟨hq1, hf⟩
    ·
      have hq2 := coA_d1 a ha y0 y1 hi hq0 hq1 
      rcases bif_or hf with ⟨hq3, hf⟩ | ⟨hq3, hf⟩
      ·
        have hq4 := coA_d2 a ha y0 y1 hi hq0 hq1 hq2 hq3 
        have hb1 := coA_p0 a y0 y1 ; have hb2 := body_canonR hb1; have hb3 := hb2 ⟨(row_snoc (g := (gI)) rfl), (fact_size (g := (gI)) (k := 1) (fun _ => rfl) (by first | (simp; done) | (simp only [Nat.add_eq, Nat.sub_eq, List.length_take, List.length_drop, List.length_append, List.length_cons, List.length_nil, List.length_reverse, List.length_set]; omega) | (have hx2 := of_decide_eq_true hi; simp only [List.length_reverse, List.length_set] at *; omega))), hq4, hq3, hq2, hq1, hq0, trivial⟩; obtain ⟨sz1, kz1, kz2, kz3⟩ := hb3; obtain ⟨gz1, gz2⟩ := ih (y1 :: y0) (IntKind.i64.wrap (y1 + (1 : Int))) kk zz hf (rounds_step mix (T := tabX) tabX_ok (coA_n a ha ) (coA_r a ha ) (coA_w a ha ) kz1 hSz kz2 kz3); exact ⟨rounds_next mix (T := tabX) tabX_ok (coA_n a ha ) (coA_r a ha ) (coA_w a ha ) kz1 hSz kz2 kz3 (fun _ => gz1), gz2⟩
      ·
        have hb1 := coA_p1 a y0 y1 ; have hb2 := body_canonR hb1; have hb3 := hb2 ⟨hq3, hq2, hq1, hq0, trivial⟩; obtain ⟨sz1, kz1, kz2, kz3⟩ := hb3; obtain ⟨gz1, gz2⟩ := ih (y0) (IntKind.i64.wrap (y1 + (1 : Int))) kk zz hf (rounds_step mix (T := tabX) tabX_ok (coA_n a ha ) (coA_r a ha ) (coA_w a ha ) kz1 hSz kz2 kz3); exact ⟨rounds_next mix (T := tabX) tabX_ok (coA_n a ha ) (coA_r a ha ) (coA_w a ha ) kz1 hSz kz2 kz3 (fun _ => gz1), gz2⟩
    ·
      injection hf with hf; injection hf with e1 e2; subst e1; subst e2; have hb1 := coA_p2 a y0 y1 ; have hb2 := body_canonR hb1; have hb3 := hb2 ⟨hq1, hq0, trivial⟩; obtain ⟨sz1, kz1, kz2, kz3⟩ := hb3; exact ⟨rounds_end mix (T := tabX) tabX_ok (coA_n a ha ) (coA_r a ha ) (coA_w a ha ) kz1 (fun h => by cases h) hSz kz2 kz3, coA_q2 a y0 y1 ⟩
theorem coA_ok (a : Int) (ha : 0 ≤ a ∧ a ≤ 255) (fu kk : Nat) (zz : List Int × Int) (hf : coA_f a fu [] ((1 : Int)) = some (kk, zz)) : ∀ B : Bd, B.L = knWordKnownL → LoopOk Tryd.prog B (coA_hd a).ro (coA_hd a).a (coA_hd a).s (coA_X kk) (coA_E kk a zz.1 zz.2 ) := by
  obtain ⟨sb1, sb2, sb3, sb4⟩ := begin_open (coA_e0 a ha ) (coA_e1 a ha )
  have hSz := begin_step2 (coA_n a ha ) (coA_r a ha ) (coA_w a ha ) sb2 sb3 sb4
  obtain ⟨gz1, gz2⟩ := coA_loop a ha fu [] ((1 : Int)) kk zz hf hSz
  exact rounds_ok (coA_n a ha ) (Nat.le_of_ble_eq_true (by kernel_rfl)) gz2 (rounds_begin2 (coA_n a ha ) (coA_r a ha ) (coA_w a ha ) sb2 sb3 sb4 (fun _ => gz1))

noncomputable def coK_c0 (a : Int) (coA_z0 : List Int) (coA_z1 : Int)  : List Int := (coA_z0.reverse)
theorem coK_p0 (a : Int) (coA_z0 : List Int) (coA_z1 : Int)  (ha : 0 ≤ a ∧ a ≤ 255) (coA_l : ∀ B : Bd, B.L = knWordKnownL → LoopOk Tryd.prog B (coA_hd a).ro (coA_hd a).a (coA_hd a).s (coA_X 0) (coA_E 0 a coA_z0 coA_z1 )) : KnownR Tryd.prog knWordKnownL 23 [.val (.int .i64 a)] (.complex .f64 0 ((coA_z0.reverse)).length) [(rowA gI ((coA_z0.reverse)), 3)] :=
  knownR_eq (v := Value.complex FloatKind.f64 (nat_lit 0) coA_z0.length) (bs := [(rowA gI coA_z0.reverse, nat_lit 3)]) (open_resD mix (GOk.add tabX_ok coA_l) (T := (GTab.add tabX 4 (coA_hd a).ro (coA_hd a).a (coA_hd a).s (coA_X 0) (coA_E 0 a coA_z0 coA_z1 ) (by kernel_rfl))) (fuel := 3000) (es := [3]) (ans := [(0, .loop (coA_X 0) (coA_E 0 a coA_z0 coA_z1 )), ]) (log := [LoopRes Tryd.prog (knWordKnownL : Vars).length (GTab.add tabX 4 (coA_hd a).ro (coA_hd a).a (coA_hd a).s (coA_X 0) (coA_E 0 a coA_z0 coA_z1 ) (by kernel_rfl)) (coA_hd a).ro (coA_hd a).a (coA_hd a).s (coA_X 0) (coA_E 0 a coA_z0 coA_z1 )]) (by kernel_rfl) ⟨(loop_known2 add_eq), trivial⟩ (by kernel_rfl)) (by first | rfl | (simp; done) | (simp_all; done)) (by first | rfl | (simp [rowA_nil]; done) | (simp only [rowA_eq]; rfl) | (simp_all [rowA_nil]; done))
set_option maxHeartbeats 8000000 in
theorem coK (a : Int) (coA_z0 : List Int) (coA_z1 : Int)  (ha : 0 ≤ a ∧ a ≤ 255) (coA_l : ∀ B : Bd, B.L = knWordKnownL → LoopOk Tryd.prog B (coA_hd a).ro (coA_hd a).a (coA_hd a).s (coA_X 0) (coA_E 0 a coA_z0 coA_z1 )) : KnownR Tryd.prog knWordKnownL 23 [.val (.int .i64 a)] (.complex .f64 0 ((coK_c0 a coA_z0 coA_z1)).length) [(rowA gI ((coK_c0 a coA_z0 coA_z1)), 3)] := by
  have e0 : coK_c0 a coA_z0 coA_z1 = (coA_z0.reverse) := rfl; rw [e0]; exact coK_p0 a coA_z0 coA_z1 ha coA_l

noncomputable def rcA_hd (a c : Int) : Hd := headD Tryd.prog knWordKnownL tabX 3000 7 [.val (.int .i64 a), .val (.int .i64 c)] [(1, .b 0), (2, .stop)]
noncomputable def rcA_R (a c : Int) (rc0 : Array Value) (rn0 : Nat) (y1 : Int) : St := (((entryR Tryd.prog [(.slot 7, 3)] 3 43 [15, 23, 19, 17, 25, 21, 16, 24, 20, 18, 26, 22] 0 0 (rcA_hd a c).s).rows [(3, rc0, 3)]).updF [(7, .complex .f64 3 rn0), (8, .int .i64 y1)] [])
noncomputable def rcA_S (a c : Int) (y0 : List Int) (y1 : Int) : St := rcA_R a c (rowA gI y0.reverse) y0.length y1 
theorem rcA_n (a c : Int) (hv : vlX a c = 0) (ha : 0 ≤ a ∧ a ≤ 255) (hc : 1 ≤ c ∧ c ≤ 8) : 3 = (rcA_hd a c).s.hs.next := by kernel_rfl
theorem rcA_r (a c : Int) (hv : vlX a c = 0) (ha : 0 ≤ a ∧ a ≤ 255) (hc : 1 ≤ c ∧ c ≤ 8) : (rcA_hd a c).s.hs.rd < bitOf 3 := by
  have e : (rcA_hd a c).s.hs.rd = 0 := by kernel_rfl
  rw [e]; exact blt_iff.1 (by kernel_rfl)
theorem rcA_w (a c : Int) (hv : vlX a c = 0) (ha : 0 ≤ a ∧ a ≤ 255) (hc : 1 ≤ c ∧ c ≤ 8) : (rcA_hd a c).s.hs.wr < bitOf 3 := by
  have e : (rcA_hd a c).s.hs.wr = 0 := by kernel_rfl
  rw [e]; exact blt_iff.1 (by kernel_rfl)
theorem rcA_e0 (a c : Int) (hv : vlX a c = 0) (ha : 0 ≤ a ∧ a ≤ 255) (hc : 1 ≤ c ∧ c ≤ 8) : beginS Tryd.prog [(.slot 7, 3)] 3 43 (sameB 3 1) [15, 23, 19, 17, 25, 21, 16, 24, 20, 18, 26, 22] 4 0 0 (rcA_hd a c).s = some (rcA_S a c [] ((1 : Int))) := by
  have h : beginS Tryd.prog [(.slot 7, 3)] 3 43 (sameB 3 1) [15, 23, 19, 17, 25, 21, 16, 24, 20, 18, 26, 22] 4 0 0 (rcA_hd a c).s = some (rcA_R a c #[] 0 ((1 : Int))) := by kernel_rfl
  refine h.trans (congrArg some ?_)
  show rcA_R a c #[] 0 ((1 : Int)) = rcA_R a c (rowA gI ([] : List Int).reverse) ([] : List Int).length ((1 : Int))
  all_goals first | (simp only [List.reverse_nil, rowA_nil, List.length_nil, List.reverse_reverse, List.length_reverse]; done) | rfl | (simp only [List.reverse_nil, rowA_nil, List.length_nil, List.reverse_reverse, List.length_reverse]; rfl)
theorem rcA_e1 (a c : Int) (hv : vlX a c = 0) (ha : 0 ≤ a ∧ a ≤ 255) (hc : 1 ≤ c ∧ c ≤ 8) : beginOk Tryd.prog [(.slot 7, 3)] 3 43 (sameB 3 1) 4 (rcA_hd a c).s = true := by kernel_rfl
def rcA_X : Nat → VX
  | 0 => .exit 0
  | _ => .normal
noncomputable def rcA_E (kE : Nat) (a c : Int) (y0 : List Int) (y1 : Int) : St := match kE with
  | 0 => (((bodySt (bodyR Tryd.prog (knWordKnownL : Vars).length tabX 3000 (rcA_hd a c) (rcA_S a c y0 y1 ) [(0, .b 0)] 3 43 [(3, 3)] [15, 23, 19, 17, 25, 21, 16, 24, 20, 18, 26, 22] 43 0 0)).rows [(3, rowA gI y0.reverse, 3)]).updF [(7, .complex .f64 3 y0.length), (8, .int .i64 y1)] [])
  | _ => (rcA_hd a c).s
noncomputable def rcA_b1 (a c : Int) (y0 : List Int) (y1 : Int) : Bool := decide ((0 : Int) ≤ a ∧ a ≤ (255 : Int) ∧ (1 : Int) ≤ y1 ∧ y1 ≤ (8 : Int))
theorem rcA_p0 (a c : Int) (y0 : List Int) (y1 : Int) : bodyR Tryd.prog (knWordKnownL : Vars).length tabX 3000 (rcA_hd a c) (rcA_S a c y0 y1 ) [(0, .b 1), (1, .b 1), (2, .b 1), (3, .b 1), (4, .yes), (5, .arr (rowA (gI) ((y1 :: y0).reverse)))] 3 43 [(5, 3)] [15, 23, 19, 17, 25, 21, 16, 24, 20, 18, 26, 22] 4 0 0 = some (.normal, (rcA_S a c (y1 :: y0) (IntKind.i64.wrap (y1 + (1 : Int)))), [((rowA (gI) (y0.reverse)).toList ++ ([Value.int IntKind.i64 y1])).toArray = rowA (gI) ((y1 :: y0).reverse), ((rowA gI y0.reverse).size.beq (y0.length.mul Tryd.prog.types[(3 : Nat)].size)) = true, (decide ((y0.length + (1 : Nat)) * (8 : Nat) < (1000000000 : Nat))) = true, (btB a y1) = true, (rcA_b1 a c y0 y1 ) = true, (decide (y1 ≤ c)) = true]) := by kernel_rfl
theorem rcA_p1 (a c : Int) (y0 : List Int) (y1 : Int) : bodyR Tryd.prog (knWordKnownL : Vars).length tabX 3000 (rcA_hd a c) (rcA_S a c y0 y1 ) [(0, .b 1), (1, .b 1), (2, .b 0)] 3 43 [(3, 3)] [15, 23, 19, 17, 25, 21, 16, 24, 20, 18, 26, 22] 4 0 0 = some (.normal, (rcA_S a c (y0) (IntKind.i64.wrap (y1 + (1 : Int)))), [(btB a y1) = false, (rcA_b1 a c y0 y1 ) = true, (decide (y1 ≤ c)) = true]) := by kernel_rfl
theorem rcA_p2 (a c : Int) (y0 : List Int) (y1 : Int) : bodyR Tryd.prog (knWordKnownL : Vars).length tabX 3000 (rcA_hd a c) (rcA_S a c y0 y1 ) [(0, .b 0)] 3 43 [(3, 3)] [15, 23, 19, 17, 25, 21, 16, 24, 20, 18, 26, 22] 43 0 0 = some (.exit 0, rcA_E 0 a c (y0) (y1) , [(decide (y1 ≤ c)) = false]) := by kernel_rfl
theorem rcA_q2 (a c : Int) (y0 : List Int) (y1 : Int) : (rcA_E 0 a c (y0) (y1) ).hs.next = 43 := by kernel_rfl
theorem rcA_d0 (a c : Int) (hv : vlX a c = 0) (ha : 0 ≤ a ∧ a ≤ 255) (hc : 1 ≤ c ∧ c ≤ 8) (y0 : List Int) (y1 : Int) (hi : (decide (1 ≤ y1 ∧ y1 ≤ 9 ∧ (y0.length : Int) ≤ y1)) = true) (hq0 : (decide (y1 ≤ c)) = true) : (rcA_b1 a c y0 y1 ) = true := by
  rcases Bool.eq_false_or_eq_true (rcA_b1 a c y0 y1 ) with h | h
  · exact h
  · exfalso; (try simp only [rcA_b1] at *); (first | (simp_all only [Bool.and_eq_true, Bool.not_eq_true', Bool.false_eq_true, Bool.true_eq_false, reduceCtorEq]; done) | (simp only [sx, sy, eq_self, ne_eq, IntKind.wrap_i64, wrapU64, Int.reduceLT] at * <;> first | contradiction | omega) | omega | ((try simp only [sx, sy, eq_self, ne_eq, IntKind.wrap_i64, wrapU64, Int.reduceLT] at *) <;> omega) | (simp_all; done))
theorem rcA_d1 (a c : Int) (hv : vlX a c = 0) (ha : 0 ≤ a ∧ a ≤ 255) (hc : 1 ≤ c ∧ c ≤ 8) (y0 : List Int) (y1 : Int) (hi : (decide (1 ≤ y1 ∧ y1 ≤ 9 ∧ (y0.length : Int) ≤ y1)) = true) (hq0 : (decide (y1 ≤ c)) = true) (hq1 : (rcA_b1 a c y0 y1 ) = true) (hq2 : (btB a y1) = true) : (decide ((y0.length + (1 : Nat)) * (8 : Nat) < (1000000000 : Nat))) = true := by
  rcases Bool.eq_false_or_eq_true (decide ((y0.length + (1 : Nat)) * (8 : Nat) < (1000000000 : Nat))) with h | h
  · exact h
  · exfalso; (try simp only [rcA_b1] at *); (first | (simp_all only [Bool.and_eq_true, Bool.not_eq_true', Bool.false_eq_true, Bool.true_eq_false, reduceCtorEq]; done) | (simp only [sx, sy, eq_self, ne_eq, IntKind.wrap_i64, wrapU64, Int.reduceLT] at * <;> first | contradiction | omega) | omega | ((try simp only [sx, sy, eq_self, ne_eq, IntKind.wrap_i64, wrapU64, Int.reduceLT] at *) <;> omega) | (simp_all; done))
noncomputable def rcA_f (a c : Int) : Nat → List Int → Int → Option (Nat × (List Int × Int))
  | 0, _, _ => none
  | fu + 1, y0, y1 => (bif (decide (1 ≤ y1 ∧ y1 ≤ 9 ∧ (y0.length : Int) ≤ y1)) then (bif (decide (y1 ≤ c)) then (bif (btB a y1) then rcA_f a c fu (y1 :: y0) (IntKind.i64.wrap (y1 + (1 : Int))) else rcA_f a c fu (y0) (IntKind.i64.wrap (y1 + (1 : Int)))) else some (0, ((y0), (y1)))) else none)
theorem rcA_fs (a c : Int) (fu : Nat) (y0 : List Int) (y1 : Int) : rcA_f a c (fu + 1) y0 y1 = (bif (decide (1 ≤ y1 ∧ y1 ≤ 9 ∧ (y0.length : Int) ≤ y1)) then (bif (decide (y1 ≤ c)) then (bif (btB a y1) then rcA_f a c fu (y1 :: y0) (IntKind.i64.wrap (y1 + (1 : Int))) else rcA_f a c fu (y0) (IntKind.i64.wrap (y1 + (1 : Int)))) else some (0, ((y0), (y1)))) else none) := rfl
theorem rcA_f0 (a c : Int) (y0 : List Int) (y1 : Int) : rcA_f a c 0 y0 y1 = none := rfl
theorem rcA_loop (a c : Int) (hv : vlX a c = 0) (ha : 0 ≤ a ∧ a ≤ 255) (hc : 1 ≤ c ∧ c ≤ 8) : ∀ (fu : Nat) (y0 : List Int) (y1 : Int) (kk : Nat) (zz : List Int × Int), rcA_f a c fu y0 y1 = some (kk, zz) → VStep (rcA_hd a c).s.hs (rcA_S a c y0 y1 ).hs → RoundsC Tryd.prog knWordKnownL 3 43 (rcA_hd a c).s.hs (rcA_hd a c).ro (rcA_hd a c).a (rcA_S a c y0 y1 ) (rcA_X kk) (rcA_E kk a c zz.1 zz.2 ) ∧ ((rcA_E kk a c zz.1 zz.2 )).hs.next = 43 := by
  intro fu
  induction fu with
  | zero =>
    intro y0 y1 kk zz hf hSz
    have hf := (rcA_f0 a c y0 y1 ).symm.trans hf
    simp at hf
  | succ fu ih =>
    intro y0 y1 kk zz hf hSz
    have hf := (rcA_fs a c fu y0 y1 ).symm.trans hf
    rcases bif_or hf with ⟨hi, hf⟩ | ⟨hi, hf⟩
    case inr => cases hf
    rcases bif_or hf with ⟨hq0, hf⟩ | ⟨hq0, hf⟩
    ·
      have hq1 := rcA_d0 a c hv ha hc y0 y1 hi hq0 
      rcases bif_or hf with ⟨hq2, hf⟩ | ⟨hq2, hf⟩
      ·
        have hq3 := rcA_d1 a c hv ha hc y0 y1 hi hq0 hq1 hq2 
        have hb1 := rcA_p0 a c y0 y1 ; have hb2 := body_canonR hb1; have hb3 := hb2 ⟨(row_snoc (g := (gI)) rfl), (fact_size (g := (gI)) (k := 1) (fun _ => rfl) (by first | (simp; done) | (simp only [Nat.add_eq, Nat.sub_eq, List.length_take, List.length_drop, List.length_append, List.length_cons, List.length_nil, List.length_reverse, List.length_set]; omega) | (have hx2 := of_decide_eq_true hi; simp only [List.length_reverse, List.length_set] at *; omega))), hq3, hq2, hq1, hq0, trivial⟩; obtain ⟨sz1, kz1, kz2, kz3⟩ := hb3; obtain ⟨gz1, gz2⟩ := ih (y1 :: y0) (IntKind.i64.wrap (y1 + (1 : Int))) kk zz hf (rounds_step mix (T := tabX) tabX_ok (rcA_n a c hv ha hc ) (rcA_r a c hv ha hc ) (rcA_w a c hv ha hc ) kz1 hSz kz2 kz3); exact ⟨rounds_next mix (T := tabX) tabX_ok (rcA_n a c hv ha hc ) (rcA_r a c hv ha hc ) (rcA_w a c hv ha hc ) kz1 hSz kz2 kz3 (fun _ => gz1), gz2⟩
      ·
        have hb1 := rcA_p1 a c y0 y1 ; have hb2 := body_canonR hb1; have hb3 := hb2 ⟨hq2, hq1, hq0, trivial⟩; obtain ⟨sz1, kz1, kz2, kz3⟩ := hb3; obtain ⟨gz1, gz2⟩ := ih (y0) (IntKind.i64.wrap (y1 + (1 : Int))) kk zz hf (rounds_step mix (T := tabX) tabX_ok (rcA_n a c hv ha hc ) (rcA_r a c hv ha hc ) (rcA_w a c hv ha hc ) kz1 hSz kz2 kz3); exact ⟨rounds_next mix (T := tabX) tabX_ok (rcA_n a c hv ha hc ) (rcA_r a c hv ha hc ) (rcA_w a c hv ha hc ) kz1 hSz kz2 kz3 (fun _ => gz1), gz2⟩
    ·
      injection hf with hf; injection hf with e1 e2; subst e1; subst e2; have hb1 := rcA_p2 a c y0 y1 ; have hb2 := body_canonR hb1; have hb3 := hb2 ⟨hq0, trivial⟩; obtain ⟨sz1, kz1, kz2, kz3⟩ := hb3; exact ⟨rounds_end mix (T := tabX) tabX_ok (rcA_n a c hv ha hc ) (rcA_r a c hv ha hc ) (rcA_w a c hv ha hc ) kz1 (fun h => by cases h) hSz kz2 kz3, rcA_q2 a c y0 y1 ⟩
theorem rcA_ok (a c : Int) (hv : vlX a c = 0) (ha : 0 ≤ a ∧ a ≤ 255) (hc : 1 ≤ c ∧ c ≤ 8) (fu kk : Nat) (zz : List Int × Int) (hf : rcA_f a c fu [] ((1 : Int)) = some (kk, zz)) : ∀ B : Bd, B.L = knWordKnownL → LoopOk Tryd.prog B (rcA_hd a c).ro (rcA_hd a c).a (rcA_hd a c).s (rcA_X kk) (rcA_E kk a c zz.1 zz.2 ) := by
  obtain ⟨sb1, sb2, sb3, sb4⟩ := begin_open (rcA_e0 a c hv ha hc ) (rcA_e1 a c hv ha hc )
  have hSz := begin_step2 (rcA_n a c hv ha hc ) (rcA_r a c hv ha hc ) (rcA_w a c hv ha hc ) sb2 sb3 sb4
  obtain ⟨gz1, gz2⟩ := rcA_loop a c hv ha hc fu [] ((1 : Int)) kk zz hf hSz
  exact rounds_ok (rcA_n a c hv ha hc ) (Nat.le_of_ble_eq_true (by kernel_rfl)) gz2 (rounds_begin2 (rcA_n a c hv ha hc ) (rcA_r a c hv ha hc ) (rcA_w a c hv ha hc ) sb2 sb3 sb4 (fun _ => gz1))

noncomputable def rcK_c0 (a c : Int) (rcA_z0 : List Int) (rcA_z1 : Int)  : List Int := (rcA_z0.reverse)
theorem rcK_p0 (a c : Int) (rcA_z0 : List Int) (rcA_z1 : Int)  (hv : vlX a c = 0) (ha : 0 ≤ a ∧ a ≤ 255) (hc : 1 ≤ c ∧ c ≤ 8) (rcA_k1 : (vlX a c != (0 : Int)) = false) (rcA_l : ∀ B : Bd, B.L = knWordKnownL → LoopOk Tryd.prog B (rcA_hd a c).ro (rcA_hd a c).a (rcA_hd a c).s (rcA_X 0) (rcA_E 0 a c rcA_z0 rcA_z1 )) : KnownR Tryd.prog knWordKnownL 7 [.val (.int .i64 a), .val (.int .i64 c)] (.tuple #[(.complex .f64 0 ((rcA_z0.reverse)).length), (.int .i64 ((0 : Int)))]) [(rowA gI ((rcA_z0.reverse)), 3)] :=
  knownR_eq (v := Value.tuple { toList := [Value.complex FloatKind.f64 (nat_lit 0) rcA_z0.length, Value.int IntKind.i64 (0 : Int)] }) (bs := [(rowA gI rcA_z0.reverse, nat_lit 3)]) (open_resD mix (GOk.add tabX_ok rcA_l) (T := (GTab.add tabX 7 (rcA_hd a c).ro (rcA_hd a c).a (rcA_hd a c).s (rcA_X 0) (rcA_E 0 a c rcA_z0 rcA_z1 ) (by kernel_rfl))) (fuel := 3000) (es := [3]) (ans := [(1, .b 0), (2, .loop (rcA_X 0) (rcA_E 0 a c rcA_z0 rcA_z1 )), ]) (log := [LoopRes Tryd.prog (knWordKnownL : Vars).length (GTab.add tabX 7 (rcA_hd a c).ro (rcA_hd a c).a (rcA_hd a c).s (rcA_X 0) (rcA_E 0 a c rcA_z0 rcA_z1 ) (by kernel_rfl)) (rcA_hd a c).ro (rcA_hd a c).a (rcA_hd a c).s (rcA_X 0) (rcA_E 0 a c rcA_z0 rcA_z1 ), (vlX a c != (0 : Int)) = false]) (by kernel_rfl) ⟨(loop_known2 add_eq), rcA_k1, trivial⟩ (by kernel_rfl)) (by first | rfl | (simp; done) | (simp_all; done)) (by first | rfl | (simp [rowA_nil]; done) | (simp only [rowA_eq]; rfl) | (simp_all [rowA_nil]; done))
set_option maxHeartbeats 8000000 in
theorem rcK (a c : Int) (rcA_z0 : List Int) (rcA_z1 : Int)  (hv : vlX a c = 0) (ha : 0 ≤ a ∧ a ≤ 255) (hc : 1 ≤ c ∧ c ≤ 8) (rcA_k1 : (vlX a c != (0 : Int)) = false) (rcA_l : ∀ B : Bd, B.L = knWordKnownL → LoopOk Tryd.prog B (rcA_hd a c).ro (rcA_hd a c).a (rcA_hd a c).s (rcA_X 0) (rcA_E 0 a c rcA_z0 rcA_z1 )) : KnownR Tryd.prog knWordKnownL 7 [.val (.int .i64 a), .val (.int .i64 c)] (.tuple #[(.complex .f64 0 ((rcK_c0 a c rcA_z0 rcA_z1)).length), (.int .i64 ((0 : Int)))]) [(rowA gI ((rcK_c0 a c rcA_z0 rcA_z1)), 3)] := by
  have e0 : rcK_c0 a c rcA_z0 rcA_z1 = (rcA_z0.reverse) := rfl; rw [e0]; exact rcK_p0 a c rcA_z0 rcA_z1 hv ha hc rcA_k1 rcA_l

noncomputable def rcE_c1 (a c : Int) : Int := (vlX a c)
theorem rcE_p0 (a c : Int) (hv : ¬ vlX a c = 0) (hq0 : (vlX a c != (0 : Int)) = true) : KnownR Tryd.prog knWordKnownL 7 [.val (.int .i64 a), .val (.int .i64 c)] (.tuple #[(.complex .f64 0 ((([] : List Int))).length), (.int .i64 (vlX a c))]) [(rowA gI ((([] : List Int))), 3)] :=
  knownR_eq (v := Value.tuple { toList := [Value.complex FloatKind.f64 (nat_lit 0) (nat_lit 0), Value.int IntKind.i64 (vlX a c)] }) (bs := [({ toList := [] }, nat_lit 3)]) (open_resD mix tabX_ok (T := tabX) (fuel := 3000) (es := [3]) (ans := [(1, .b 1)]) (log := [(vlX a c != (0 : Int)) = true]) (by kernel_rfl) ⟨hq0, trivial⟩ (by kernel_rfl)) (by first | rfl | (simp; done) | (simp_all; done)) (by first | rfl | (simp [rowA_nil]; done) | (simp only [rowA_eq]; rfl) | (simp_all [rowA_nil]; done))
set_option maxHeartbeats 8000000 in
theorem rcE (a c : Int) (hv : ¬ vlX a c = 0) : KnownR Tryd.prog knWordKnownL 7 [.val (.int .i64 a), .val (.int .i64 c)] (.tuple #[(.complex .f64 0 ((([] : List Int))).length), (.int .i64 (rcE_c1 a c))]) [(rowA gI ((([] : List Int))), 3)] := by
  have hq0 : (vlX a c != (0 : Int)) = true := by
    rcases Bool.eq_false_or_eq_true (vlX a c != (0 : Int)) with h | h
    · exact h
    · exfalso; (first | (simp_all only [Bool.and_eq_true, Bool.not_eq_true', Bool.false_eq_true, Bool.true_eq_false, reduceCtorEq]; done) | (simp only [sx, sy, eq_self, ne_eq, IntKind.wrap_i64, wrapU64, Int.reduceLT] at * <;> first | contradiction | omega) | omega | ((try simp only [sx, sy, eq_self, ne_eq, IntKind.wrap_i64, wrapU64, Int.reduceLT] at *) <;> omega) | (simp_all; done))
  have e1 : rcE_c1 a c = (vlX a c) := rfl; rw [e1]; exact rcE_p0 a c hv hq0

noncomputable def rdA_hd (a b c : Int) : Hd := headD Tryd.prog knWordKnownL tabX 3000 14 [.val (.int .i64 a), .val (.int .i64 b), .val (.int .i64 c)] [(1, .b 0), (7, .b 0), (8, .stop)]
noncomputable def rdA_R (a b c : Int) (rc0 : Array Value) (rn0 : Nat) (y1 : Int) : St := (((entryR Tryd.prog [(.slot 8, 3)] 3 43 [31, 23, 35, 27, 33, 25, 21, 29, 32, 24, 20, 28, 34, 26, 22, 30] 0 0 (rdA_hd a b c).s).rows [(3, rc0, 3)]).updF [(8, .complex .f64 3 rn0), (9, .int .i64 y1)] [])
noncomputable def rdA_S (a b c : Int) (y0 : List Int) (y1 : Int) : St := rdA_R a b c (rowA gI y0.reverse) y0.length y1 
theorem rdA_n (a b c : Int) (hv : vlX a c = 0) (hw : vlX b c = 0) (ha : 0 ≤ a ∧ a ≤ 255) (hb : 0 ≤ b ∧ b ≤ 255) (hc : 1 ≤ c ∧ c ≤ 8) : 3 = (rdA_hd a b c).s.hs.next := by kernel_rfl
theorem rdA_r (a b c : Int) (hv : vlX a c = 0) (hw : vlX b c = 0) (ha : 0 ≤ a ∧ a ≤ 255) (hb : 0 ≤ b ∧ b ≤ 255) (hc : 1 ≤ c ∧ c ≤ 8) : (rdA_hd a b c).s.hs.rd < bitOf 3 := by
  have e : (rdA_hd a b c).s.hs.rd = 0 := by kernel_rfl
  rw [e]; exact blt_iff.1 (by kernel_rfl)
theorem rdA_w (a b c : Int) (hv : vlX a c = 0) (hw : vlX b c = 0) (ha : 0 ≤ a ∧ a ≤ 255) (hb : 0 ≤ b ∧ b ≤ 255) (hc : 1 ≤ c ∧ c ≤ 8) : (rdA_hd a b c).s.hs.wr < bitOf 3 := by
  have e : (rdA_hd a b c).s.hs.wr = 0 := by kernel_rfl
  rw [e]; exact blt_iff.1 (by kernel_rfl)
theorem rdA_e0 (a b c : Int) (hv : vlX a c = 0) (hw : vlX b c = 0) (ha : 0 ≤ a ∧ a ≤ 255) (hb : 0 ≤ b ∧ b ≤ 255) (hc : 1 ≤ c ∧ c ≤ 8) : beginS Tryd.prog [(.slot 8, 3)] 3 43 (sameB 3 1) [31, 23, 35, 27, 33, 25, 21, 29, 32, 24, 20, 28, 34, 26, 22, 30] 4 0 0 (rdA_hd a b c).s = some (rdA_S a b c [] ((1 : Int))) := by
  have h : beginS Tryd.prog [(.slot 8, 3)] 3 43 (sameB 3 1) [31, 23, 35, 27, 33, 25, 21, 29, 32, 24, 20, 28, 34, 26, 22, 30] 4 0 0 (rdA_hd a b c).s = some (rdA_R a b c #[] 0 ((1 : Int))) := by kernel_rfl
  refine h.trans (congrArg some ?_)
  show rdA_R a b c #[] 0 ((1 : Int)) = rdA_R a b c (rowA gI ([] : List Int).reverse) ([] : List Int).length ((1 : Int))
  all_goals first | (simp only [List.reverse_nil, rowA_nil, List.length_nil, List.reverse_reverse, List.length_reverse]; done) | rfl | (simp only [List.reverse_nil, rowA_nil, List.length_nil, List.reverse_reverse, List.length_reverse]; rfl)
theorem rdA_e1 (a b c : Int) (hv : vlX a c = 0) (hw : vlX b c = 0) (ha : 0 ≤ a ∧ a ≤ 255) (hb : 0 ≤ b ∧ b ≤ 255) (hc : 1 ≤ c ∧ c ≤ 8) : beginOk Tryd.prog [(.slot 8, 3)] 3 43 (sameB 3 1) 4 (rdA_hd a b c).s = true := by kernel_rfl
def rdA_X : Nat → VX
  | 0 => .exit 0
  | _ => .normal
noncomputable def rdA_E (kE : Nat) (a b c : Int) (y0 : List Int) (y1 : Int) : St := match kE with
  | 0 => (((bodySt (bodyR Tryd.prog (knWordKnownL : Vars).length tabX 3000 (rdA_hd a b c) (rdA_S a b c y0 y1 ) [(0, .b 0)] 3 43 [(3, 3)] [31, 23, 35, 27, 33, 25, 21, 29, 32, 24, 20, 28, 34, 26, 22, 30] 43 0 0)).rows [(3, rowA gI y0.reverse, 3)]).updF [(8, .complex .f64 3 y0.length), (9, .int .i64 y1)] [])
  | _ => (rdA_hd a b c).s
noncomputable def rdA_b1 (a b c : Int) (y0 : List Int) (y1 : Int) : Bool := decide ((0 : Int) ≤ a ∧ a ≤ (255 : Int) ∧ (1 : Int) ≤ y1 ∧ y1 ≤ (8 : Int))
noncomputable def rdA_b2 (a b c : Int) (y0 : List Int) (y1 : Int) : Bool := decide ((0 : Int) ≤ b ∧ b ≤ (255 : Int) ∧ (1 : Int) ≤ y1 ∧ y1 ≤ (8 : Int))
theorem rdA_p0 (a b c : Int) (y0 : List Int) (y1 : Int) : bodyR Tryd.prog (knWordKnownL : Vars).length tabX 3000 (rdA_hd a b c) (rdA_S a b c y0 y1 ) [(0, .b 1), (1, .b 1), (2, .b 1), (3, .b 1), (4, .b 1), (5, .yes), (6, .arr (rowA (gI) ((y1 :: y0).reverse)))] 3 43 [(5, 3)] [31, 23, 35, 27, 33, 25, 21, 29, 32, 24, 20, 28, 34, 26, 22, 30] 4 0 0 = some (.normal, (rdA_S a b c (y1 :: y0) (IntKind.i64.wrap (y1 + (1 : Int)))), [((rowA (gI) (y0.reverse)).toList ++ ([Value.int IntKind.i64 y1])).toArray = rowA (gI) ((y1 :: y0).reverse), ((rowA gI y0.reverse).size.beq (y0.length.mul Tryd.prog.types[(3 : Nat)].size)) = true, (decide ((y0.length + (1 : Nat)) * (8 : Nat) < (1000000000 : Nat))) = true, (!btB a y1 == btB b y1) = true, (rdA_b2 a b c y0 y1 ) = true, (rdA_b1 a b c y0 y1 ) = true, (decide (y1 ≤ c)) = true]) := by kernel_rfl
theorem rdA_p1 (a b c : Int) (y0 : List Int) (y1 : Int) : bodyR Tryd.prog (knWordKnownL : Vars).length tabX 3000 (rdA_hd a b c) (rdA_S a b c y0 y1 ) [(0, .b 1), (1, .b 1), (2, .b 1), (3, .b 0)] 3 43 [(3, 3)] [31, 23, 35, 27, 33, 25, 21, 29, 32, 24, 20, 28, 34, 26, 22, 30] 4 0 0 = some (.normal, (rdA_S a b c (y0) (IntKind.i64.wrap (y1 + (1 : Int)))), [(!btB a y1 == btB b y1) = false, (rdA_b2 a b c y0 y1 ) = true, (rdA_b1 a b c y0 y1 ) = true, (decide (y1 ≤ c)) = true]) := by kernel_rfl
theorem rdA_p2 (a b c : Int) (y0 : List Int) (y1 : Int) : bodyR Tryd.prog (knWordKnownL : Vars).length tabX 3000 (rdA_hd a b c) (rdA_S a b c y0 y1 ) [(0, .b 0)] 3 43 [(3, 3)] [31, 23, 35, 27, 33, 25, 21, 29, 32, 24, 20, 28, 34, 26, 22, 30] 43 0 0 = some (.exit 0, rdA_E 0 a b c (y0) (y1) , [(decide (y1 ≤ c)) = false]) := by kernel_rfl
theorem rdA_q2 (a b c : Int) (y0 : List Int) (y1 : Int) : (rdA_E 0 a b c (y0) (y1) ).hs.next = 43 := by kernel_rfl
theorem rdA_d0 (a b c : Int) (hv : vlX a c = 0) (hw : vlX b c = 0) (ha : 0 ≤ a ∧ a ≤ 255) (hb : 0 ≤ b ∧ b ≤ 255) (hc : 1 ≤ c ∧ c ≤ 8) (y0 : List Int) (y1 : Int) (hi : (decide (1 ≤ y1 ∧ y1 ≤ 9 ∧ (y0.length : Int) ≤ y1)) = true) (hq0 : (decide (y1 ≤ c)) = true) : (rdA_b1 a b c y0 y1 ) = true := by
  rcases Bool.eq_false_or_eq_true (rdA_b1 a b c y0 y1 ) with h | h
  · exact h
  · exfalso; (try simp only [rdA_b1] at *); (first | (simp_all only [Bool.and_eq_true, Bool.not_eq_true', Bool.false_eq_true, Bool.true_eq_false, reduceCtorEq]; done) | (simp only [sx, sy, eq_self, ne_eq, IntKind.wrap_i64, wrapU64, Int.reduceLT] at * <;> first | contradiction | omega) | omega | ((try simp only [sx, sy, eq_self, ne_eq, IntKind.wrap_i64, wrapU64, Int.reduceLT] at *) <;> omega) | (simp_all; done))
theorem rdA_d1 (a b c : Int) (hv : vlX a c = 0) (hw : vlX b c = 0) (ha : 0 ≤ a ∧ a ≤ 255) (hb : 0 ≤ b ∧ b ≤ 255) (hc : 1 ≤ c ∧ c ≤ 8) (y0 : List Int) (y1 : Int) (hi : (decide (1 ≤ y1 ∧ y1 ≤ 9 ∧ (y0.length : Int) ≤ y1)) = true) (hq0 : (decide (y1 ≤ c)) = true) (hq1 : (rdA_b1 a b c y0 y1 ) = true) : (rdA_b2 a b c y0 y1 ) = true := by
  rcases Bool.eq_false_or_eq_true (rdA_b2 a b c y0 y1 ) with h | h
  · exact h
  · exfalso; (try simp only [rdA_b2, rdA_b1] at *); (first | (simp_all only [Bool.and_eq_true, Bool.not_eq_true', Bool.false_eq_true, Bool.true_eq_false, reduceCtorEq]; done) | (simp only [sx, sy, eq_self, ne_eq, IntKind.wrap_i64, wrapU64, Int.reduceLT] at * <;> first | contradiction | omega) | omega | ((try simp only [sx, sy, eq_self, ne_eq, IntKind.wrap_i64, wrapU64, Int.reduceLT] at *) <;> omega) | (simp_all; done))
theorem rdA_d2 (a b c : Int) (hv : vlX a c = 0) (hw : vlX b c = 0) (ha : 0 ≤ a ∧ a ≤ 255) (hb : 0 ≤ b ∧ b ≤ 255) (hc : 1 ≤ c ∧ c ≤ 8) (y0 : List Int) (y1 : Int) (hi : (decide (1 ≤ y1 ∧ y1 ≤ 9 ∧ (y0.length : Int) ≤ y1)) = true) (hq0 : (decide (y1 ≤ c)) = true) (hq1 : (rdA_b1 a b c y0 y1 ) = true) (hq2 : (rdA_b2 a b c y0 y1 ) = true) (hq3 : (!btB a y1 == btB b y1) = true) : (decide ((y0.length + (1 : Nat)) * (8 : Nat) < (1000000000 : Nat))) = true := by
  rcases Bool.eq_false_or_eq_true (decide ((y0.length + (1 : Nat)) * (8 : Nat) < (1000000000 : Nat))) with h | h
  · exact h
  · exfalso; (try simp only [rdA_b1, rdA_b2] at *); (first | (simp_all only [Bool.and_eq_true, Bool.not_eq_true', Bool.false_eq_true, Bool.true_eq_false, reduceCtorEq]; done) | (simp only [sx, sy, eq_self, ne_eq, IntKind.wrap_i64, wrapU64, Int.reduceLT] at * <;> first | contradiction | omega) | omega | ((try simp only [sx, sy, eq_self, ne_eq, IntKind.wrap_i64, wrapU64, Int.reduceLT] at *) <;> omega) | (simp_all; done))
noncomputable def rdA_f (a b c : Int) : Nat → List Int → Int → Option (Nat × (List Int × Int))
  | 0, _, _ => none
  | fu + 1, y0, y1 => (bif (decide (1 ≤ y1 ∧ y1 ≤ 9 ∧ (y0.length : Int) ≤ y1)) then (bif (decide (y1 ≤ c)) then (bif (!btB a y1 == btB b y1) then rdA_f a b c fu (y1 :: y0) (IntKind.i64.wrap (y1 + (1 : Int))) else rdA_f a b c fu (y0) (IntKind.i64.wrap (y1 + (1 : Int)))) else some (0, ((y0), (y1)))) else none)
theorem rdA_fs (a b c : Int) (fu : Nat) (y0 : List Int) (y1 : Int) : rdA_f a b c (fu + 1) y0 y1 = (bif (decide (1 ≤ y1 ∧ y1 ≤ 9 ∧ (y0.length : Int) ≤ y1)) then (bif (decide (y1 ≤ c)) then (bif (!btB a y1 == btB b y1) then rdA_f a b c fu (y1 :: y0) (IntKind.i64.wrap (y1 + (1 : Int))) else rdA_f a b c fu (y0) (IntKind.i64.wrap (y1 + (1 : Int)))) else some (0, ((y0), (y1)))) else none) := rfl
theorem rdA_f0 (a b c : Int) (y0 : List Int) (y1 : Int) : rdA_f a b c 0 y0 y1 = none := rfl
theorem rdA_loop (a b c : Int) (hv : vlX a c = 0) (hw : vlX b c = 0) (ha : 0 ≤ a ∧ a ≤ 255) (hb : 0 ≤ b ∧ b ≤ 255) (hc : 1 ≤ c ∧ c ≤ 8) : ∀ (fu : Nat) (y0 : List Int) (y1 : Int) (kk : Nat) (zz : List Int × Int), rdA_f a b c fu y0 y1 = some (kk, zz) → VStep (rdA_hd a b c).s.hs (rdA_S a b c y0 y1 ).hs → RoundsC Tryd.prog knWordKnownL 3 43 (rdA_hd a b c).s.hs (rdA_hd a b c).ro (rdA_hd a b c).a (rdA_S a b c y0 y1 ) (rdA_X kk) (rdA_E kk a b c zz.1 zz.2 ) ∧ ((rdA_E kk a b c zz.1 zz.2 )).hs.next = 43 := by
  intro fu
  induction fu with
  | zero =>
    intro y0 y1 kk zz hf hSz
    have hf := (rdA_f0 a b c y0 y1 ).symm.trans hf
    simp at hf
  | succ fu ih =>
    intro y0 y1 kk zz hf hSz
    have hf := (rdA_fs a b c fu y0 y1 ).symm.trans hf
    rcases bif_or hf with ⟨hi, hf⟩ | ⟨hi, hf⟩
    case inr => cases hf
    rcases bif_or hf with ⟨hq0, hf⟩ | ⟨hq0, hf⟩
    ·
      have hq1 := rdA_d0 a b c hv hw ha hb hc y0 y1 hi hq0 
      have hq2 := rdA_d1 a b c hv hw ha hb hc y0 y1 hi hq0 hq1 
      rcases bif_or hf with ⟨hq3, hf⟩ | ⟨hq3, hf⟩
      ·
        have hq4 := rdA_d2 a b c hv hw ha hb hc y0 y1 hi hq0 hq1 hq2 hq3 
        have hb1 := rdA_p0 a b c y0 y1 ; have hb2 := body_canonR hb1; have hb3 := hb2 ⟨(row_snoc (g := (gI)) rfl), (fact_size (g := (gI)) (k := 1) (fun _ => rfl) (by first | (simp; done) | (simp only [Nat.add_eq, Nat.sub_eq, List.length_take, List.length_drop, List.length_append, List.length_cons, List.length_nil, List.length_reverse, List.length_set]; omega) | (have hx2 := of_decide_eq_true hi; simp only [List.length_reverse, List.length_set] at *; omega))), hq4, hq3, hq2, hq1, hq0, trivial⟩; obtain ⟨sz1, kz1, kz2, kz3⟩ := hb3; obtain ⟨gz1, gz2⟩ := ih (y1 :: y0) (IntKind.i64.wrap (y1 + (1 : Int))) kk zz hf (rounds_step mix (T := tabX) tabX_ok (rdA_n a b c hv hw ha hb hc ) (rdA_r a b c hv hw ha hb hc ) (rdA_w a b c hv hw ha hb hc ) kz1 hSz kz2 kz3); exact ⟨rounds_next mix (T := tabX) tabX_ok (rdA_n a b c hv hw ha hb hc ) (rdA_r a b c hv hw ha hb hc ) (rdA_w a b c hv hw ha hb hc ) kz1 hSz kz2 kz3 (fun _ => gz1), gz2⟩
      ·
        have hb1 := rdA_p1 a b c y0 y1 ; have hb2 := body_canonR hb1; have hb3 := hb2 ⟨hq3, hq2, hq1, hq0, trivial⟩; obtain ⟨sz1, kz1, kz2, kz3⟩ := hb3; obtain ⟨gz1, gz2⟩ := ih (y0) (IntKind.i64.wrap (y1 + (1 : Int))) kk zz hf (rounds_step mix (T := tabX) tabX_ok (rdA_n a b c hv hw ha hb hc ) (rdA_r a b c hv hw ha hb hc ) (rdA_w a b c hv hw ha hb hc ) kz1 hSz kz2 kz3); exact ⟨rounds_next mix (T := tabX) tabX_ok (rdA_n a b c hv hw ha hb hc ) (rdA_r a b c hv hw ha hb hc ) (rdA_w a b c hv hw ha hb hc ) kz1 hSz kz2 kz3 (fun _ => gz1), gz2⟩
    ·
      injection hf with hf; injection hf with e1 e2; subst e1; subst e2; have hb1 := rdA_p2 a b c y0 y1 ; have hb2 := body_canonR hb1; have hb3 := hb2 ⟨hq0, trivial⟩; obtain ⟨sz1, kz1, kz2, kz3⟩ := hb3; exact ⟨rounds_end mix (T := tabX) tabX_ok (rdA_n a b c hv hw ha hb hc ) (rdA_r a b c hv hw ha hb hc ) (rdA_w a b c hv hw ha hb hc ) kz1 (fun h => by cases h) hSz kz2 kz3, rdA_q2 a b c y0 y1 ⟩
theorem rdA_ok (a b c : Int) (hv : vlX a c = 0) (hw : vlX b c = 0) (ha : 0 ≤ a ∧ a ≤ 255) (hb : 0 ≤ b ∧ b ≤ 255) (hc : 1 ≤ c ∧ c ≤ 8) (fu kk : Nat) (zz : List Int × Int) (hf : rdA_f a b c fu [] ((1 : Int)) = some (kk, zz)) : ∀ B : Bd, B.L = knWordKnownL → LoopOk Tryd.prog B (rdA_hd a b c).ro (rdA_hd a b c).a (rdA_hd a b c).s (rdA_X kk) (rdA_E kk a b c zz.1 zz.2 ) := by
  obtain ⟨sb1, sb2, sb3, sb4⟩ := begin_open (rdA_e0 a b c hv hw ha hb hc ) (rdA_e1 a b c hv hw ha hb hc )
  have hSz := begin_step2 (rdA_n a b c hv hw ha hb hc ) (rdA_r a b c hv hw ha hb hc ) (rdA_w a b c hv hw ha hb hc ) sb2 sb3 sb4
  obtain ⟨gz1, gz2⟩ := rdA_loop a b c hv hw ha hb hc fu [] ((1 : Int)) kk zz hf hSz
  exact rounds_ok (rdA_n a b c hv hw ha hb hc ) (Nat.le_of_ble_eq_true (by kernel_rfl)) gz2 (rounds_begin2 (rdA_n a b c hv hw ha hb hc ) (rdA_r a b c hv hw ha hb hc ) (rdA_w a b c hv hw ha hb hc ) sb2 sb3 sb4 (fun _ => gz1))

noncomputable def rdK_c0 (a b c : Int) (rdA_z0 : List Int) (rdA_z1 : Int)  : List Int := (rdA_z0.reverse)
theorem rdK_p0 (a b c : Int) (rdA_z0 : List Int) (rdA_z1 : Int)  (hv : vlX a c = 0) (hw : vlX b c = 0) (ha : 0 ≤ a ∧ a ≤ 255) (hb : 0 ≤ b ∧ b ≤ 255) (hc : 1 ≤ c ∧ c ≤ 8) (rdA_k1 : (vlX a c != (0 : Int)) = false) (rdA_k7 : (vlX b c != (0 : Int)) = false) (rdA_l : ∀ B : Bd, B.L = knWordKnownL → LoopOk Tryd.prog B (rdA_hd a b c).ro (rdA_hd a b c).a (rdA_hd a b c).s (rdA_X 0) (rdA_E 0 a b c rdA_z0 rdA_z1 )) : KnownR Tryd.prog knWordKnownL 14 [.val (.int .i64 a), .val (.int .i64 b), .val (.int .i64 c)] (.tuple #[(.complex .f64 0 ((rdA_z0.reverse)).length), (.int .i64 ((0 : Int)))]) [(rowA gI ((rdA_z0.reverse)), 3)] :=
  knownR_eq (v := Value.tuple { toList := [Value.complex FloatKind.f64 (nat_lit 0) rdA_z0.length, Value.int IntKind.i64 (0 : Int)] }) (bs := [(rowA gI rdA_z0.reverse, nat_lit 3)]) (open_resD mix (GOk.add tabX_ok rdA_l) (T := (GTab.add tabX 6 (rdA_hd a b c).ro (rdA_hd a b c).a (rdA_hd a b c).s (rdA_X 0) (rdA_E 0 a b c rdA_z0 rdA_z1 ) (by kernel_rfl))) (fuel := 3000) (es := [3]) (ans := [(1, .b 0), (7, .b 0), (8, .loop (rdA_X 0) (rdA_E 0 a b c rdA_z0 rdA_z1 )), ]) (log := [LoopRes Tryd.prog (knWordKnownL : Vars).length (GTab.add tabX 6 (rdA_hd a b c).ro (rdA_hd a b c).a (rdA_hd a b c).s (rdA_X 0) (rdA_E 0 a b c rdA_z0 rdA_z1 ) (by kernel_rfl)) (rdA_hd a b c).ro (rdA_hd a b c).a (rdA_hd a b c).s (rdA_X 0) (rdA_E 0 a b c rdA_z0 rdA_z1 ), (vlX b c != (0 : Int)) = false, (vlX a c != (0 : Int)) = false]) (by kernel_rfl) ⟨(loop_known2 add_eq), rdA_k7, rdA_k1, trivial⟩ (by kernel_rfl)) (by first | rfl | (simp; done) | (simp_all; done)) (by first | rfl | (simp [rowA_nil]; done) | (simp only [rowA_eq]; rfl) | (simp_all [rowA_nil]; done))
set_option maxHeartbeats 8000000 in
theorem rdK (a b c : Int) (rdA_z0 : List Int) (rdA_z1 : Int)  (hv : vlX a c = 0) (hw : vlX b c = 0) (ha : 0 ≤ a ∧ a ≤ 255) (hb : 0 ≤ b ∧ b ≤ 255) (hc : 1 ≤ c ∧ c ≤ 8) (rdA_k1 : (vlX a c != (0 : Int)) = false) (rdA_k7 : (vlX b c != (0 : Int)) = false) (rdA_l : ∀ B : Bd, B.L = knWordKnownL → LoopOk Tryd.prog B (rdA_hd a b c).ro (rdA_hd a b c).a (rdA_hd a b c).s (rdA_X 0) (rdA_E 0 a b c rdA_z0 rdA_z1 )) : KnownR Tryd.prog knWordKnownL 14 [.val (.int .i64 a), .val (.int .i64 b), .val (.int .i64 c)] (.tuple #[(.complex .f64 0 ((rdK_c0 a b c rdA_z0 rdA_z1)).length), (.int .i64 ((0 : Int)))]) [(rowA gI ((rdK_c0 a b c rdA_z0 rdA_z1)), 3)] := by
  have e0 : rdK_c0 a b c rdA_z0 rdA_z1 = (rdA_z0.reverse) := rfl; rw [e0]; exact rdK_p0 a b c rdA_z0 rdA_z1 hv hw ha hb hc rdA_k1 rdA_k7 rdA_l

theorem rdE_p0 (a b c : Int) (hv : ¬ (vlX a c = 0 ∧ vlX b c = 0)) (hq0 : (vlX a c != (0 : Int)) = true) : KnownR Tryd.prog knWordKnownL 14 [.val (.int .i64 a), .val (.int .i64 b), .val (.int .i64 c)] (.tuple #[(.complex .f64 0 ((([] : List Int))).length), (.int .i64 ((2 : Int)))]) [(rowA gI ((([] : List Int))), 3)] :=
  knownR_eq (v := Value.tuple { toList := [Value.complex FloatKind.f64 (nat_lit 0) (nat_lit 0), Value.int IntKind.i64 (2 : Int)] }) (bs := [({ toList := [] }, nat_lit 3)]) (open_resD mix tabX_ok (T := tabX) (fuel := 3000) (es := [3]) (ans := [(1, .b 1)]) (log := [(vlX a c != (0 : Int)) = true]) (by kernel_rfl) ⟨hq0, trivial⟩ (by kernel_rfl)) (by first | rfl | (simp; done) | (simp_all; done)) (by first | rfl | (simp [rowA_nil]; done) | (simp only [rowA_eq]; rfl) | (simp_all [rowA_nil]; done))
theorem rdE_p1 (a b c : Int) (hv : ¬ (vlX a c = 0 ∧ vlX b c = 0)) (hq0 : (vlX a c != (0 : Int)) = false) (hq1 : (vlX b c != (0 : Int)) = true) : KnownR Tryd.prog knWordKnownL 14 [.val (.int .i64 a), .val (.int .i64 b), .val (.int .i64 c)] (.tuple #[(.complex .f64 0 ((([] : List Int))).length), (.int .i64 ((2 : Int)))]) [(rowA gI ((([] : List Int))), 3)] :=
  knownR_eq (v := Value.tuple { toList := [Value.complex FloatKind.f64 (nat_lit 0) (nat_lit 0), Value.int IntKind.i64 (2 : Int)] }) (bs := [({ toList := [] }, nat_lit 3)]) (open_resD mix tabX_ok (T := tabX) (fuel := 3000) (es := [3]) (ans := [(1, .b 0), (7, .b 1)]) (log := [(vlX b c != (0 : Int)) = true, (vlX a c != (0 : Int)) = false]) (by kernel_rfl) ⟨hq1, hq0, trivial⟩ (by kernel_rfl)) (by first | rfl | (simp; done) | (simp_all; done)) (by first | rfl | (simp [rowA_nil]; done) | (simp only [rowA_eq]; rfl) | (simp_all [rowA_nil]; done))
set_option maxHeartbeats 8000000 in
theorem rdE (a b c : Int) (hv : ¬ (vlX a c = 0 ∧ vlX b c = 0)) : KnownR Tryd.prog knWordKnownL 14 [.val (.int .i64 a), .val (.int .i64 b), .val (.int .i64 c)] (.tuple #[(.complex .f64 0 ((([] : List Int))).length), (.int .i64 ((2 : Int)))]) [(rowA gI ((([] : List Int))), 3)] := by
  rcases Bool.eq_false_or_eq_true (vlX a c != (0 : Int)) with hq0 | hq0
  ·
    exact rdE_p0 a b c hv hq0
  ·
    have hq1 : (vlX b c != (0 : Int)) = true := by
      rcases Bool.eq_false_or_eq_true (vlX b c != (0 : Int)) with h | h
      · exact h
      · exfalso; (first | (simp_all only [Bool.and_eq_true, Bool.not_eq_true', Bool.false_eq_true, Bool.true_eq_false, reduceCtorEq]; done) | (simp only [sx, sy, eq_self, ne_eq, IntKind.wrap_i64, wrapU64, Int.reduceLT] at * <;> first | contradiction | omega) | omega | ((try simp only [sx, sy, eq_self, ne_eq, IntKind.wrap_i64, wrapU64, Int.reduceLT] at *) <;> omega) | (simp_all; done))
    exact rdE_p1 a b c hv hq0 hq1

noncomputable def cw1_b4 (c a : Int) : Bool := !decide (a ≤ IntKind.i64.wrap (IntKind.i64.wrap ((1 : Int) * (2 : Int) ^ min (IntKind.u64.wrap c).toNat (64 : Nat)) - (1 : Int)))
noncomputable def cw1_c0 (c a : Int) : Int := (bif (decide (c ≥ (1 : Int))) then (bif (!decide (c ≤ (8 : Int))) then ((2 : Int)) else (bif (decide (a ≥ (0 : Int))) then (bif (!decide (a ≤ IntKind.i64.wrap (IntKind.i64.wrap ((1 : Int) * (2 : Int) ^ min (IntKind.u64.wrap c).toNat (64 : Nat)) - (1 : Int)))) then ((2 : Int)) else ((0 : Int))) else ((2 : Int)))) else ((2 : Int)))
theorem cw1_p0 (c a : Int)  (hq0 : (decide (c ≥ (1 : Int))) = true) (hq1 : (!decide (c ≤ (8 : Int))) = true) : KnownR Tryd.prog knWordKnownL 22 [.val (.int .i64 c), .list (⟨[.int .i64 a]⟩ : Array Value) 1] (.int .i64 ((2 : Int))) [] :=
  knownR_eq (v := Value.int IntKind.i64 (2 : Int)) (bs := []) (open_resD mix GOk.none (T := GTab.none) (fuel := 3000) (es := []) (ans := [(0, .b 1), (4, .b 1)]) (log := [(!decide (c ≤ (8 : Int))) = true, (decide (c ≥ (1 : Int))) = true]) (by kernel_rfl) ⟨hq1, hq0, trivial⟩ (by kernel_rfl)) (by first | rfl | (simp; done) | (simp_all; done)) (by first | rfl | (simp [rowA_nil]; done) | (simp only [rowA_eq]; rfl) | (simp_all [rowA_nil]; done))
theorem cw1_p1 (c a : Int)  (hq0 : (decide (c ≥ (1 : Int))) = true) (hq1 : (!decide (c ≤ (8 : Int))) = false) (hq2 : (decide (IntKind.u64.wrap c < (0 : Int))) = false) (hq3 : (decide (a ≥ (0 : Int))) = true) (hq4 : (cw1_b4 c a) = true) : KnownR Tryd.prog knWordKnownL 22 [.val (.int .i64 c), .list (⟨[.int .i64 a]⟩ : Array Value) 1] (.int .i64 ((2 : Int))) [] :=
  knownR_eq (v := Value.int IntKind.i64 (2 : Int)) (bs := []) (open_resD mix GOk.none (T := GTab.none) (fuel := 3000) (es := []) (ans := [(0, .b 1), (4, .b 0), (10, .b 0), (11, .b 1), (15, .b 1)]) (log := [(cw1_b4 c a) = true, (decide (a ≥ (0 : Int))) = true, (decide (IntKind.u64.wrap c < (0 : Int))) = false, (!decide (c ≤ (8 : Int))) = false, (decide (c ≥ (1 : Int))) = true]) (by kernel_rfl) ⟨hq4, hq3, hq2, hq1, hq0, trivial⟩ (by kernel_rfl)) (by first | rfl | (simp; done) | (simp_all; done)) (by first | rfl | (simp [rowA_nil]; done) | (simp only [rowA_eq]; rfl) | (simp_all [rowA_nil]; done))
theorem cw1_p2 (c a : Int)  (hq0 : (decide (c ≥ (1 : Int))) = true) (hq1 : (!decide (c ≤ (8 : Int))) = false) (hq2 : (decide (IntKind.u64.wrap c < (0 : Int))) = false) (hq3 : (decide (a ≥ (0 : Int))) = true) (hq4 : (cw1_b4 c a) = false) : KnownR Tryd.prog knWordKnownL 22 [.val (.int .i64 c), .list (⟨[.int .i64 a]⟩ : Array Value) 1] (.int .i64 ((0 : Int))) [] :=
  knownR_eq (v := Value.int IntKind.i64 (0 : Int)) (bs := []) (open_resD mix GOk.none (T := GTab.none) (fuel := 3000) (es := []) (ans := [(0, .b 1), (4, .b 0), (10, .b 0), (11, .b 1), (15, .b 0)]) (log := [(cw1_b4 c a) = false, (decide (a ≥ (0 : Int))) = true, (decide (IntKind.u64.wrap c < (0 : Int))) = false, (!decide (c ≤ (8 : Int))) = false, (decide (c ≥ (1 : Int))) = true]) (by kernel_rfl) ⟨hq4, hq3, hq2, hq1, hq0, trivial⟩ (by kernel_rfl)) (by first | rfl | (simp; done) | (simp_all; done)) (by first | rfl | (simp [rowA_nil]; done) | (simp only [rowA_eq]; rfl) | (simp_all [rowA_nil]; done))
theorem cw1_p3 (c a : Int)  (hq0 : (decide (c ≥ (1 : Int))) = true) (hq1 : (!decide (c ≤ (8 : Int))) = false) (hq2 : (decide (IntKind.u64.wrap c < (0 : Int))) = false) (hq3 : (decide (a ≥ (0 : Int))) = false) : KnownR Tryd.prog knWordKnownL 22 [.val (.int .i64 c), .list (⟨[.int .i64 a]⟩ : Array Value) 1] (.int .i64 ((2 : Int))) [] :=
  knownR_eq (v := Value.int IntKind.i64 (2 : Int)) (bs := []) (open_resD mix GOk.none (T := GTab.none) (fuel := 3000) (es := []) (ans := [(0, .b 1), (4, .b 0), (10, .b 0), (11, .b 0)]) (log := [(decide (a ≥ (0 : Int))) = false, (decide (IntKind.u64.wrap c < (0 : Int))) = false, (!decide (c ≤ (8 : Int))) = false, (decide (c ≥ (1 : Int))) = true]) (by kernel_rfl) ⟨hq3, hq2, hq1, hq0, trivial⟩ (by kernel_rfl)) (by first | rfl | (simp; done) | (simp_all; done)) (by first | rfl | (simp [rowA_nil]; done) | (simp only [rowA_eq]; rfl) | (simp_all [rowA_nil]; done))
theorem cw1_p4 (c a : Int)  (hq0 : (decide (c ≥ (1 : Int))) = false) : KnownR Tryd.prog knWordKnownL 22 [.val (.int .i64 c), .list (⟨[.int .i64 a]⟩ : Array Value) 1] (.int .i64 ((2 : Int))) [] :=
  knownR_eq (v := Value.int IntKind.i64 (2 : Int)) (bs := []) (open_resD mix GOk.none (T := GTab.none) (fuel := 3000) (es := []) (ans := [(0, .b 0)]) (log := [(decide (c ≥ (1 : Int))) = false]) (by kernel_rfl) ⟨hq0, trivial⟩ (by kernel_rfl)) (by first | rfl | (simp; done) | (simp_all; done)) (by first | rfl | (simp [rowA_nil]; done) | (simp only [rowA_eq]; rfl) | (simp_all [rowA_nil]; done))
set_option maxHeartbeats 8000000 in
theorem cw1 (c a : Int)  : KnownR Tryd.prog knWordKnownL 22 [.val (.int .i64 c), .list (⟨[.int .i64 a]⟩ : Array Value) 1] (.int .i64 (cw1_c0 c a)) [] := by
  rcases Bool.eq_false_or_eq_true (decide (c ≥ (1 : Int))) with hq0 | hq0
  ·
    rcases Bool.eq_false_or_eq_true (!decide (c ≤ (8 : Int))) with hq1 | hq1
    ·
      have e0 : cw1_c0 c a = ((2 : Int)) := ((bif_t hq0 _ _).trans ((bif_t hq1 _ _).trans rfl)); rw [e0]; exact cw1_p0 c a hq0 hq1
    ·
      have hq2 : (decide (IntKind.u64.wrap c < (0 : Int))) = false := by
        rcases Bool.eq_false_or_eq_true (decide (IntKind.u64.wrap c < (0 : Int))) with h | h
        · exfalso; (try simp only [cw1_b4] at *); (first | (simp_all only [Bool.and_eq_true, Bool.not_eq_true', Bool.false_eq_true, Bool.true_eq_false, reduceCtorEq]; done) | (simp only [sx, sy, eq_self, ne_eq, IntKind.wrap_i64, wrapU64, Int.reduceLT] at * <;> first | contradiction | omega) | omega | ((try simp only [sx, sy, eq_self, ne_eq, IntKind.wrap_i64, wrapU64, Int.reduceLT] at *) <;> omega) | (simp_all; done))
        · exact h
      rcases Bool.eq_false_or_eq_true (decide (a ≥ (0 : Int))) with hq3 | hq3
      ·
        rcases Bool.eq_false_or_eq_true (cw1_b4 c a) with hq4 | hq4
        ·
          have e0 : cw1_c0 c a = ((2 : Int)) := ((bif_t hq0 _ _).trans ((bif_f hq1 _ _).trans ((bif_t hq3 _ _).trans ((bif_t hq4 _ _).trans rfl)))); rw [e0]; exact cw1_p1 c a hq0 hq1 hq2 hq3 hq4
        ·
          have e0 : cw1_c0 c a = ((0 : Int)) := ((bif_t hq0 _ _).trans ((bif_f hq1 _ _).trans ((bif_t hq3 _ _).trans ((bif_f hq4 _ _).trans rfl)))); rw [e0]; exact cw1_p2 c a hq0 hq1 hq2 hq3 hq4
      ·
        have e0 : cw1_c0 c a = ((2 : Int)) := ((bif_t hq0 _ _).trans ((bif_f hq1 _ _).trans ((bif_f hq3 _ _).trans rfl))); rw [e0]; exact cw1_p3 c a hq0 hq1 hq2 hq3
  ·
    have e0 : cw1_c0 c a = ((2 : Int)) := ((bif_f hq0 _ _).trans rfl); rw [e0]; exact cw1_p4 c a hq0

noncomputable def cw2_b4 (c a b : Int) : Bool := !decide (a ≤ IntKind.i64.wrap (IntKind.i64.wrap ((1 : Int) * (2 : Int) ^ min (IntKind.u64.wrap c).toNat (64 : Nat)) - (1 : Int)))
noncomputable def cw2_b6 (c a b : Int) : Bool := !decide (b ≤ IntKind.i64.wrap (IntKind.i64.wrap ((1 : Int) * (2 : Int) ^ min (IntKind.u64.wrap c).toNat (64 : Nat)) - (1 : Int)))
noncomputable def cw2_c0 (c a b : Int) : Int := (bif (decide (c ≥ (1 : Int))) then (bif (!decide (c ≤ (8 : Int))) then ((2 : Int)) else (bif (decide (a ≥ (0 : Int))) then (bif (!decide (a ≤ IntKind.i64.wrap (IntKind.i64.wrap ((1 : Int) * (2 : Int) ^ min (IntKind.u64.wrap c).toNat (64 : Nat)) - (1 : Int)))) then ((2 : Int)) else (bif (decide (b ≥ (0 : Int))) then (bif (!decide (b ≤ IntKind.i64.wrap (IntKind.i64.wrap ((1 : Int) * (2 : Int) ^ min (IntKind.u64.wrap c).toNat (64 : Nat)) - (1 : Int)))) then ((2 : Int)) else ((0 : Int))) else ((2 : Int)))) else ((2 : Int)))) else ((2 : Int)))
theorem cw2_p0 (c a b : Int)  (hq0 : (decide (c ≥ (1 : Int))) = true) (hq1 : (!decide (c ≤ (8 : Int))) = true) : KnownR Tryd.prog knWordKnownL 22 [.val (.int .i64 c), .list (⟨[.int .i64 a, .int .i64 b]⟩ : Array Value) 2] (.int .i64 ((2 : Int))) [] :=
  knownR_eq (v := Value.int IntKind.i64 (2 : Int)) (bs := []) (open_resD mix GOk.none (T := GTab.none) (fuel := 3000) (es := []) (ans := [(0, .b 1), (4, .b 1)]) (log := [(!decide (c ≤ (8 : Int))) = true, (decide (c ≥ (1 : Int))) = true]) (by kernel_rfl) ⟨hq1, hq0, trivial⟩ (by kernel_rfl)) (by first | rfl | (simp; done) | (simp_all; done)) (by first | rfl | (simp [rowA_nil]; done) | (simp only [rowA_eq]; rfl) | (simp_all [rowA_nil]; done))
theorem cw2_p1 (c a b : Int)  (hq0 : (decide (c ≥ (1 : Int))) = true) (hq1 : (!decide (c ≤ (8 : Int))) = false) (hq2 : (decide (IntKind.u64.wrap c < (0 : Int))) = false) (hq3 : (decide (a ≥ (0 : Int))) = true) (hq4 : (cw2_b4 c a b) = true) : KnownR Tryd.prog knWordKnownL 22 [.val (.int .i64 c), .list (⟨[.int .i64 a, .int .i64 b]⟩ : Array Value) 2] (.int .i64 ((2 : Int))) [] :=
  knownR_eq (v := Value.int IntKind.i64 (2 : Int)) (bs := []) (open_resD mix GOk.none (T := GTab.none) (fuel := 3000) (es := []) (ans := [(0, .b 1), (4, .b 0), (10, .b 0), (11, .b 1), (15, .b 1)]) (log := [(cw2_b4 c a b) = true, (decide (a ≥ (0 : Int))) = true, (decide (IntKind.u64.wrap c < (0 : Int))) = false, (!decide (c ≤ (8 : Int))) = false, (decide (c ≥ (1 : Int))) = true]) (by kernel_rfl) ⟨hq4, hq3, hq2, hq1, hq0, trivial⟩ (by kernel_rfl)) (by first | rfl | (simp; done) | (simp_all; done)) (by first | rfl | (simp [rowA_nil]; done) | (simp only [rowA_eq]; rfl) | (simp_all [rowA_nil]; done))
theorem cw2_p2 (c a b : Int)  (hq0 : (decide (c ≥ (1 : Int))) = true) (hq1 : (!decide (c ≤ (8 : Int))) = false) (hq2 : (decide (IntKind.u64.wrap c < (0 : Int))) = false) (hq3 : (decide (a ≥ (0 : Int))) = true) (hq4 : (cw2_b4 c a b) = false) (hq5 : (decide (b ≥ (0 : Int))) = true) (hq6 : (cw2_b6 c a b) = true) : KnownR Tryd.prog knWordKnownL 22 [.val (.int .i64 c), .list (⟨[.int .i64 a, .int .i64 b]⟩ : Array Value) 2] (.int .i64 ((2 : Int))) [] :=
  knownR_eq (v := Value.int IntKind.i64 (2 : Int)) (bs := []) (open_resD mix GOk.none (T := GTab.none) (fuel := 3000) (es := []) (ans := [(0, .b 1), (4, .b 0), (10, .b 0), (11, .b 1), (15, .b 0), (21, .b 0), (22, .b 1), (26, .b 1)]) (log := [(cw2_b6 c a b) = true, (decide (b ≥ (0 : Int))) = true, (decide (IntKind.u64.wrap c < (0 : Int))) = false, (cw2_b4 c a b) = false, (decide (a ≥ (0 : Int))) = true, (decide (IntKind.u64.wrap c < (0 : Int))) = false, (!decide (c ≤ (8 : Int))) = false, (decide (c ≥ (1 : Int))) = true]) (by kernel_rfl) ⟨hq6, hq5, hq2, hq4, hq3, hq2, hq1, hq0, trivial⟩ (by kernel_rfl)) (by first | rfl | (simp; done) | (simp_all; done)) (by first | rfl | (simp [rowA_nil]; done) | (simp only [rowA_eq]; rfl) | (simp_all [rowA_nil]; done))
theorem cw2_p3 (c a b : Int)  (hq0 : (decide (c ≥ (1 : Int))) = true) (hq1 : (!decide (c ≤ (8 : Int))) = false) (hq2 : (decide (IntKind.u64.wrap c < (0 : Int))) = false) (hq3 : (decide (a ≥ (0 : Int))) = true) (hq4 : (cw2_b4 c a b) = false) (hq5 : (decide (b ≥ (0 : Int))) = true) (hq6 : (cw2_b6 c a b) = false) : KnownR Tryd.prog knWordKnownL 22 [.val (.int .i64 c), .list (⟨[.int .i64 a, .int .i64 b]⟩ : Array Value) 2] (.int .i64 ((0 : Int))) [] :=
  knownR_eq (v := Value.int IntKind.i64 (0 : Int)) (bs := []) (open_resD mix GOk.none (T := GTab.none) (fuel := 3000) (es := []) (ans := [(0, .b 1), (4, .b 0), (10, .b 0), (11, .b 1), (15, .b 0), (21, .b 0), (22, .b 1), (26, .b 0)]) (log := [(cw2_b6 c a b) = false, (decide (b ≥ (0 : Int))) = true, (decide (IntKind.u64.wrap c < (0 : Int))) = false, (cw2_b4 c a b) = false, (decide (a ≥ (0 : Int))) = true, (decide (IntKind.u64.wrap c < (0 : Int))) = false, (!decide (c ≤ (8 : Int))) = false, (decide (c ≥ (1 : Int))) = true]) (by kernel_rfl) ⟨hq6, hq5, hq2, hq4, hq3, hq2, hq1, hq0, trivial⟩ (by kernel_rfl)) (by first | rfl | (simp; done) | (simp_all; done)) (by first | rfl | (simp [rowA_nil]; done) | (simp only [rowA_eq]; rfl) | (simp_all [rowA_nil]; done))
theorem cw2_p4 (c a b : Int)  (hq0 : (decide (c ≥ (1 : Int))) = true) (hq1 : (!decide (c ≤ (8 : Int))) = false) (hq2 : (decide (IntKind.u64.wrap c < (0 : Int))) = false) (hq3 : (decide (a ≥ (0 : Int))) = true) (hq4 : (cw2_b4 c a b) = false) (hq5 : (decide (b ≥ (0 : Int))) = false) : KnownR Tryd.prog knWordKnownL 22 [.val (.int .i64 c), .list (⟨[.int .i64 a, .int .i64 b]⟩ : Array Value) 2] (.int .i64 ((2 : Int))) [] :=
  knownR_eq (v := Value.int IntKind.i64 (2 : Int)) (bs := []) (open_resD mix GOk.none (T := GTab.none) (fuel := 3000) (es := []) (ans := [(0, .b 1), (4, .b 0), (10, .b 0), (11, .b 1), (15, .b 0), (21, .b 0), (22, .b 0)]) (log := [(decide (b ≥ (0 : Int))) = false, (decide (IntKind.u64.wrap c < (0 : Int))) = false, (cw2_b4 c a b) = false, (decide (a ≥ (0 : Int))) = true, (decide (IntKind.u64.wrap c < (0 : Int))) = false, (!decide (c ≤ (8 : Int))) = false, (decide (c ≥ (1 : Int))) = true]) (by kernel_rfl) ⟨hq5, hq2, hq4, hq3, hq2, hq1, hq0, trivial⟩ (by kernel_rfl)) (by first | rfl | (simp; done) | (simp_all; done)) (by first | rfl | (simp [rowA_nil]; done) | (simp only [rowA_eq]; rfl) | (simp_all [rowA_nil]; done))
theorem cw2_p5 (c a b : Int)  (hq0 : (decide (c ≥ (1 : Int))) = true) (hq1 : (!decide (c ≤ (8 : Int))) = false) (hq2 : (decide (IntKind.u64.wrap c < (0 : Int))) = false) (hq3 : (decide (a ≥ (0 : Int))) = false) : KnownR Tryd.prog knWordKnownL 22 [.val (.int .i64 c), .list (⟨[.int .i64 a, .int .i64 b]⟩ : Array Value) 2] (.int .i64 ((2 : Int))) [] :=
  knownR_eq (v := Value.int IntKind.i64 (2 : Int)) (bs := []) (open_resD mix GOk.none (T := GTab.none) (fuel := 3000) (es := []) (ans := [(0, .b 1), (4, .b 0), (10, .b 0), (11, .b 0)]) (log := [(decide (a ≥ (0 : Int))) = false, (decide (IntKind.u64.wrap c < (0 : Int))) = false, (!decide (c ≤ (8 : Int))) = false, (decide (c ≥ (1 : Int))) = true]) (by kernel_rfl) ⟨hq3, hq2, hq1, hq0, trivial⟩ (by kernel_rfl)) (by first | rfl | (simp; done) | (simp_all; done)) (by first | rfl | (simp [rowA_nil]; done) | (simp only [rowA_eq]; rfl) | (simp_all [rowA_nil]; done))
theorem cw2_p6 (c a b : Int)  (hq0 : (decide (c ≥ (1 : Int))) = false) : KnownR Tryd.prog knWordKnownL 22 [.val (.int .i64 c), .list (⟨[.int .i64 a, .int .i64 b]⟩ : Array Value) 2] (.int .i64 ((2 : Int))) [] :=
  knownR_eq (v := Value.int IntKind.i64 (2 : Int)) (bs := []) (open_resD mix GOk.none (T := GTab.none) (fuel := 3000) (es := []) (ans := [(0, .b 0)]) (log := [(decide (c ≥ (1 : Int))) = false]) (by kernel_rfl) ⟨hq0, trivial⟩ (by kernel_rfl)) (by first | rfl | (simp; done) | (simp_all; done)) (by first | rfl | (simp [rowA_nil]; done) | (simp only [rowA_eq]; rfl) | (simp_all [rowA_nil]; done))
set_option maxHeartbeats 8000000 in
theorem cw2 (c a b : Int)  : KnownR Tryd.prog knWordKnownL 22 [.val (.int .i64 c), .list (⟨[.int .i64 a, .int .i64 b]⟩ : Array Value) 2] (.int .i64 (cw2_c0 c a b)) [] := by
  rcases Bool.eq_false_or_eq_true (decide (c ≥ (1 : Int))) with hq0 | hq0
  ·
    rcases Bool.eq_false_or_eq_true (!decide (c ≤ (8 : Int))) with hq1 | hq1
    ·
      have e0 : cw2_c0 c a b = ((2 : Int)) := ((bif_t hq0 _ _).trans ((bif_t hq1 _ _).trans rfl)); rw [e0]; exact cw2_p0 c a b hq0 hq1
    ·
      have hq2 : (decide (IntKind.u64.wrap c < (0 : Int))) = false := by
        rcases Bool.eq_false_or_eq_true (decide (IntKind.u64.wrap c < (0 : Int))) with h | h
        · exfalso; (try simp only [cw2_b4, cw2_b6] at *); (first | (simp_all only [Bool.and_eq_true, Bool.not_eq_true', Bool.false_eq_true, Bool.true_eq_false, reduceCtorEq]; done) | (simp only [sx, sy, eq_self, ne_eq, IntKind.wrap_i64, wrapU64, Int.reduceLT] at * <;> first | contradiction | omega) | omega | ((try simp only [sx, sy, eq_self, ne_eq, IntKind.wrap_i64, wrapU64, Int.reduceLT] at *) <;> omega) | (simp_all; done))
        · exact h
      rcases Bool.eq_false_or_eq_true (decide (a ≥ (0 : Int))) with hq3 | hq3
      ·
        rcases Bool.eq_false_or_eq_true (cw2_b4 c a b) with hq4 | hq4
        ·
          have e0 : cw2_c0 c a b = ((2 : Int)) := ((bif_t hq0 _ _).trans ((bif_f hq1 _ _).trans ((bif_t hq3 _ _).trans ((bif_t hq4 _ _).trans rfl)))); rw [e0]; exact cw2_p1 c a b hq0 hq1 hq2 hq3 hq4
        ·
          rcases Bool.eq_false_or_eq_true (decide (b ≥ (0 : Int))) with hq5 | hq5
          ·
            rcases Bool.eq_false_or_eq_true (cw2_b6 c a b) with hq6 | hq6
            ·
              have e0 : cw2_c0 c a b = ((2 : Int)) := ((bif_t hq0 _ _).trans ((bif_f hq1 _ _).trans ((bif_t hq3 _ _).trans ((bif_f hq4 _ _).trans ((bif_t hq5 _ _).trans ((bif_t hq6 _ _).trans rfl)))))); rw [e0]; exact cw2_p2 c a b hq0 hq1 hq2 hq3 hq4 hq5 hq6
            ·
              have e0 : cw2_c0 c a b = ((0 : Int)) := ((bif_t hq0 _ _).trans ((bif_f hq1 _ _).trans ((bif_t hq3 _ _).trans ((bif_f hq4 _ _).trans ((bif_t hq5 _ _).trans ((bif_f hq6 _ _).trans rfl)))))); rw [e0]; exact cw2_p3 c a b hq0 hq1 hq2 hq3 hq4 hq5 hq6
          ·
            have e0 : cw2_c0 c a b = ((2 : Int)) := ((bif_t hq0 _ _).trans ((bif_f hq1 _ _).trans ((bif_t hq3 _ _).trans ((bif_f hq4 _ _).trans ((bif_f hq5 _ _).trans rfl))))); rw [e0]; exact cw2_p4 c a b hq0 hq1 hq2 hq3 hq4 hq5
      ·
        have e0 : cw2_c0 c a b = ((2 : Int)) := ((bif_t hq0 _ _).trans ((bif_f hq1 _ _).trans ((bif_f hq3 _ _).trans rfl))); rw [e0]; exact cw2_p5 c a b hq0 hq1 hq2 hq3
  ·
    have e0 : cw2_c0 c a b = ((2 : Int)) := ((bif_f hq0 _ _).trans rfl); rw [e0]; exact cw2_p6 c a b hq0

end Go.Proofs.YtfpabkpmcmfbhaaDoor
