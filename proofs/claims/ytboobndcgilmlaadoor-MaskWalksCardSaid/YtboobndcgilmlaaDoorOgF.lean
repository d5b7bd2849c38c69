/- Layer 2: the lists. -/
import Derived.Test.YtboobndcgilmlaaDoorMF
import Derived.Test.YtboobndcgilmlaaDoorLU
import Derived.ProofKit
import Derived.IntWalk
namespace Go.Proofs.YtboobndcgilmlaaDoor
open Go Go.RowKit
set_option linter.unusedVariables false
set_option linter.unusedSimpArgs false
set_option linter.unnecessarySimpa false
set_option maxHeartbeats 8000000
set_option maxRecDepth 100000
theorem rhas_k {m : Int} (h : isW m = true) (f : Int) : Known Tryd.prog knMaskKnownL 18 [.int .u64 m, .int .i64 f] (.bool (hs m f)) := by
  have hm := of_decide_eq_true h
  have := rha m f hm
  rwa [show rha_c0 m f = haP_c0 m f from rfl, has_is hm] at this
attribute [local irreducible] tzI hs
theorem qRha (m f : Int) (hg : (isW m) = true) : Known Tryd.prog knMaskKnownL 18 [.int .u64 m, .int .i64 f] (.bool (hs m f)) := rhas_k hg f
noncomputable def qRha_k : List Value → Option (Bool × Value)
  | [.int .u64 m, .int .i64 f] => some (isW m, .bool (hs m f))
  | _ => none
theorem qRha_ok : ∀ args v, qRha_k args = some (true, v) → Known Tryd.prog knMaskKnownL 18 args v := by
  intro args v h
  unfold qRha_k at h
  split at h
  · injection h with h; injection h with hg h; subst h; exact qRha _ _ hg
  · cases h
noncomputable def tabLi : GTab := (GTab.fn 51 qTz_k (GTab.fn 18 qRha_k GTab.none))
theorem tabLi_ok : GOk Tryd.prog knMaskKnownL tabLi := (GOk.fn qTz_ok (GOk.fn qRha_ok GOk.none))
noncomputable def rlA_hd (m : Int) : Hd := headD Tryd.prog knMaskKnownL tabLi 3000 23 [.val (.int .u64 m)] [(0, .stop)]
noncomputable def rlA_R (m : Int) (rc0 : Array Value) (rn0 : Nat) (y1 : Int) : St := (((entryR Tryd.prog [(.slot 3, 3)] 3 43 [7, 15, 11, 5, 9, 13, 8, 12, 6, 10, 14] 0 0 (rlA_hd m).s).rows [(3, rc0, 3)]).updF [(3, .complex .f64 3 rn0), (4, .int .i64 y1)] [])
noncomputable def rlA_S (m : Int) (y0 : List Int) (y1 : Int) : St := (((entryR Tryd.prog [(.slot 3, 3)] 3 43 [7, 15, 11, 5, 9, 13, 8, 12, 6, 10, 14] 0 0 (rlA_hd m).s).rows [(3, (rowA gI y0.reverse), 3)]).updF [(3, .complex .f64 3 y0.length), (4, .int .i64 y1)] [])
theorem rlA_n (m : Int) (hw : isW m = true) : 3 = (rlA_hd m).s.hs.next := by kernel_rfl
theorem rlA_r (m : Int) (hw : isW m = true) : (rlA_hd m).s.hs.rd < bitOf 3 := by
  have e : (rlA_hd m).s.hs.rd = 0 := by kernel_rfl
  rw [e]; exact blt_iff.1 (by kernel_rfl)
theorem rlA_w (m : Int) (hw : isW m = true) : (rlA_hd m).s.hs.wr < bitOf 3 := by
  have e : (rlA_hd m).s.hs.wr = 0 := by kernel_rfl
  rw [e]; exact blt_iff.1 (by kernel_rfl)
theorem rlA_e0 (m : Int) (hw : isW m = true) : beginS Tryd.prog [(.slot 3, 3)] 3 43 (sameB 3 1) [7, 15, 11, 5, 9, 13, 8, 12, 6, 10, 14] 4 0 0 (rlA_hd m).s = some (rlA_S m [] ((0 : Int))) := by
  have h : beginS Tryd.prog [(.slot 3, 3)] 3 43 (sameB 3 1) [7, 15, 11, 5, 9, 13, 8, 12, 6, 10, 14] 4 0 0 (rlA_hd m).s = some (rlA_R m #[] 0 ((0 : Int))) := by kernel_rfl
  refine h.trans (congrArg some ?_)
  show rlA_R m #[] 0 ((0 : Int)) = rlA_R m (rowA gI ([] : List Int).reverse) ([] : List Int).length ((0 : Int))
  first | (simp only [List.reverse_nil, rowA_nil, List.length_nil, List.reverse_reverse, List.length_reverse]; done) | rfl | (simp only [List.reverse_nil, rowA_nil, List.length_nil, List.reverse_reverse, List.length_reverse]; rfl)
theorem rlA_e1 (m : Int) (hw : isW m = true) : beginOk Tryd.prog [(.slot 3, 3)] 3 43 (sameB 3 1) 4 (rlA_hd m).s = true := by kernel_rfl
def rlA_X : Nat → VX
  | 0 => .exit 0
  | _ => .normal
noncomputable def rlA_E (kE : Nat) (m : Int) (y0 : List Int) (y1 : Int) : St := match kE with
  | 0 => (((bodySt (bodyR Tryd.prog (knMaskKnownL : Vars).length tabLi 3000 (rlA_hd m) (rlA_S m y0 y1 ) [(0, .b 0)] 3 43 [(3, 3)] [7, 15, 11, 5, 9, 13, 8, 12, 6, 10, 14] 43 0 0)).rows [(3, rowA gI y0.reverse, 3)]).updF [(3, .complex .f64 3 y0.length), (4, .int .i64 y1)] [])
  | _ => (rlA_hd m).s
theorem rlA_p0 (m : Int) (y0 : List Int) (y1 : Int) : bodyR Tryd.prog (knMaskKnownL : Vars).length tabLi 3000 (rlA_hd m) (rlA_S m y0 y1 ) [(0, .b 1), (1, .b 1), (2, .b 1), (3, .b 1), (4, .yes), (5, .arr (rowA (gI) ((y1 :: y0).reverse)))] 3 43 [(5, 3)] [7, 15, 11, 5, 9, 13, 8, 12, 6, 10, 14] 4 0 0 = some (.normal, (rlA_S m (y1 :: y0) (IntKind.i64.wrap (y1 + (1 : Int)))), [((rowA (gI) (y0.reverse)).toList ++ ([Value.int IntKind.i64 y1])).toArray = rowA (gI) ((y1 :: y0).reverse), ((rowA gI y0.reverse).size.beq (y0.length.mul Tryd.prog.types[(3 : Nat)].size)) = true, (decide ((y0.length + (1 : Nat)) * (8 : Nat) < (1000000000 : Nat))) = true, (hs m y1) = true, (isW m) = true, (decide (y1 < (64 : Int))) = true]) := by kernel_rfl
theorem rlA_p1 (m : Int) (y0 : List Int) (y1 : Int) : bodyR Tryd.prog (knMaskKnownL : Vars).length tabLi 3000 (rlA_hd m) (rlA_S m y0 y1 ) [(0, .b 1), (1, .b 1), (2, .b 0)] 3 43 [(3, 3)] [7, 15, 11, 5, 9, 13, 8, 12, 6, 10, 14] 4 0 0 = some (.normal, (rlA_S m (y0) (IntKind.i64.wrap (y1 + (1 : Int)))), [(hs m y1) = false, (isW m) = true, (decide (y1 < (64 : Int))) = true]) := by kernel_rfl
theorem rlA_p2 (m : Int) (y0 : List Int) (y1 : Int) : bodyR Tryd.prog (knMaskKnownL : Vars).length tabLi 3000 (rlA_hd m) (rlA_S m y0 y1 ) [(0, .b 0)] 3 43 [(3, 3)] [7, 15, 11, 5, 9, 13, 8, 12, 6, 10, 14] 43 0 0 = some (.exit 0, rlA_E 0 m (y0) (y1), [(decide (y1 < (64 : Int))) = false]) := by kernel_rfl
theorem rlA_q2 (m : Int) (y0 : List Int) (y1 : Int) : (rlA_E 0 m (y0) (y1)).hs.next = 43 := by kernel_rfl
theorem rlA_d0 (m : Int) (hw : isW m = true) (y0 : List Int) (y1 : Int) (hi : (decide (0 ≤ y1 ∧ y1 ≤ 64 ∧ (y0.length : Int) ≤ y1)) = true) (hq0 : (decide (y1 < (64 : Int))) = true) : (isW m) = true := by
  rcases Bool.eq_false_or_eq_true (isW m) with h | h
  · exact h
  · exfalso; (first | (simp_all only [Bool.and_eq_true, Bool.not_eq_true', Bool.false_eq_true, Bool.true_eq_false, reduceCtorEq]; done) | (simp only [sx, sy, eq_self, ne_eq, IntKind.wrap_i64, wrapU64, Int.reduceLT] at * <;> first | contradiction | omega) | omega | ((try simp only [sx, sy, eq_self, ne_eq, IntKind.wrap_i64, wrapU64, Int.reduceLT] at *) <;> omega) | (simp_all; done))
theorem rlA_d1 (m : Int) (hw : isW m = true) (y0 : List Int) (y1 : Int) (hi : (decide (0 ≤ y1 ∧ y1 ≤ 64 ∧ (y0.length : Int) ≤ y1)) = true) (hq0 : (decide (y1 < (64 : Int))) = true) (hq1 : (isW m) = true) (hq2 : (hs m y1) = true) : (decide ((y0.length + (1 : Nat)) * (8 : Nat) < (1000000000 : Nat))) = true := by
  rcases Bool.eq_false_or_eq_true (decide ((y0.length + (1 : Nat)) * (8 : Nat) < (1000000000 : Nat))) with h | h
  · exact h
  · exfalso; (first | (simp_all only [Bool.and_eq_true, Bool.not_eq_true', Bool.false_eq_true, Bool.true_eq_false, reduceCtorEq]; done) | (simp only [sx, sy, eq_self, ne_eq, IntKind.wrap_i64, wrapU64, Int.reduceLT] at * <;> first | contradiction | omega) | omega | ((try simp only [sx, sy, eq_self, ne_eq, IntKind.wrap_i64, wrapU64, Int.reduceLT] at *) <;> omega) | (simp_all; done))
noncomputable def rlA_f (m : Int) : Nat → List Int → Int → Option (Nat × (List Int × Int))
  | 0, _, _ => none
  | fu + 1, y0, y1 => (bif (decide (0 ≤ y1 ∧ y1 ≤ 64 ∧ (y0.length : Int) ≤ y1)) then (bif (decide (y1 < (64 : Int))) then (bif (hs m y1) then rlA_f m fu (y1 :: y0) (IntKind.i64.wrap (y1 + (1 : Int))) else rlA_f m fu (y0) (IntKind.i64.wrap (y1 + (1 : Int)))) else some (0, ((y0), (y1)))) else none)
theorem rlA_fs (m : Int) (fu : Nat) (y0 : List Int) (y1 : Int) : rlA_f m (fu + 1) y0 y1 = (bif (decide (0 ≤ y1 ∧ y1 ≤ 64 ∧ (y0.length : Int) ≤ y1)) then (bif (decide (y1 < (64 : Int))) then (bif (hs m y1) then rlA_f m fu (y1 :: y0) (IntKind.i64.wrap (y1 + (1 : Int))) else rlA_f m fu (y0) (IntKind.i64.wrap (y1 + (1 : Int)))) else some (0, ((y0), (y1)))) else none) := rfl
theorem rlA_f0 (m : Int) (y0 : List Int) (y1 : Int) : rlA_f m 0 y0 y1 = none := rfl
theorem rlA_loop (m : Int) (hw : isW m = true) : ∀ (fu : Nat) (y0 : List Int) (y1 : Int) (kk : Nat) (zz : List Int × Int), rlA_f m fu y0 y1 = some (kk, zz) → VStep (rlA_hd m).s.hs (rlA_S m y0 y1 ).hs → RoundsC Tryd.prog knMaskKnownL 3 43 (rlA_hd m).s.hs (rlA_hd m).ro (rlA_hd m).a (rlA_S m y0 y1 ) (rlA_X kk) (rlA_E kk m zz.1 zz.2 ) ∧ ((rlA_E kk m zz.1 zz.2 )).hs.next = 43 := by
  intro fu
  induction fu with
  | zero =>
    intro y0 y1 kk zz hf hSz
    have hf := (rlA_f0 m y0 y1 ).symm.trans hf
    simp at hf
  | succ fu ih =>
    intro y0 y1 kk zz hf hSz
    have hf := (rlA_fs m fu y0 y1 ).symm.trans hf
    rcases bif_or hf with ⟨hi, hf⟩ | ⟨hi, hf⟩
    case inr => cases hf
    rcases bif_or hf with ⟨hq0, hf⟩ | ⟨hq0, hf⟩
    ·
      have hq1 := rlA_d0 m hw y0 y1 hi hq0 
      rcases bif_or hf with ⟨hq2, hf⟩ | ⟨hq2, hf⟩
      ·
        have hq3 := rlA_d1 m hw y0 y1 hi hq0 hq1 hq2 
        have hb1 := rlA_p0 m y0 y1 ; have hb2 := body_canonR hb1; have hb3 := hb2 ⟨(row_snoc (g := (gI)) rfl), (fact_size (g := (gI)) (k := 1) (fun _ => rfl) (by first | (simp; done) | (simp only [Nat.add_eq, Nat.sub_eq, List.length_take, List.length_drop, List.length_append, List.length_cons, List.length_nil, List.length_reverse, List.length_set]; omega) | (have hx2 := of_decide_eq_true hi; simp only [List.length_reverse, List.length_set] at *; omega))), hq3, hq2, hq1, hq0, trivial⟩; obtain ⟨sz1, kz1, kz2, kz3⟩ := hb3; obtain ⟨gz1, gz2⟩ := ih (y1 :: y0) (IntKind.i64.wrap (y1 + (1 : Int))) kk zz hf (rounds_step mix (T := tabLi) tabLi_ok (rlA_n m hw ) (rlA_r m hw ) (rlA_w m hw ) kz1 hSz kz2 kz3); exact ⟨rounds_next mix (T := tabLi) tabLi_ok (rlA_n m hw ) (rlA_r m hw ) (rlA_w m hw ) kz1 hSz kz2 kz3 (fun _ => gz1), gz2⟩
      ·
        have hb1 := rlA_p1 m y0 y1 ; have hb2 := body_canonR hb1; have hb3 := hb2 ⟨hq2, hq1, hq0, trivial⟩; obtain ⟨sz1, kz1, kz2, kz3⟩ := hb3; obtain ⟨gz1, gz2⟩ := ih (y0) (IntKind.i64.wrap (y1 + (1 : Int))) kk zz hf (rounds_step mix (T := tabLi) tabLi_ok (rlA_n m hw ) (rlA_r m hw ) (rlA_w m hw ) kz1 hSz kz2 kz3); exact ⟨rounds_next mix (T := tabLi) tabLi_ok (rlA_n m hw ) (rlA_r m hw ) (rlA_w m hw ) kz1 hSz kz2 kz3 (fun _ => gz1), gz2⟩
    ·
      injection hf with hf; injection hf with e1 e2; subst e1; subst e2; have hb1 := rlA_p2 m y0 y1 ; have hb2 := body_canonR hb1; have hb3 := hb2 ⟨hq0, trivial⟩; obtain ⟨sz1, kz1, kz2, kz3⟩ := hb3; exact ⟨rounds_end mix (T := tabLi) tabLi_ok (rlA_n m hw ) (rlA_r m hw ) (rlA_w m hw ) kz1 (fun h => by cases h) hSz kz2 kz3, rlA_q2 m y0 y1 ⟩
theorem rlA_ok (m : Int) (hw : isW m = true) (fu kk : Nat) (zz : List Int × Int) (hf : rlA_f m fu [] ((0 : Int)) = some (kk, zz)) : ∀ B : Bd, B.L = knMaskKnownL → LoopOk Tryd.prog B (rlA_hd m).ro (rlA_hd m).a (rlA_hd m).s (rlA_X kk) (rlA_E kk m zz.1 zz.2 ) := by
  obtain ⟨sb1, sb2, sb3, sb4⟩ := begin_open (rlA_e0 m hw ) (rlA_e1 m hw )
  have hSz := begin_step2 (rlA_n m hw ) (rlA_r m hw ) (rlA_w m hw ) sb2 sb3 sb4
  obtain ⟨gz1, gz2⟩ := rlA_loop m hw fu [] ((0 : Int)) kk zz hf hSz
  exact rounds_ok (rlA_n m hw ) (Nat.le_of_ble_eq_true (by kernel_rfl)) gz2 (rounds_begin2 (rlA_n m hw ) (rlA_r m hw ) (rlA_w m hw ) sb2 sb3 sb4 (fun _ => gz1))

noncomputable def rl1_c0 (m : Int) (rlA_z0 : List Int) (rlA_z1 : Int)  : List Int := (rlA_z0.reverse)
theorem rl1_p0 (m : Int) (rlA_z0 : List Int) (rlA_z1 : Int)  (hw : isW m = true) (rlA_l : ∀ B : Bd, B.L = knMaskKnownL → LoopOk Tryd.prog B (rlA_hd m).ro (rlA_hd m).a (rlA_hd m).s (rlA_X 0) (rlA_E 0 m rlA_z0 rlA_z1 )) : KnownR Tryd.prog knMaskKnownL 23 [.val (.int .u64 m)] (.complex .f64 0 ((rlA_z0.reverse)).length) [(rowA gI ((rlA_z0.reverse)), 3)] :=
  knownR_eq (v := Value.complex FloatKind.f64 (nat_lit 0) rlA_z0.length) (bs := [(rowA gI rlA_z0.reverse, nat_lit 3)]) (open_resD mix (GOk.add tabLi_ok rlA_l) (T := (GTab.add tabLi 4 (rlA_hd m).ro (rlA_hd m).a (rlA_hd m).s (rlA_X 0) (rlA_E 0 m rlA_z0 rlA_z1 ) (by kernel_rfl))) (fuel := 3000) (es := [3]) (ans := [(0, .loop (rlA_X 0) (rlA_E 0 m rlA_z0 rlA_z1 )), ]) (log := [LoopRes Tryd.prog (knMaskKnownL : Vars).length (GTab.add tabLi 4 (rlA_hd m).ro (rlA_hd m).a (rlA_hd m).s (rlA_X 0) (rlA_E 0 m rlA_z0 rlA_z1 ) (by kernel_rfl)) (rlA_hd m).ro (rlA_hd m).a (rlA_hd m).s (rlA_X 0) (rlA_E 0 m rlA_z0 rlA_z1 )]) (by kernel_rfl) ⟨(loop_known2 add_eq), trivial⟩ (by kernel_rfl)) (by first | rfl | (simp; done) | (simp_all; done)) (by first | rfl | (simp [rowA_nil]; done) | (simp only [rowA_eq]; rfl) | (simp_all [rowA_nil]; done))
set_option maxHeartbeats 8000000 in
theorem rl1 (m : Int) (rlA_z0 : List Int) (rlA_z1 : Int)  (hw : isW m = true) (rlA_l : ∀ B : Bd, B.L = knMaskKnownL → LoopOk Tryd.prog B (rlA_hd m).ro (rlA_hd m).a (rlA_hd m).s (rlA_X 0) (rlA_E 0 m rlA_z0 rlA_z1 )) : KnownR Tryd.prog knMaskKnownL 23 [.val (.int .u64 m)] (.complex .f64 0 ((rl1_c0 m rlA_z0 rlA_z1)).length) [(rowA gI ((rl1_c0 m rlA_z0 rlA_z1)), 3)] := by
  have e0 : rl1_c0 m rlA_z0 rlA_z1 = (rlA_z0.reverse) := rfl; rw [e0]; exact rl1_p0 m rlA_z0 rlA_z1 hw rlA_l

noncomputable def plA_hd (m : Int) : Hd := headD Tryd.prog knMaskKnownL tabLi 3000 22 [.val (.int .u64 m)] [(0, .stop)]
noncomputable def plA_R (m : Int) (rc0 : Array Value) (rn0 : Nat) (y1 : Int) : St := (((entryR Tryd.prog [(.cell 4 0, 3)] 7 47 [3, 7, 11, 5, 9, 13, 4, 8, 12, 6, 10] 120 120 (plA_hd m).s).rows [(7, rc0, 3)]).updF [] [(4, 0, .complex .f64 7 rn0), (3, 0, .int .u64 y1)])
noncomputable def plA_S (m : Int) (y0 : List Int) (y1 : Int) : St := (((entryR Tryd.prog [(.cell 4 0, 3)] 7 47 [3, 7, 11, 5, 9, 13, 4, 8, 12, 6, 10] 120 120 (plA_hd m).s).rows [(7, (rowA gI y0.reverse), 3)]).updF [] [(4, 0, .complex .f64 7 y0.length), (3, 0, .int .u64 y1)])
theorem plA_n (m : Int) (hw : isW m = true) (h1 : 0 ≤ m ∧ m < 18446744073709551616) : 7 = (plA_hd m).s.hs.next := by kernel_rfl
theorem plA_r (m : Int) (hw : isW m = true) (h1 : 0 ≤ m ∧ m < 18446744073709551616) : (plA_hd m).s.hs.rd < bitOf 7 := by
  have e : (plA_hd m).s.hs.rd = 0 := by kernel_rfl
  rw [e]; exact blt_iff.1 (by kernel_rfl)
theorem plA_w (m : Int) (hw : isW m = true) (h1 : 0 ≤ m ∧ m < 18446744073709551616) : (plA_hd m).s.hs.wr < bitOf 7 := by
  have e : (plA_hd m).s.hs.wr = 120 := by kernel_rfl
  rw [e]; exact blt_iff.1 (by kernel_rfl)
theorem plA_e0 (m : Int) (hw : isW m = true) (h1 : 0 ≤ m ∧ m < 18446744073709551616) : beginS Tryd.prog [(.cell 4 0, 3)] 7 47 (sameB 7 1) [3, 7, 11, 5, 9, 13, 4, 8, 12, 6, 10] 8 120 120 (plA_hd m).s = some (plA_S m [] (m)) := by
  have h : beginS Tryd.prog [(.cell 4 0, 3)] 7 47 (sameB 7 1) [3, 7, 11, 5, 9, 13, 4, 8, 12, 6, 10] 8 120 120 (plA_hd m).s = some (plA_R m #[] 0 (m)) := by kernel_rfl
  refine h.trans (congrArg some ?_)
  show plA_R m #[] 0 (m) = plA_R m (rowA gI ([] : List Int).reverse) ([] : List Int).length (m)
  first | (simp only [List.reverse_nil, rowA_nil, List.length_nil, List.reverse_reverse, List.length_reverse]; done) | rfl | (simp only [List.reverse_nil, rowA_nil, List.length_nil, List.reverse_reverse, List.length_reverse]; rfl)
theorem plA_e1 (m : Int) (hw : isW m = true) (h1 : 0 ≤ m ∧ m < 18446744073709551616) : beginOk Tryd.prog [(.cell 4 0, 3)] 7 47 (sameB 7 1) 8 (plA_hd m).s = true := by kernel_rfl
def plA_X : Nat → VX
  | 0 => .exit 0
  | _ => .normal
noncomputable def plA_E (kE : Nat) (m : Int) (y0 : List Int) (y1 : Int) : St := match kE with
  | 0 => (((bodySt (bodyR Tryd.prog (knMaskKnownL : Vars).length tabLi 3000 (plA_hd m) (plA_S m y0 y1 ) [(0, .b 0)] 7 47 [(7, 7)] [3, 7, 11, 5, 9, 13, 4, 8, 12, 6, 10] 47 120 120)).rows [(7, rowA gI y0.reverse, 3)]).updF [] [(4, 0, .complex .f64 7 y0.length), (3, 0, .int .u64 y1)])
  | _ => (plA_hd m).s
theorem plA_p0 (m : Int) (y0 : List Int) (y1 : Int) : bodyR Tryd.prog (knMaskKnownL : Vars).length tabLi 3000 (plA_hd m) (plA_S m y0 y1 ) [(0, .b 1), (1, .b 1), (2, .b 1), (3, .yes), (4, .arr (rowA (gI) ((tzI y1 :: y0).reverse)))] 7 47 [(9, 7)] [3, 7, 11, 5, 9, 13, 4, 8, 12, 6, 10] 8 120 120 = some (.normal, (plA_S m (tzI y1 :: y0) (IntKind.u64.wrap (↑(BitVec.ofInt (64 : Nat) y1 &&& BitVec.ofInt (64 : Nat) (IntKind.u64.wrap (y1 - (1 : Int)))).toNat : Int))), [((rowA (gI) (y0.reverse)).toList ++ ([Value.int IntKind.i64 (tzI y1)])).toArray = rowA (gI) ((tzI y1 :: y0).reverse), ((rowA gI y0.reverse).size.beq (y0.length.mul Tryd.prog.types[(3 : Nat)].size)) = true, (decide ((y0.length + (1 : Nat)) * (8 : Nat) < (1000000000 : Nat))) = true, (decide ((0 : Int) < y1 ∧ y1 < (18446744073709551616 : Int))) = true, (y1 != (0 : Int)) = true]) := by kernel_rfl
theorem plA_p1 (m : Int) (y0 : List Int) (y1 : Int) : bodyR Tryd.prog (knMaskKnownL : Vars).length tabLi 3000 (plA_hd m) (plA_S m y0 y1 ) [(0, .b 0)] 7 47 [(7, 7)] [3, 7, 11, 5, 9, 13, 4, 8, 12, 6, 10] 47 120 120 = some (.exit 0, plA_E 0 m (y0) (y1), [(y1 != (0 : Int)) = false]) := by kernel_rfl
theorem plA_q1 (m : Int) (y0 : List Int) (y1 : Int) : (plA_E 0 m (y0) (y1)).hs.next = 47 := by kernel_rfl
theorem plA_d0 (m : Int) (hw : isW m = true) (h1 : 0 ≤ m ∧ m < 18446744073709551616) (y0 : List Int) (y1 : Int) (hi : (decide (0 ≤ y1 ∧ y1 < 18446744073709551616 ∧ (y0.length : Int) ≤ 64)) = true) (hq0 : (y1 != (0 : Int)) = true) : (decide ((0 : Int) < y1 ∧ y1 < (18446744073709551616 : Int))) = true := by
  rcases Bool.eq_false_or_eq_true (decide ((0 : Int) < y1 ∧ y1 < (18446744073709551616 : Int))) with h | h
  · exact h
  · exfalso; (first | (simp_all only [Bool.and_eq_true, Bool.not_eq_true', Bool.false_eq_true, Bool.true_eq_false, reduceCtorEq]; done) | (simp only [sx, sy, eq_self, ne_eq, IntKind.wrap_i64, wrapU64, Int.reduceLT] at * <;> first | contradiction | omega) | omega | ((try simp only [sx, sy, eq_self, ne_eq, IntKind.wrap_i64, wrapU64, Int.reduceLT] at *) <;> omega) | (simp_all; done))
theorem plA_d1 (m : Int) (hw : isW m = true) (h1 : 0 ≤ m ∧ m < 18446744073709551616) (y0 : List Int) (y1 : Int) (hi : (decide (0 ≤ y1 ∧ y1 < 18446744073709551616 ∧ (y0.length : Int) ≤ 64)) = true) (hq0 : (y1 != (0 : Int)) = true) (hq1 : (decide ((0 : Int) < y1 ∧ y1 < (18446744073709551616 : Int))) = true) : (decide ((y0.length + (1 : Nat)) * (8 : Nat) < (1000000000 : Nat))) = true := by
  rcases Bool.eq_false_or_eq_true (decide ((y0.length + (1 : Nat)) * (8 : Nat) < (1000000000 : Nat))) with h | h
  · exact h
  · exfalso; (first | (simp_all only [Bool.and_eq_true, Bool.not_eq_true', Bool.false_eq_true, Bool.true_eq_false, reduceCtorEq]; done) | (simp only [sx, sy, eq_self, ne_eq, IntKind.wrap_i64, wrapU64, Int.reduceLT] at * <;> first | contradiction | omega) | omega | ((try simp only [sx, sy, eq_self, ne_eq, IntKind.wrap_i64, wrapU64, Int.reduceLT] at *) <;> omega) | (simp_all; done))
noncomputable def plA_f (m : Int) : Nat → List Int → Int → Option (Nat × (List Int × Int))
  | 0, _, _ => none
  | fu + 1, y0, y1 => (bif (decide (0 ≤ y1 ∧ y1 < 18446744073709551616 ∧ (y0.length : Int) ≤ 64)) then (bif (y1 != (0 : Int)) then plA_f m fu (tzI y1 :: y0) (IntKind.u64.wrap (↑(BitVec.ofInt (64 : Nat) y1 &&& BitVec.ofInt (64 : Nat) (IntKind.u64.wrap (y1 - (1 : Int)))).toNat : Int)) else some (0, ((y0), (y1)))) else none)
theorem plA_fs (m : Int) (fu : Nat) (y0 : List Int) (y1 : Int) : plA_f m (fu + 1) y0 y1 = (bif (decide (0 ≤ y1 ∧ y1 < 18446744073709551616 ∧ (y0.length : Int) ≤ 64)) then (bif (y1 != (0 : Int)) then plA_f m fu (tzI y1 :: y0) (IntKind.u64.wrap (↑(BitVec.ofInt (64 : Nat) y1 &&& BitVec.ofInt (64 : Nat) (IntKind.u64.wrap (y1 - (1 : Int)))).toNat : Int)) else some (0, ((y0), (y1)))) else none) := rfl
theorem plA_f0 (m : Int) (y0 : List Int) (y1 : Int) : plA_f m 0 y0 y1 = none := rfl
theorem plA_loop (m : Int) (hw : isW m = true) (h1 : 0 ≤ m ∧ m < 18446744073709551616) : ∀ (fu : Nat) (y0 : List Int) (y1 : Int) (kk : Nat) (zz : List Int × Int), plA_f m fu y0 y1 = some (kk, zz) → VStep (plA_hd m).s.hs (plA_S m y0 y1 ).hs → RoundsC Tryd.prog knMaskKnownL 7 47 (plA_hd m).s.hs (plA_hd m).ro (plA_hd m).a (plA_S m y0 y1 ) (plA_X kk) (plA_E kk m zz.1 zz.2 ) ∧ ((plA_E kk m zz.1 zz.2 )).hs.next = 47 := by
  intro fu
  induction fu with
  | zero =>
    intro y0 y1 kk zz hf hSz
    have hf := (plA_f0 m y0 y1 ).symm.trans hf
    simp at hf
  | succ fu ih =>
    intro y0 y1 kk zz hf hSz
    have hf := (plA_fs m fu y0 y1 ).symm.trans hf
    rcases bif_or hf with ⟨hi, hf⟩ | ⟨hi, hf⟩
    case inr => cases hf
    rcases bif_or hf with ⟨hq0, hf⟩ | ⟨hq0, hf⟩
    ·
      have hq1 := plA_d0 m hw h1 y0 y1 hi hq0 
      have hq2 := plA_d1 m hw h1 y0 y1 hi hq0 hq1 
      have hb1 := plA_p0 m y0 y1 ; have hb2 := body_canonR hb1; have hb3 := hb2 ⟨(row_snoc (g := (gI)) rfl), (fact_size (g := (gI)) (k := 1) (fun _ => rfl) (by first | (simp; done) | (simp only [Nat.add_eq, Nat.sub_eq, List.length_take, List.length_drop, List.length_append, List.length_cons, List.length_nil, List.length_reverse, List.length_set]; omega) | (have hx2 := of_decide_eq_true hi; simp only [List.length_reverse, List.length_set] at *; omega))), hq2, hq1, hq0, trivial⟩; obtain ⟨sz1, kz1, kz2, kz3⟩ := hb3; obtain ⟨gz1, gz2⟩ := ih (tzI y1 :: y0) (IntKind.u64.wrap (↑(BitVec.ofInt (64 : Nat) y1 &&& BitVec.ofInt (64 : Nat) (IntKind.u64.wrap (y1 - (1 : Int)))).toNat : Int)) kk zz hf (rounds_step mix (T := tabLi) tabLi_ok (plA_n m hw h1 ) (plA_r m hw h1 ) (plA_w m hw h1 ) kz1 hSz kz2 kz3); exact ⟨rounds_next mix (T := tabLi) tabLi_ok (plA_n m hw h1 ) (plA_r m hw h1 ) (plA_w m hw h1 ) kz1 hSz kz2 kz3 (fun _ => gz1), gz2⟩
    ·
      injection hf with hf; injection hf with e1 e2; subst e1; subst e2; have hb1 := plA_p1 m y0 y1 ; have hb2 := body_canonR hb1; have hb3 := hb2 ⟨hq0, trivial⟩; obtain ⟨sz1, kz1, kz2, kz3⟩ := hb3; exact ⟨rounds_end mix (T := tabLi) tabLi_ok (plA_n m hw h1 ) (plA_r m hw h1 ) (plA_w m hw h1 ) kz1 (fun h => by cases h) hSz kz2 kz3, plA_q1 m y0 y1 ⟩
theorem plA_ok (m : Int) (hw : isW m = true) (h1 : 0 ≤ m ∧ m < 18446744073709551616) (fu kk : Nat) (zz : List Int × Int) (hf : plA_f m fu [] (m) = some (kk, zz)) : ∀ B : Bd, B.L = knMaskKnownL → LoopOk Tryd.prog B (plA_hd m).ro (plA_hd m).a (plA_hd m).s (plA_X kk) (plA_E kk m zz.1 zz.2 ) := by
  obtain ⟨sb1, sb2, sb3, sb4⟩ := begin_open (plA_e0 m hw h1 ) (plA_e1 m hw h1 )
  have hSz := begin_step2 (plA_n m hw h1 ) (plA_r m hw h1 ) (plA_w m hw h1 ) sb2 sb3 sb4
  obtain ⟨gz1, gz2⟩ := plA_loop m hw h1 fu [] (m) kk zz hf hSz
  exact rounds_ok (plA_n m hw h1 ) (Nat.le_of_ble_eq_true (by kernel_rfl)) gz2 (rounds_begin2 (plA_n m hw h1 ) (plA_r m hw h1 ) (plA_w m hw h1 ) sb2 sb3 sb4 (fun _ => gz1))

noncomputable def pl1_c0 (m : Int) (plA_z0 : List Int) (plA_z1 : Int)  : List Int := (plA_z0.reverse)
theorem pl1_p0 (m : Int) (plA_z0 : List Int) (plA_z1 : Int)  (hw : isW m = true) (h1 : 0 ≤ m ∧ m < 18446744073709551616) (plA_l : ∀ B : Bd, B.L = knMaskKnownL → LoopOk Tryd.prog B (plA_hd m).ro (plA_hd m).a (plA_hd m).s (plA_X 0) (plA_E 0 m plA_z0 plA_z1 )) : KnownR Tryd.prog knMaskKnownL 22 [.val (.int .u64 m)] (.complex .f64 0 ((plA_z0.reverse)).length) [(rowA gI ((plA_z0.reverse)), 3)] :=
  knownR_eq (v := Value.complex FloatKind.f64 (nat_lit 0) plA_z0.length) (bs := [(rowA gI plA_z0.reverse, nat_lit 3)]) (open_resD mix (GOk.add tabLi_ok plA_l) (T := (GTab.add tabLi 1 (plA_hd m).ro (plA_hd m).a (plA_hd m).s (plA_X 0) (plA_E 0 m plA_z0 plA_z1 ) (by kernel_rfl))) (fuel := 3000) (es := [3]) (ans := [(0, .loop (plA_X 0) (plA_E 0 m plA_z0 plA_z1 )), ]) (log := [LoopRes Tryd.prog (knMaskKnownL : Vars).length (GTab.add tabLi 1 (plA_hd m).ro (plA_hd m).a (plA_hd m).s (plA_X 0) (plA_E 0 m plA_z0 plA_z1 ) (by kernel_rfl)) (plA_hd m).ro (plA_hd m).a (plA_hd m).s (plA_X 0) (plA_E 0 m plA_z0 plA_z1 )]) (by kernel_rfl) ⟨(loop_known2 add_eq), trivial⟩ (by kernel_rfl)) (by first | rfl | (simp; done) | (simp_all; done)) (by first | rfl | (simp [rowA_nil]; done) | (simp only [rowA_eq]; rfl) | (simp_all [rowA_nil]; done))
set_option maxHeartbeats 8000000 in
theorem pl1 (m : Int) (plA_z0 : List Int) (plA_z1 : Int)  (hw : isW m = true) (h1 : 0 ≤ m ∧ m < 18446744073709551616) (plA_l : ∀ B : Bd, B.L = knMaskKnownL → LoopOk Tryd.prog B (plA_hd m).ro (plA_hd m).a (plA_hd m).s (plA_X 0) (plA_E 0 m plA_z0 plA_z1 )) : KnownR Tryd.prog knMaskKnownL 22 [.val (.int .u64 m)] (.complex .f64 0 ((pl1_c0 m plA_z0 plA_z1)).length) [(rowA gI ((pl1_c0 m plA_z0 plA_z1)), 3)] := by
  have e0 : pl1_c0 m plA_z0 plA_z1 = (plA_z0.reverse) := rfl; rw [e0]; exact pl1_p0 m plA_z0 plA_z1 hw h1 plA_l

end Go.Proofs.YtboobndcgilmlaaDoor
