/- Layer 2: MaskNear. -/
import Derived.Test.YtboobndcgilmlaaDoorMC
import Derived.ProofKit
import Derived.IntWalk
namespace Go.Proofs.YtboobndcgilmlaaDoor
open Go Go.RowKit
set_option linter.unusedVariables false
set_option linter.unusedSimpArgs false
set_option linter.unnecessarySimpa false
set_option maxHeartbeats 8000000
set_option maxRecDepth 100000
noncomputable def flO (n : Int) : Int := n % 64
theorem fl_k (n : Int) : Known Tryd.prog knMaskKnownL 35 [.int .i64 n, .int .i64 64] (.int .i64 (flO n)) := kMod ⟨by decide, by decide⟩
attribute [local irreducible] hs neV neE flO
theorem qNe (m f : Int) (hg : (isW m) = true) : Known Tryd.prog knMaskKnownL 15 [.int .u64 m, .int .i64 f] (.tuple #[.int .i64 (neV m f), .int .i64 (neE m f)]) := near_k hg f
noncomputable def qNe_k : List Value → Option (Bool × Value)
  | [.int .u64 m, .int .i64 f] => some (isW m, .tuple #[.int .i64 (neV m f), .int .i64 (neE m f)])
  | _ => none
theorem qNe_ok : ∀ args v, qNe_k args = some (true, v) → Known Tryd.prog knMaskKnownL 15 args v := by
  intro args v h
  unfold qNe_k at h
  split at h
  · injection h with h; injection h with hg h; subst h; exact qNe _ _ hg
  · cases h
theorem qFl (n : Int) : Known Tryd.prog knMaskKnownL 35 [.int .i64 n, .int .i64 64] (.int .i64 (flO n)) := fl_k n
noncomputable def qFl_k : List Value → Option Value
  | [.int .i64 n, .int .i64 64] => some (.int .i64 (flO n))
  | _ => none
theorem qFl_ok : ∀ args v, qFl_k args = some v → Known Tryd.prog knMaskKnownL 35 args v := by
  intro args v h
  unfold qFl_k at h
  split at h
  · injection h with h; subst h; exact qFl _
  · cases h
noncomputable def tabNe : GTab := (GTab.fn 17 qHas_k (GTab.fn 15 qNe_k (GTab.fn1 35 qFl_k (GTab.fn1 6 (fun l => match l with | [] => some (.bool true) | _ => none) GTab.none))))
theorem tabNe_ok : GOk Tryd.prog knMaskKnownL tabNe := (GOk.fn qHas_ok (GOk.fn qNe_ok (GOk.fn1 qFl_ok (GOk.fn1 (known0 mask_known) GOk.none))))
noncomputable def mnA_hd (m n : Int) : Hd := headF Tryd.prog knMaskKnownL tabNe 3000 9 [.int .u64 m, .int .i64 n] [(2, .b 1), (3, .b 0), (4, .b 0), (7, .b 1), (10, .b 0), (13, .b 1), (15, .b 1), (21, .b 0), (22, .stop)]
noncomputable def mnA_S (m n : Int) (y0 : Int) : St := ((entryK 3 43 [63, 79, 71, 55, 67, 75, 59, 65, 73, 57, 69, 53, 77, 61, 64, 80, 72, 56, 68, 52, 76, 60, 10, 66, 74, 58, 70, 54, 78, 62] 0 0 (mnA_hd m n).s).updF [(9, .int .i64 y0)] [])
theorem mnA_n (m n : Int) (hw : isW m = true) (h0 : (m == 0) = false) (he : neE m (flO n) = 0) (hh : hs m (neV m (flO n)) = true) (hs2 : hs m (flO n) = true) (hs3 : (neV m (flO n) != flO n) = false) (hb : 0 ≤ flO n ∧ flO n < 64) (hv : 0 ≤ neV m (flO n) ∧ neV m (flO n) < 64) : 3 = (mnA_hd m n).s.hs.next := by kernel_rfl
theorem mnA_r (m n : Int) (hw : isW m = true) (h0 : (m == 0) = false) (he : neE m (flO n) = 0) (hh : hs m (neV m (flO n)) = true) (hs2 : hs m (flO n) = true) (hs3 : (neV m (flO n) != flO n) = false) (hb : 0 ≤ flO n ∧ flO n < 64) (hv : 0 ≤ neV m (flO n) ∧ neV m (flO n) < 64) : (mnA_hd m n).s.hs.rd < bitOf 3 := by
  have e : (mnA_hd m n).s.hs.rd = 0 := by kernel_rfl
  rw [e]; exact blt_iff.1 (by kernel_rfl)
theorem mnA_w (m n : Int) (hw : isW m = true) (h0 : (m == 0) = false) (he : neE m (flO n) = 0) (hh : hs m (neV m (flO n)) = true) (hs2 : hs m (flO n) = true) (hs3 : (neV m (flO n) != flO n) = false) (hb : 0 ≤ flO n ∧ flO n < 64) (hv : 0 ≤ neV m (flO n) ∧ neV m (flO n) < 64) : (mnA_hd m n).s.hs.wr < bitOf 3 := by
  have e : (mnA_hd m n).s.hs.wr = 0 := by kernel_rfl
  rw [e]; exact blt_iff.1 (by kernel_rfl)
theorem mnA_e0 (m n : Int) (hw : isW m = true) (h0 : (m == 0) = false) (he : neE m (flO n) = 0) (hh : hs m (neV m (flO n)) = true) (hs2 : hs m (flO n) = true) (hs3 : (neV m (flO n) != flO n) = false) (hb : 0 ≤ flO n ∧ flO n < 64) (hv : 0 ≤ neV m (flO n) ∧ neV m (flO n) < 64) : canonS 3 43 [] [63, 79, 71, 55, 67, 75, 59, 65, 73, 57, 69, 53, 77, 61, 64, 80, 72, 56, 68, 52, 76, 60, 10, 66, 74, 58, 70, 54, 78, 62] 3 0 0 (mnA_hd m n).s = some (mnA_S m n ((0 : Int))) := by kernel_rfl
theorem mnA_e1 (m n : Int) (hw : isW m = true) (h0 : (m == 0) = false) (he : neE m (flO n) = 0) (hh : hs m (neV m (flO n)) = true) (hs2 : hs m (flO n) = true) (hs3 : (neV m (flO n) != flO n) = false) (hb : 0 ≤ flO n ∧ flO n < 64) (hv : 0 ≤ neV m (flO n) ∧ neV m (flO n) < 64) : canonOk 3 43 [] 3 (mnA_hd m n).s = true := canonOkF_eq.symm.trans (by kernel_rfl)
def mnA_X : Nat → VX
  | 0 => .exit 0
  | _ => .normal
noncomputable def mnA_E (kE : Nat) (m n : Int) (y0 : Int) : St := match kE with
  | 0 => ((bodySt (bodyK Tryd.prog (knMaskKnownL : Vars).length tabNe 3000 (mnA_hd m n) (mnA_S m n y0 ) [(0, .b 0)] 3 43 [63, 79, 71, 55, 67, 75, 59, 65, 73, 57, 69, 53, 77, 61, 64, 80, 72, 56, 68, 52, 76, 60, 10, 66, 74, 58, 70, 54, 78, 62] 43 0 0)).updF [(9, .int .i64 y0)] [])
  | _ => (mnA_hd m n).s
noncomputable def mnA_b3 (m n : Int) (y0 : Int) : Bool := decide (IntKind.i64.wrap ((if flO n > y0 then flO n else y0) - if flO n < y0 then flO n else y0) < IntKind.i64.wrap ((if flO n > neV m (flO n) then flO n else neV m (flO n)) - if flO n < neV m (flO n) then flO n else neV m (flO n)))
noncomputable def mnA_b4 (m n : Int) (y0 : Int) : Bool := IntKind.i64.wrap ((if flO n > y0 then flO n else y0) - if flO n < y0 then flO n else y0) == IntKind.i64.wrap ((if flO n > neV m (flO n) then flO n else neV m (flO n)) - if flO n < neV m (flO n) then flO n else neV m (flO n))
theorem mnA_p0 (m n : Int) (y0 : Int) : bodyK Tryd.prog (knMaskKnownL : Vars).length tabNe 3000 (mnA_hd m n) (mnA_S m n y0 ) [(0, .b 1), (1, .b 1), (2, .b 1), (6, .b 0), (10, .b 1), (18, .b 0)] 3 43 [63, 79, 71, 55, 67, 75, 59, 65, 73, 57, 69, 53, 77, 61, 64, 80, 72, 56, 68, 52, 76, 60, 10, 66, 74, 58, 70, 54, 78, 62] 3 0 0 = some (.normal, (mnA_S m n (IntKind.i64.wrap (y0 + (1 : Int)))), [(decide (y0 < neV m (flO n))) = false, (mnA_b4 m n y0 ) = true, (mnA_b3 m n y0 ) = false, (hs m y0) = true, (isW m) = true, (decide (y0 < (64 : Int))) = true]) := by kernel_rfl
theorem mnA_p1 (m n : Int) (y0 : Int) : bodyK Tryd.prog (knMaskKnownL : Vars).length tabNe 3000 (mnA_hd m n) (mnA_S m n y0 ) [(0, .b 1), (1, .b 1), (2, .b 1), (6, .b 0), (10, .b 0)] 3 43 [63, 79, 71, 55, 67, 75, 59, 65, 73, 57, 69, 53, 77, 61, 64, 80, 72, 56, 68, 52, 76, 60, 10, 66, 74, 58, 70, 54, 78, 62] 3 0 0 = some (.normal, (mnA_S m n (IntKind.i64.wrap (y0 + (1 : Int)))), [(mnA_b4 m n y0 ) = false, (mnA_b3 m n y0 ) = false, (hs m y0) = true, (isW m) = true, (decide (y0 < (64 : Int))) = true]) := by kernel_rfl
theorem mnA_p2 (m n : Int) (y0 : Int) : bodyK Tryd.prog (knMaskKnownL : Vars).length tabNe 3000 (mnA_hd m n) (mnA_S m n y0 ) [(0, .b 1), (1, .b 1), (2, .b 0)] 3 43 [63, 79, 71, 55, 67, 75, 59, 65, 73, 57, 69, 53, 77, 61, 64, 80, 72, 56, 68, 52, 76, 60, 10, 66, 74, 58, 70, 54, 78, 62] 3 0 0 = some (.normal, (mnA_S m n (IntKind.i64.wrap (y0 + (1 : Int)))), [(hs m y0) = false, (isW m) = true, (decide (y0 < (64 : Int))) = true]) := by kernel_rfl
theorem mnA_p3 (m n : Int) (y0 : Int) : bodyK Tryd.prog (knMaskKnownL : Vars).length tabNe 3000 (mnA_hd m n) (mnA_S m n y0 ) [(0, .b 0)] 3 43 [63, 79, 71, 55, 67, 75, 59, 65, 73, 57, 69, 53, 77, 61, 64, 80, 72, 56, 68, 52, 76, 60, 10, 66, 74, 58, 70, 54, 78, 62] 43 0 0 = some (.exit 0, mnA_E 0 m n (y0), [(decide (y0 < (64 : Int))) = false]) := by kernel_rfl
theorem mnA_q3 (m n : Int) (y0 : Int) : (mnA_E 0 m n (y0)).hs.next = 43 := by kernel_rfl
theorem mnA_d0 (m n : Int) (hw : isW m = true) (h0 : (m == 0) = false) (he : neE m (flO n) = 0) (hh : hs m (neV m (flO n)) = true) (hs2 : hs m (flO n) = true) (hs3 : (neV m (flO n) != flO n) = false) (hb : 0 ≤ flO n ∧ flO n < 64) (hv : 0 ≤ neV m (flO n) ∧ neV m (flO n) < 64) (y0 : Int) (hi : (decide (0 ≤ y0 ∧ y0 ≤ 64)) = true) (hq0 : (decide (y0 < (64 : Int))) = true) : (isW m) = true := by
  rcases Bool.eq_false_or_eq_true (isW m) with h | h
  · exact h
  · exfalso; (first | (simp_all only [Bool.and_eq_true, Bool.not_eq_true', Bool.false_eq_true, Bool.true_eq_false, reduceCtorEq]; done) | (simp only [sx, sy, eq_self, ne_eq, IntKind.wrap_i64, wrapU64, Int.reduceLT] at * <;> first | contradiction | omega) | omega | ((try simp only [sx, sy, eq_self, ne_eq, IntKind.wrap_i64, wrapU64, Int.reduceLT] at *) <;> omega) | (simp_all; done))
theorem mnA_d1 (m n : Int) (hw : isW m = true) (h0 : (m == 0) = false) (he : neE m (flO n) = 0) (hh : hs m (neV m (flO n)) = true) (hs2 : hs m (flO n) = true) (hs3 : (neV m (flO n) != flO n) = false) (hb : 0 ≤ flO n ∧ flO n < 64) (hv : 0 ≤ neV m (flO n) ∧ neV m (flO n) < 64) (y0 : Int) (hi : (decide (0 ≤ y0 ∧ y0 ≤ 64)) = true) (hq0 : (decide (y0 < (64 : Int))) = true) (hq1 : (isW m) = true) (hq2 : (hs m y0) = true) : (mnA_b3 m n y0 ) = false := by
  rcases Bool.eq_false_or_eq_true (mnA_b3 m n y0 ) with h | h
  · exfalso; (try simp only [mnA_b3] at *); (first | (simp_all only [Bool.and_eq_true, Bool.not_eq_true', Bool.false_eq_true, Bool.true_eq_false, reduceCtorEq]; done) | (simp only [sx, sy, eq_self, ne_eq, IntKind.wrap_i64, wrapU64, Int.reduceLT] at * <;> first | contradiction | omega) | omega | ((try simp only [sx, sy, eq_self, ne_eq, IntKind.wrap_i64, wrapU64, Int.reduceLT] at *) <;> omega) | (simp_all; done))
  · exact h
theorem mnA_d2 (m n : Int) (hw : isW m = true) (h0 : (m == 0) = false) (he : neE m (flO n) = 0) (hh : hs m (neV m (flO n)) = true) (hs2 : hs m (flO n) = true) (hs3 : (neV m (flO n) != flO n) = false) (hb : 0 ≤ flO n ∧ flO n < 64) (hv : 0 ≤ neV m (flO n) ∧ neV m (flO n) < 64) (y0 : Int) (hi : (decide (0 ≤ y0 ∧ y0 ≤ 64)) = true) (hq0 : (decide (y0 < (64 : Int))) = true) (hq1 : (isW m) = true) (hq2 : (hs m y0) = true) (hq3 : (mnA_b3 m n y0 ) = false) (hq4 : (mnA_b4 m n y0 ) = true) : (decide (y0 < neV m (flO n))) = false := by
  rcases Bool.eq_false_or_eq_true (decide (y0 < neV m (flO n))) with h | h
  · exfalso; (try simp only [mnA_b3, mnA_b4] at *); (first | (simp_all only [Bool.and_eq_true, Bool.not_eq_true', Bool.false_eq_true, Bool.true_eq_false, reduceCtorEq]; done) | (simp only [sx, sy, eq_self, ne_eq, IntKind.wrap_i64, wrapU64, Int.reduceLT] at * <;> first | contradiction | omega) | omega | ((try simp only [sx, sy, eq_self, ne_eq, IntKind.wrap_i64, wrapU64, Int.reduceLT] at *) <;> omega) | (simp_all; done))
  · exact h
noncomputable def mnA_f (m n : Int) : Nat → Int → Option (Nat × (Int))
  | 0, _ => none
  | fu + 1, y0 => (bif (decide (0 ≤ y0 ∧ y0 ≤ 64)) then (bif (decide (y0 < (64 : Int))) then (bif (hs m y0) then (bif (IntKind.i64.wrap ((if flO n > y0 then flO n else y0) - if flO n < y0 then flO n else y0) == IntKind.i64.wrap ((if flO n > neV m (flO n) then flO n else neV m (flO n)) - if flO n < neV m (flO n) then flO n else neV m (flO n))) then mnA_f m n fu (IntKind.i64.wrap (y0 + (1 : Int))) else mnA_f m n fu (IntKind.i64.wrap (y0 + (1 : Int)))) else mnA_f m n fu (IntKind.i64.wrap (y0 + (1 : Int)))) else some (0, (y0))) else none)
theorem mnA_fs (m n : Int) (fu : Nat) (y0 : Int) : mnA_f m n (fu + 1) y0 = (bif (decide (0 ≤ y0 ∧ y0 ≤ 64)) then (bif (decide (y0 < (64 : Int))) then (bif (hs m y0) then (bif (IntKind.i64.wrap ((if flO n > y0 then flO n else y0) - if flO n < y0 then flO n else y0) == IntKind.i64.wrap ((if flO n > neV m (flO n) then flO n else neV m (flO n)) - if flO n < neV m (flO n) then flO n else neV m (flO n))) then mnA_f m n fu (IntKind.i64.wrap (y0 + (1 : Int))) else mnA_f m n fu (IntKind.i64.wrap (y0 + (1 : Int)))) else mnA_f m n fu (IntKind.i64.wrap (y0 + (1 : Int)))) else some (0, (y0))) else none) := rfl
theorem mnA_f0 (m n : Int) (y0 : Int) : mnA_f m n 0 y0 = none := rfl
theorem mnA_loop (m n : Int) (hw : isW m = true) (h0 : (m == 0) = false) (he : neE m (flO n) = 0) (hh : hs m (neV m (flO n)) = true) (hs2 : hs m (flO n) = true) (hs3 : (neV m (flO n) != flO n) = false) (hb : 0 ≤ flO n ∧ flO n < 64) (hv : 0 ≤ neV m (flO n) ∧ neV m (flO n) < 64) : ∀ (fu : Nat) (y0 : Int) (kk : Nat) (zz : Int), mnA_f m n fu y0 = some (kk, zz) → VStep (mnA_hd m n).s.hs (mnA_S m n y0 ).hs → RoundsC Tryd.prog knMaskKnownL 3 43 (mnA_hd m n).s.hs (mnA_hd m n).ro (mnA_hd m n).a (mnA_S m n y0 ) (mnA_X kk) (mnA_E kk m n zz ) ∧ ((mnA_E kk m n zz )).hs.next = 43 := by
  intro fu
  induction fu with
  | zero =>
    intro y0 kk zz hf hSz
    have hf := (mnA_f0 m n y0 ).symm.trans hf
    simp at hf
  | succ fu ih =>
    intro y0 kk zz hf hSz
    have hf := (mnA_fs m n fu y0 ).symm.trans hf
    rcases bif_or hf with ⟨hi, hf⟩ | ⟨hi, hf⟩
    case inr => cases hf
    rcases bif_or hf with ⟨hq0, hf⟩ | ⟨hq0, hf⟩
    ·
      have hq1 := mnA_d0 m n hw h0 he hh hs2 hs3 hb hv y0 hi hq0 
      rcases bif_or hf with ⟨hq2, hf⟩ | ⟨hq2, hf⟩
      ·
        have hq3 := mnA_d1 m n hw h0 he hh hs2 hs3 hb hv y0 hi hq0 hq1 hq2 
        rcases bif_or hf with ⟨hq4, hf⟩ | ⟨hq4, hf⟩
        ·
          have hq5 := mnA_d2 m n hw h0 he hh hs2 hs3 hb hv y0 hi hq0 hq1 hq2 hq3 hq4 
          have hb1 := mnA_p0 m n y0 ; have hb2 := body_canon hb1; have hb3 := hb2 ⟨hq5, hq4, hq3, hq2, hq1, hq0, trivial⟩; obtain ⟨sz1, kz1, kz2, kz3⟩ := hb3; obtain ⟨gz1, gz2⟩ := ih (IntKind.i64.wrap (y0 + (1 : Int))) kk zz hf (rounds_step mix (T := tabNe) tabNe_ok (mnA_n m n hw h0 he hh hs2 hs3 hb hv ) (mnA_r m n hw h0 he hh hs2 hs3 hb hv ) (mnA_w m n hw h0 he hh hs2 hs3 hb hv ) kz1 hSz kz2 kz3); exact ⟨rounds_next mix (T := tabNe) tabNe_ok (mnA_n m n hw h0 he hh hs2 hs3 hb hv ) (mnA_r m n hw h0 he hh hs2 hs3 hb hv ) (mnA_w m n hw h0 he hh hs2 hs3 hb hv ) kz1 hSz kz2 kz3 (fun _ => gz1), gz2⟩
        ·
          have hb1 := mnA_p1 m n y0 ; have hb2 := body_canon hb1; have hb3 := hb2 ⟨hq4, hq3, hq2, hq1, hq0, trivial⟩; obtain ⟨sz1, kz1, kz2, kz3⟩ := hb3; obtain ⟨gz1, gz2⟩ := ih (IntKind.i64.wrap (y0 + (1 : Int))) kk zz hf (rounds_step mix (T := tabNe) tabNe_ok (mnA_n m n hw h0 he hh hs2 hs3 hb hv ) (mnA_r m n hw h0 he hh hs2 hs3 hb hv ) (mnA_w m n hw h0 he hh hs2 hs3 hb hv ) kz1 hSz kz2 kz3); exact ⟨rounds_next mix (T := tabNe) tabNe_ok (mnA_n m n hw h0 he hh hs2 hs3 hb hv ) (mnA_r m n hw h0 he hh hs2 hs3 hb hv ) (mnA_w m n hw h0 he hh hs2 hs3 hb hv ) kz1 hSz kz2 kz3 (fun _ => gz1), gz2⟩
      ·
        have hb1 := mnA_p2 m n y0 ; have hb2 := body_canon hb1; have hb3 := hb2 ⟨hq2, hq1, hq0, trivial⟩; obtain ⟨sz1, kz1, kz2, kz3⟩ := hb3; obtain ⟨gz1, gz2⟩ := ih (IntKind.i64.wrap (y0 + (1 : Int))) kk zz hf (rounds_step mix (T := tabNe) tabNe_ok (mnA_n m n hw h0 he hh hs2 hs3 hb hv ) (mnA_r m n hw h0 he hh hs2 hs3 hb hv ) (mnA_w m n hw h0 he hh hs2 hs3 hb hv ) kz1 hSz kz2 kz3); exact ⟨rounds_next mix (T := tabNe) tabNe_ok (mnA_n m n hw h0 he hh hs2 hs3 hb hv ) (mnA_r m n hw h0 he hh hs2 hs3 hb hv ) (mnA_w m n hw h0 he hh hs2 hs3 hb hv ) kz1 hSz kz2 kz3 (fun _ => gz1), gz2⟩
    ·
      injection hf with hf; injection hf with e1 e2; subst e1; subst e2; have hb1 := mnA_p3 m n y0 ; have hb2 := body_canon hb1; have hb3 := hb2 ⟨hq0, trivial⟩; obtain ⟨sz1, kz1, kz2, kz3⟩ := hb3; exact ⟨rounds_end mix (T := tabNe) tabNe_ok (mnA_n m n hw h0 he hh hs2 hs3 hb hv ) (mnA_r m n hw h0 he hh hs2 hs3 hb hv ) (mnA_w m n hw h0 he hh hs2 hs3 hb hv ) kz1 (fun h => by cases h) hSz kz2 kz3, mnA_q3 m n y0 ⟩
theorem mnA_ok (m n : Int) (hw : isW m = true) (h0 : (m == 0) = false) (he : neE m (flO n) = 0) (hh : hs m (neV m (flO n)) = true) (hs2 : hs m (flO n) = true) (hs3 : (neV m (flO n) != flO n) = false) (hb : 0 ≤ flO n ∧ flO n < 64) (hv : 0 ≤ neV m (flO n) ∧ neV m (flO n) < 64) (fu kk : Nat) (zz : Int) (hf : mnA_f m n fu ((0 : Int)) = some (kk, zz)) : ∀ B : Bd, B.L = knMaskKnownL → LoopOk Tryd.prog B (mnA_hd m n).ro (mnA_hd m n).a (mnA_hd m n).s (mnA_X kk) (mnA_E kk m n zz ) := by
  have hSz := begin_step (mnA_n m n hw h0 he hh hs2 hs3 hb hv ) (mnA_r m n hw h0 he hh hs2 hs3 hb hv ) (mnA_w m n hw h0 he hh hs2 hs3 hb hv ) (mnA_e0 m n hw h0 he hh hs2 hs3 hb hv ) (mnA_e1 m n hw h0 he hh hs2 hs3 hb hv )
  obtain ⟨gz1, gz2⟩ := mnA_loop m n hw h0 he hh hs2 hs3 hb hv fu ((0 : Int)) kk zz hf hSz
  exact rounds_ok (mnA_n m n hw h0 he hh hs2 hs3 hb hv ) (Nat.le_of_ble_eq_true (by kernel_rfl)) gz2 (rounds_begin (mnA_n m n hw h0 he hh hs2 hs3 hb hv ) (mnA_r m n hw h0 he hh hs2 hs3 hb hv ) (mnA_w m n hw h0 he hh hs2 hs3 hb hv ) (mnA_e0 m n hw h0 he hh hs2 hs3 hb hv ) (mnA_e1 m n hw h0 he hh hs2 hs3 hb hv ) (fun _ => gz1))

noncomputable def mnB_hd (m n : Int) : Hd := headF Tryd.prog knMaskKnownL tabNe 3000 9 [.int .u64 m, .int .i64 n] [(2, .b 1), (3, .b 0), (4, .b 0), (7, .b 1), (10, .b 0), (13, .b 1), (15, .b 0), (22, .stop)]
noncomputable def mnB_S (m n : Int) (y0 : Int) : St := ((entryK 3 43 [63, 79, 71, 55, 67, 75, 59, 65, 73, 57, 69, 53, 77, 61, 64, 80, 72, 56, 68, 52, 76, 60, 10, 66, 74, 58, 70, 54, 78, 62] 0 0 (mnB_hd m n).s).updF [(9, .int .i64 y0)] [])
theorem mnB_n (m n : Int) (hw : isW m = true) (h0 : (m == 0) = false) (he : neE m (flO n) = 0) (hh : hs m (neV m (flO n)) = true) (hs2 : hs m (flO n) = false) (hb : 0 ≤ flO n ∧ flO n < 64) (hv : 0 ≤ neV m (flO n) ∧ neV m (flO n) < 64) : 3 = (mnB_hd m n).s.hs.next := by kernel_rfl
theorem mnB_r (m n : Int) (hw : isW m = true) (h0 : (m == 0) = false) (he : neE m (flO n) = 0) (hh : hs m (neV m (flO n)) = true) (hs2 : hs m (flO n) = false) (hb : 0 ≤ flO n ∧ flO n < 64) (hv : 0 ≤ neV m (flO n) ∧ neV m (flO n) < 64) : (mnB_hd m n).s.hs.rd < bitOf 3 := by
  have e : (mnB_hd m n).s.hs.rd = 0 := by kernel_rfl
  rw [e]; exact blt_iff.1 (by kernel_rfl)
theorem mnB_w (m n : Int) (hw : isW m = true) (h0 : (m == 0) = false) (he : neE m (flO n) = 0) (hh : hs m (neV m (flO n)) = true) (hs2 : hs m (flO n) = false) (hb : 0 ≤ flO n ∧ flO n < 64) (hv : 0 ≤ neV m (flO n) ∧ neV m (flO n) < 64) : (mnB_hd m n).s.hs.wr < bitOf 3 := by
  have e : (mnB_hd m n).s.hs.wr = 0 := by kernel_rfl
  rw [e]; exact blt_iff.1 (by kernel_rfl)
theorem mnB_e0 (m n : Int) (hw : isW m = true) (h0 : (m == 0) = false) (he : neE m (flO n) = 0) (hh : hs m (neV m (flO n)) = true) (hs2 : hs m (flO n) = false) (hb : 0 ≤ flO n ∧ flO n < 64) (hv : 0 ≤ neV m (flO n) ∧ neV m (flO n) < 64) : canonS 3 43 [] [63, 79, 71, 55, 67, 75, 59, 65, 73, 57, 69, 53, 77, 61, 64, 80, 72, 56, 68, 52, 76, 60, 10, 66, 74, 58, 70, 54, 78, 62] 3 0 0 (mnB_hd m n).s = some (mnB_S m n ((0 : Int))) := by kernel_rfl
theorem mnB_e1 (m n : Int) (hw : isW m = true) (h0 : (m == 0) = false) (he : neE m (flO n) = 0) (hh : hs m (neV m (flO n)) = true) (hs2 : hs m (flO n) = false) (hb : 0 ≤ flO n ∧ flO n < 64) (hv : 0 ≤ neV m (flO n) ∧ neV m (flO n) < 64) : canonOk 3 43 [] 3 (mnB_hd m n).s = true := canonOkF_eq.symm.trans (by kernel_rfl)
def mnB_X : Nat → VX
  | 0 => .ret
  | 1 => .exit 0
  | _ => .normal
noncomputable def mnB_E (kE : Nat) (m n : Int) (y0 : Int) : St := match kE with
  | 0 => ((bodySt (bodyK Tryd.prog (knMaskKnownL : Vars).length tabNe 3000 (mnB_hd m n) (mnB_S m n y0 ) [(0, .b 1), (1, .b 1), (2, .b 1), (6, .b 1)] 3 43 [63, 79, 71, 55, 67, 75, 59, 65, 73, 57, 69, 53, 77, 61, 64, 80, 72, 56, 68, 52, 76, 60, 10, 66, 74, 58, 70, 54, 78, 62] 43 0 0)).updF [(9, .int .i64 y0)] [])
  | 1 => ((bodySt (bodyK Tryd.prog (knMaskKnownL : Vars).length tabNe 3000 (mnB_hd m n) (mnB_S m n y0 ) [(0, .b 0)] 3 43 [63, 79, 71, 55, 67, 75, 59, 65, 73, 57, 69, 53, 77, 61, 64, 80, 72, 56, 68, 52, 76, 60, 10, 66, 74, 58, 70, 54, 78, 62] 43 0 0)).updF [(9, .int .i64 y0)] [])
  | _ => (mnB_hd m n).s
noncomputable def mnB_b3 (m n : Int) (y0 : Int) : Bool := decide (IntKind.i64.wrap ((if flO n > y0 then flO n else y0) - if flO n < y0 then flO n else y0) < IntKind.i64.wrap ((if flO n > neV m (flO n) then flO n else neV m (flO n)) - if flO n < neV m (flO n) then flO n else neV m (flO n)))
noncomputable def mnB_b4 (m n : Int) (y0 : Int) : Bool := IntKind.i64.wrap ((if flO n > y0 then flO n else y0) - if flO n < y0 then flO n else y0) == IntKind.i64.wrap ((if flO n > neV m (flO n) then flO n else neV m (flO n)) - if flO n < neV m (flO n) then flO n else neV m (flO n))
theorem mnB_p0 (m n : Int) (y0 : Int) : bodyK Tryd.prog (knMaskKnownL : Vars).length tabNe 3000 (mnB_hd m n) (mnB_S m n y0 ) [(0, .b 1), (1, .b 1), (2, .b 1), (6, .b 1)] 3 43 [63, 79, 71, 55, 67, 75, 59, 65, 73, 57, 69, 53, 77, 61, 64, 80, 72, 56, 68, 52, 76, 60, 10, 66, 74, 58, 70, 54, 78, 62] 43 0 0 = some (.ret, mnB_E 0 m n (y0), [(mnB_b3 m n y0 ) = true, (hs m y0) = true, (isW m) = true, (decide (y0 < (64 : Int))) = true]) := by kernel_rfl
theorem mnB_q0 (m n : Int) (y0 : Int) : (mnB_E 0 m n (y0)).hs.next = 43 := by kernel_rfl
theorem mnB_p1 (m n : Int) (y0 : Int) : bodyK Tryd.prog (knMaskKnownL : Vars).length tabNe 3000 (mnB_hd m n) (mnB_S m n y0 ) [(0, .b 1), (1, .b 1), (2, .b 1), (6, .b 0), (10, .b 1), (18, .b 1)] 3 43 [63, 79, 71, 55, 67, 75, 59, 65, 73, 57, 69, 53, 77, 61, 64, 80, 72, 56, 68, 52, 76, 60, 10, 66, 74, 58, 70, 54, 78, 62] 43 0 0 = some (.ret, mnB_E 0 m n (y0), [(decide (y0 < neV m (flO n))) = true, (mnB_b4 m n y0 ) = true, (mnB_b3 m n y0 ) = false, (hs m y0) = true, (isW m) = true, (decide (y0 < (64 : Int))) = true]) := by kernel_rfl
theorem mnB_q1 (m n : Int) (y0 : Int) : (mnB_E 0 m n (y0)).hs.next = 43 := by kernel_rfl
theorem mnB_p2 (m n : Int) (y0 : Int) : bodyK Tryd.prog (knMaskKnownL : Vars).length tabNe 3000 (mnB_hd m n) (mnB_S m n y0 ) [(0, .b 1), (1, .b 1), (2, .b 1), (6, .b 0), (10, .b 1), (18, .b 0)] 3 43 [63, 79, 71, 55, 67, 75, 59, 65, 73, 57, 69, 53, 77, 61, 64, 80, 72, 56, 68, 52, 76, 60, 10, 66, 74, 58, 70, 54, 78, 62] 3 0 0 = some (.normal, (mnB_S m n (IntKind.i64.wrap (y0 + (1 : Int)))), [(decide (y0 < neV m (flO n))) = false, (mnB_b4 m n y0 ) = true, (mnB_b3 m n y0 ) = false, (hs m y0) = true, (isW m) = true, (decide (y0 < (64 : Int))) = true]) := by kernel_rfl
theorem mnB_p3 (m n : Int) (y0 : Int) : bodyK Tryd.prog (knMaskKnownL : Vars).length tabNe 3000 (mnB_hd m n) (mnB_S m n y0 ) [(0, .b 1), (1, .b 1), (2, .b 1), (6, .b 0), (10, .b 0)] 3 43 [63, 79, 71, 55, 67, 75, 59, 65, 73, 57, 69, 53, 77, 61, 64, 80, 72, 56, 68, 52, 76, 60, 10, 66, 74, 58, 70, 54, 78, 62] 3 0 0 = some (.normal, (mnB_S m n (IntKind.i64.wrap (y0 + (1 : Int)))), [(mnB_b4 m n y0 ) = false, (mnB_b3 m n y0 ) = false, (hs m y0) = true, (isW m) = true, (decide (y0 < (64 : Int))) = true]) := by kernel_rfl
theorem mnB_p4 (m n : Int) (y0 : Int) : bodyK Tryd.prog (knMaskKnownL : Vars).length tabNe 3000 (mnB_hd m n) (mnB_S m n y0 ) [(0, .b 1), (1, .b 1), (2, .b 0)] 3 43 [63, 79, 71, 55, 67, 75, 59, 65, 73, 57, 69, 53, 77, 61, 64, 80, 72, 56, 68, 52, 76, 60, 10, 66, 74, 58, 70, 54, 78, 62] 3 0 0 = some (.normal, (mnB_S m n (IntKind.i64.wrap (y0 + (1 : Int)))), [(hs m y0) = false, (isW m) = true, (decide (y0 < (64 : Int))) = true]) := by kernel_rfl
theorem mnB_p5 (m n : Int) (y0 : Int) : bodyK Tryd.prog (knMaskKnownL : Vars).length tabNe 3000 (mnB_hd m n) (mnB_S m n y0 ) [(0, .b 0)] 3 43 [63, 79, 71, 55, 67, 75, 59, 65, 73, 57, 69, 53, 77, 61, 64, 80, 72, 56, 68, 52, 76, 60, 10, 66, 74, 58, 70, 54, 78, 62] 43 0 0 = some (.exit 0, mnB_E 1 m n (y0), [(decide (y0 < (64 : Int))) = false]) := by kernel_rfl
theorem mnB_q5 (m n : Int) (y0 : Int) : (mnB_E 1 m n (y0)).hs.next = 43 := by kernel_rfl
theorem mnB_d0 (m n : Int) (hw : isW m = true) (h0 : (m == 0) = false) (he : neE m (flO n) = 0) (hh : hs m (neV m (flO n)) = true) (hs2 : hs m (flO n) = false) (hb : 0 ≤ flO n ∧ flO n < 64) (hv : 0 ≤ neV m (flO n) ∧ neV m (flO n) < 64) (y0 : Int) (hi : (decide (0 ≤ y0 ∧ y0 ≤ 64)) = true) (hq0 : (decide (y0 < (64 : Int))) = true) : (isW m) = true := by
  rcases Bool.eq_false_or_eq_true (isW m) with h | h
  · exact h
  · exfalso; (first | (simp_all only [Bool.and_eq_true, Bool.not_eq_true', Bool.false_eq_true, Bool.true_eq_false, reduceCtorEq]; done) | (simp only [sx, sy, eq_self, ne_eq, IntKind.wrap_i64, wrapU64, Int.reduceLT] at * <;> first | contradiction | omega) | omega | ((try simp only [sx, sy, eq_self, ne_eq, IntKind.wrap_i64, wrapU64, Int.reduceLT] at *) <;> omega) | (simp_all; done))
noncomputable def mnB_f (m n : Int) : Nat → Int → Option (Nat × (Int))
  | 0, _ => none
  | fu + 1, y0 => (bif (decide (0 ≤ y0 ∧ y0 ≤ 64)) then (bif (decide (y0 < (64 : Int))) then (bif (hs m y0) then (bif (decide (IntKind.i64.wrap ((if flO n > y0 then flO n else y0) - if flO n < y0 then flO n else y0) < IntKind.i64.wrap ((if flO n > neV m (flO n) then flO n else neV m (flO n)) - if flO n < neV m (flO n) then flO n else neV m (flO n)))) then some (0, (y0)) else (bif (IntKind.i64.wrap ((if flO n > y0 then flO n else y0) - if flO n < y0 then flO n else y0) == IntKind.i64.wrap ((if flO n > neV m (flO n) then flO n else neV m (flO n)) - if flO n < neV m (flO n) then flO n else neV m (flO n))) then (bif (decide (y0 < neV m (flO n))) then some (0, (y0)) else mnB_f m n fu (IntKind.i64.wrap (y0 + (1 : Int)))) else mnB_f m n fu (IntKind.i64.wrap (y0 + (1 : Int))))) else mnB_f m n fu (IntKind.i64.wrap (y0 + (1 : Int)))) else some (1, (y0))) else none)
theorem mnB_fs (m n : Int) (fu : Nat) (y0 : Int) : mnB_f m n (fu + 1) y0 = (bif (decide (0 ≤ y0 ∧ y0 ≤ 64)) then (bif (decide (y0 < (64 : Int))) then (bif (hs m y0) then (bif (decide (IntKind.i64.wrap ((if flO n > y0 then flO n else y0) - if flO n < y0 then flO n else y0) < IntKind.i64.wrap ((if flO n > neV m (flO n) then flO n else neV m (flO n)) - if flO n < neV m (flO n) then flO n else neV m (flO n)))) then some (0, (y0)) else (bif (IntKind.i64.wrap ((if flO n > y0 then flO n else y0) - if flO n < y0 then flO n else y0) == IntKind.i64.wrap ((if flO n > neV m (flO n) then flO n else neV m (flO n)) - if flO n < neV m (flO n) then flO n else neV m (flO n))) then (bif (decide (y0 < neV m (flO n))) then some (0, (y0)) else mnB_f m n fu (IntKind.i64.wrap (y0 + (1 : Int)))) else mnB_f m n fu (IntKind.i64.wrap (y0 + (1 : Int))))) else mnB_f m n fu (IntKind.i64.wrap (y0 + (1 : Int)))) else some (1, (y0))) else none) := rfl
theorem mnB_f0 (m n : Int) (y0 : Int) : mnB_f m n 0 y0 = none := rfl
theorem mnB_loop (m n : Int) (hw : isW m = true) (h0 : (m == 0) = false) (he : neE m (flO n) = 0) (hh : hs m (neV m (flO n)) = true) (hs2 : hs m (flO n) = false) (hb : 0 ≤ flO n ∧ flO n < 64) (hv : 0 ≤ neV m (flO n) ∧ neV m (flO n) < 64) : ∀ (fu : Nat) (y0 : Int) (kk : Nat) (zz : Int), mnB_f m n fu y0 = some (kk, zz) → VStep (mnB_hd m n).s.hs (mnB_S m n y0 ).hs → RoundsC Tryd.prog knMaskKnownL 3 43 (mnB_hd m n).s.hs (mnB_hd m n).ro (mnB_hd m n).a (mnB_S m n y0 ) (mnB_X kk) (mnB_E kk m n zz ) ∧ ((mnB_E kk m n zz )).hs.next = 43 := by
  intro fu
  induction fu with
  | zero =>
    intro y0 kk zz hf hSz
    have hf := (mnB_f0 m n y0 ).symm.trans hf
    simp at hf
  | succ fu ih =>
    intro y0 kk zz hf hSz
    have hf := (mnB_fs m n fu y0 ).symm.trans hf
    rcases bif_or hf with ⟨hi, hf⟩ | ⟨hi, hf⟩
    case inr => cases hf
    rcases bif_or hf with ⟨hq0, hf⟩ | ⟨hq0, hf⟩
    ·
      have hq1 := mnB_d0 m n hw h0 he hh hs2 hb hv y0 hi hq0 
      rcases bif_or hf with ⟨hq2, hf⟩ | ⟨hq2, hf⟩
      ·
        rcases bif_or hf with ⟨hq3, hf⟩ | ⟨hq3, hf⟩
        ·
          injection hf with hf; injection hf with e1 e2; subst e1; subst e2; have hb1 := mnB_p0 m n y0 ; have hb2 := body_canon hb1; have hb3 := hb2 ⟨hq3, hq2, hq1, hq0, trivial⟩; obtain ⟨sz1, kz1, kz2, kz3⟩ := hb3; exact ⟨rounds_end mix (T := tabNe) tabNe_ok (mnB_n m n hw h0 he hh hs2 hb hv ) (mnB_r m n hw h0 he hh hs2 hb hv ) (mnB_w m n hw h0 he hh hs2 hb hv ) kz1 (fun h => by cases h) hSz kz2 kz3, mnB_q0 m n y0 ⟩
        ·
          rcases bif_or hf with ⟨hq4, hf⟩ | ⟨hq4, hf⟩
          ·
            rcases bif_or hf with ⟨hq5, hf⟩ | ⟨hq5, hf⟩
            ·
              injection hf with hf; injection hf with e1 e2; subst e1; subst e2; have hb1 := mnB_p1 m n y0 ; have hb2 := body_canon hb1; have hb3 := hb2 ⟨hq5, hq4, hq3, hq2, hq1, hq0, trivial⟩; obtain ⟨sz1, kz1, kz2, kz3⟩ := hb3; exact ⟨rounds_end mix (T := tabNe) tabNe_ok (mnB_n m n hw h0 he hh hs2 hb hv ) (mnB_r m n hw h0 he hh hs2 hb hv ) (mnB_w m n hw h0 he hh hs2 hb hv ) kz1 (fun h => by cases h) hSz kz2 kz3, mnB_q1 m n y0 ⟩
            ·
              have hb1 := mnB_p2 m n y0 ; have hb2 := body_canon hb1; have hb3 := hb2 ⟨hq5, hq4, hq3, hq2, hq1, hq0, trivial⟩; obtain ⟨sz1, kz1, kz2, kz3⟩ := hb3; obtain ⟨gz1, gz2⟩ := ih (IntKind.i64.wrap (y0 + (1 : Int))) kk zz hf (rounds_step mix (T := tabNe) tabNe_ok (mnB_n m n hw h0 he hh hs2 hb hv ) (mnB_r m n hw h0 he hh hs2 hb hv ) (mnB_w m n hw h0 he hh hs2 hb hv ) kz1 hSz kz2 kz3); exact ⟨rounds_next mix (T := tabNe) tabNe_ok (mnB_n m n hw h0 he hh hs2 hb hv ) (mnB_r m n hw h0 he hh hs2 hb hv ) (mnB_w m n hw h0 he hh hs2 hb hv ) kz1 hSz kz2 kz3 (fun _ => gz1), gz2⟩
          ·
            have hb1 := mnB_p3 m n y0 ; have hb2 := body_canon hb1; have hb3 := hb2 ⟨hq4, hq3, hq2, hq1, hq0, trivial⟩; obtain ⟨sz1, kz1, kz2, kz3⟩ := hb3; obtain ⟨gz1, gz2⟩ := ih (IntKind.i64.wrap (y0 + (1 : Int))) kk zz hf (rounds_step mix (T := tabNe) tabNe_ok (mnB_n m n hw h0 he hh hs2 hb hv ) (mnB_r m n hw h0 he hh hs2 hb hv ) (mnB_w m n hw h0 he hh hs2 hb hv ) kz1 hSz kz2 kz3); exact ⟨rounds_next mix (T := tabNe) tabNe_ok (mnB_n m n hw h0 he hh hs2 hb hv ) (mnB_r m n hw h0 he hh hs2 hb hv ) (mnB_w m n hw h0 he hh hs2 hb hv ) kz1 hSz kz2 kz3 (fun _ => gz1), gz2⟩
      ·
        have hb1 := mnB_p4 m n y0 ; have hb2 := body_canon hb1; have hb3 := hb2 ⟨hq2, hq1, hq0, trivial⟩; obtain ⟨sz1, kz1, kz2, kz3⟩ := hb3; obtain ⟨gz1, gz2⟩ := ih (IntKind.i64.wrap (y0 + (1 : Int))) kk zz hf (rounds_step mix (T := tabNe) tabNe_ok (mnB_n m n hw h0 he hh hs2 hb hv ) (mnB_r m n hw h0 he hh hs2 hb hv ) (mnB_w m n hw h0 he hh hs2 hb hv ) kz1 hSz kz2 kz3); exact ⟨rounds_next mix (T := tabNe) tabNe_ok (mnB_n m n hw h0 he hh hs2 hb hv ) (mnB_r m n hw h0 he hh hs2 hb hv ) (mnB_w m n hw h0 he hh hs2 hb hv ) kz1 hSz kz2 kz3 (fun _ => gz1), gz2⟩
    ·
      injection hf with hf; injection hf with e1 e2; subst e1; subst e2; have hb1 := mnB_p5 m n y0 ; have hb2 := body_canon hb1; have hb3 := hb2 ⟨hq0, trivial⟩; obtain ⟨sz1, kz1, kz2, kz3⟩ := hb3; exact ⟨rounds_end mix (T := tabNe) tabNe_ok (mnB_n m n hw h0 he hh hs2 hb hv ) (mnB_r m n hw h0 he hh hs2 hb hv ) (mnB_w m n hw h0 he hh hs2 hb hv ) kz1 (fun h => by cases h) hSz kz2 kz3, mnB_q5 m n y0 ⟩
theorem mnB_ok (m n : Int) (hw : isW m = true) (h0 : (m == 0) = false) (he : neE m (flO n) = 0) (hh : hs m (neV m (flO n)) = true) (hs2 : hs m (flO n) = false) (hb : 0 ≤ flO n ∧ flO n < 64) (hv : 0 ≤ neV m (flO n) ∧ neV m (flO n) < 64) (fu kk : Nat) (zz : Int) (hf : mnB_f m n fu ((0 : Int)) = some (kk, zz)) : ∀ B : Bd, B.L = knMaskKnownL → LoopOk Tryd.prog B (mnB_hd m n).ro (mnB_hd m n).a (mnB_hd m n).s (mnB_X kk) (mnB_E kk m n zz ) := by
  have hSz := begin_step (mnB_n m n hw h0 he hh hs2 hb hv ) (mnB_r m n hw h0 he hh hs2 hb hv ) (mnB_w m n hw h0 he hh hs2 hb hv ) (mnB_e0 m n hw h0 he hh hs2 hb hv ) (mnB_e1 m n hw h0 he hh hs2 hb hv )
  obtain ⟨gz1, gz2⟩ := mnB_loop m n hw h0 he hh hs2 hb hv fu ((0 : Int)) kk zz hf hSz
  exact rounds_ok (mnB_n m n hw h0 he hh hs2 hb hv ) (Nat.le_of_ble_eq_true (by kernel_rfl)) gz2 (rounds_begin (mnB_n m n hw h0 he hh hs2 hb hv ) (mnB_r m n hw h0 he hh hs2 hb hv ) (mnB_w m n hw h0 he hh hs2 hb hv ) (mnB_e0 m n hw h0 he hh hs2 hb hv ) (mnB_e1 m n hw h0 he hh hs2 hb hv ) (fun _ => gz1))

theorem mn1_p0 (m n : Int) (mnA_z0 : Int)  (hw : isW m = true) (h0 : (m == 0) = false) (he : neE m (flO n) = 0) (hh : hs m (neV m (flO n)) = true) (hs2 : hs m (flO n) = true) (hs3 : (neV m (flO n) != flO n) = false) (hb : 0 ≤ flO n ∧ flO n < 64) (hv : 0 ≤ neV m (flO n) ∧ neV m (flO n) < 64) (mnA_k2 : (isW m) = true) (mnA_k3 : (m == (0 : Int)) = false) (mnA_k4 : (neE m (flO n) != (0 : Int)) = false) (mnA_k7 : (isW m) = true) (mnA_k10 : (!hs m (neV m (flO n))) = false) (mnA_k13 : (isW m) = true) (mnA_k15 : (hs m (flO n)) = true) (mnA_k21 : (neV m (flO n) != flO n) = false) (mnA_l : ∀ B : Bd, B.L = knMaskKnownL → LoopOk Tryd.prog B (mnA_hd m n).ro (mnA_hd m n).a (mnA_hd m n).s (mnA_X 0) (mnA_E 0 m n mnA_z0 )) : Known Tryd.prog knMaskKnownL 9 [.int .u64 m, .int .i64 n] (.bool (true)) :=
  open_res mix (GOk.add tabNe_ok mnA_l) (T := (GTab.add tabNe 11 (mnA_hd m n).ro (mnA_hd m n).a (mnA_hd m n).s (mnA_X 0) (mnA_E 0 m n mnA_z0 ) (by kernel_rfl))) (fuel := 3000) (ans := [(2, .b 1), (3, .b 0), (4, .b 0), (7, .b 1), (10, .b 0), (13, .b 1), (15, .b 1), (21, .b 0), (22, .loop (mnA_X 0) (mnA_E 0 m n mnA_z0 )), ]) (log := [LoopRes Tryd.prog (knMaskKnownL : Vars).length (GTab.add tabNe 11 (mnA_hd m n).ro (mnA_hd m n).a (mnA_hd m n).s (mnA_X 0) (mnA_E 0 m n mnA_z0 ) (by kernel_rfl)) (mnA_hd m n).ro (mnA_hd m n).a (mnA_hd m n).s (mnA_X 0) (mnA_E 0 m n mnA_z0 ), (neV m (flO n) != flO n) = false, (hs m (flO n)) = true, (isW m) = true, (!hs m (neV m (flO n))) = false, (isW m) = true, (neE m (flO n) != (0 : Int)) = false, (m == (0 : Int)) = false, (isW m) = true]) (by kernel_rfl) ⟨(loop_known2 add_eq), mnA_k21, mnA_k15, mnA_k13, mnA_k10, mnA_k7, mnA_k4, mnA_k3, mnA_k2, trivial⟩ (by kernel_rfl)
set_option maxHeartbeats 8000000 in
theorem mn1 (m n : Int) (mnA_z0 : Int)  (hw : isW m = true) (h0 : (m == 0) = false) (he : neE m (flO n) = 0) (hh : hs m (neV m (flO n)) = true) (hs2 : hs m (flO n) = true) (hs3 : (neV m (flO n) != flO n) = false) (hb : 0 ≤ flO n ∧ flO n < 64) (hv : 0 ≤ neV m (flO n) ∧ neV m (flO n) < 64) (mnA_k2 : (isW m) = true) (mnA_k3 : (m == (0 : Int)) = false) (mnA_k4 : (neE m (flO n) != (0 : Int)) = false) (mnA_k7 : (isW m) = true) (mnA_k10 : (!hs m (neV m (flO n))) = false) (mnA_k13 : (isW m) = true) (mnA_k15 : (hs m (flO n)) = true) (mnA_k21 : (neV m (flO n) != flO n) = false) (mnA_l : ∀ B : Bd, B.L = knMaskKnownL → LoopOk Tryd.prog B (mnA_hd m n).ro (mnA_hd m n).a (mnA_hd m n).s (mnA_X 0) (mnA_E 0 m n mnA_z0 )) : Known Tryd.prog knMaskKnownL 9 [.int .u64 m, .int .i64 n] (.bool (true)) := by
  exact mn1_p0 m n mnA_z0 hw h0 he hh hs2 hs3 hb hv mnA_k2 mnA_k3 mnA_k4 mnA_k7 mnA_k10 mnA_k13 mnA_k15 mnA_k21 mnA_l

theorem mn2_p0 (m n : Int) (mnB_z0 : Int)  (hw : isW m = true) (h0 : (m == 0) = false) (he : neE m (flO n) = 0) (hh : hs m (neV m (flO n)) = true) (hs2 : hs m (flO n) = false) (hb : 0 ≤ flO n ∧ flO n < 64) (hv : 0 ≤ neV m (flO n) ∧ neV m (flO n) < 64) (mnB_k2 : (isW m) = true) (mnB_k3 : (m == (0 : Int)) = false) (mnB_k4 : (neE m (flO n) != (0 : Int)) = false) (mnB_k7 : (isW m) = true) (mnB_k10 : (!hs m (neV m (flO n))) = false) (mnB_k13 : (isW m) = true) (mnB_k15 : (hs m (flO n)) = false) (mnB_l : ∀ B : Bd, B.L = knMaskKnownL → LoopOk Tryd.prog B (mnB_hd m n).ro (mnB_hd m n).a (mnB_hd m n).s (mnB_X 1) (mnB_E 1 m n mnB_z0 )) : Known Tryd.prog knMaskKnownL 9 [.int .u64 m, .int .i64 n] (.bool (true)) :=
  open_res mix (GOk.add tabNe_ok mnB_l) (T := (GTab.add tabNe 11 (mnB_hd m n).ro (mnB_hd m n).a (mnB_hd m n).s (mnB_X 1) (mnB_E 1 m n mnB_z0 ) (by kernel_rfl))) (fuel := 3000) (ans := [(2, .b 1), (3, .b 0), (4, .b 0), (7, .b 1), (10, .b 0), (13, .b 1), (15, .b 0), (22, .loop (mnB_X 1) (mnB_E 1 m n mnB_z0 )), ]) (log := [LoopRes Tryd.prog (knMaskKnownL : Vars).length (GTab.add tabNe 11 (mnB_hd m n).ro (mnB_hd m n).a (mnB_hd m n).s (mnB_X 1) (mnB_E 1 m n mnB_z0 ) (by kernel_rfl)) (mnB_hd m n).ro (mnB_hd m n).a (mnB_hd m n).s (mnB_X 1) (mnB_E 1 m n mnB_z0 ), (hs m (flO n)) = false, (isW m) = true, (!hs m (neV m (flO n))) = false, (isW m) = true, (neE m (flO n) != (0 : Int)) = false, (m == (0 : Int)) = false, (isW m) = true]) (by kernel_rfl) ⟨(loop_known2 add_eq), mnB_k15, mnB_k13, mnB_k10, mnB_k7, mnB_k4, mnB_k3, mnB_k2, trivial⟩ (by kernel_rfl)
set_option maxHeartbeats 8000000 in
theorem mn2 (m n : Int) (mnB_z0 : Int)  (hw : isW m = true) (h0 : (m == 0) = false) (he : neE m (flO n) = 0) (hh : hs m (neV m (flO n)) = true) (hs2 : hs m (flO n) = false) (hb : 0 ≤ flO n ∧ flO n < 64) (hv : 0 ≤ neV m (flO n) ∧ neV m (flO n) < 64) (mnB_k2 : (isW m) = true) (mnB_k3 : (m == (0 : Int)) = false) (mnB_k4 : (neE m (flO n) != (0 : Int)) = false) (mnB_k7 : (isW m) = true) (mnB_k10 : (!hs m (neV m (flO n))) = false) (mnB_k13 : (isW m) = true) (mnB_k15 : (hs m (flO n)) = false) (mnB_l : ∀ B : Bd, B.L = knMaskKnownL → LoopOk Tryd.prog B (mnB_hd m n).ro (mnB_hd m n).a (mnB_hd m n).s (mnB_X 1) (mnB_E 1 m n mnB_z0 )) : Known Tryd.prog knMaskKnownL 9 [.int .u64 m, .int .i64 n] (.bool (true)) := by
  exact mn2_p0 m n mnB_z0 hw h0 he hh hs2 hb hv mnB_k2 mnB_k3 mnB_k4 mnB_k7 mnB_k10 mnB_k13 mnB_k15 mnB_l

noncomputable def mn0_c0 (m n : Int) : Bool := (neE m (flO n) == (6 : Int))
theorem mn0_p0 (m n : Int) (hw : isW m = true) (h0 : (m == 0) = true) (he : neE m (flO n) = 6) (hq0 : (isW m) = true) (hq1 : (m == (0 : Int)) = true) : Known Tryd.prog knMaskKnownL 9 [.int .u64 m, .int .i64 n] (.bool (neE m (flO n) == (6 : Int))) :=
  open_res mix tabNe_ok (T := tabNe) (fuel := 3000) (ans := [(2, .b 1), (3, .b 1)]) (log := [(m == (0 : Int)) = true, (isW m) = true]) (by kernel_rfl) ⟨hq1, hq0, trivial⟩ (by kernel_rfl)
set_option maxHeartbeats 8000000 in
theorem mn0 (m n : Int) (hw : isW m = true) (h0 : (m == 0) = true) (he : neE m (flO n) = 6) : Known Tryd.prog knMaskKnownL 9 [.int .u64 m, .int .i64 n] (.bool (mn0_c0 m n)) := by
  have hq0 : (isW m) = true := by
    rcases Bool.eq_false_or_eq_true (isW m) with h | h
    · exact h
    · exfalso; (first | (simp_all only [Bool.and_eq_true, Bool.not_eq_true', Bool.false_eq_true, Bool.true_eq_false, reduceCtorEq]; done) | (simp only [sx, sy, eq_self, ne_eq, IntKind.wrap_i64, wrapU64, Int.reduceLT] at * <;> first | contradiction | omega) | omega | ((try simp only [sx, sy, eq_self, ne_eq, IntKind.wrap_i64, wrapU64, Int.reduceLT] at *) <;> omega) | (simp_all; done))
  have hq1 : (m == (0 : Int)) = true := by
    rcases Bool.eq_false_or_eq_true (m == (0 : Int)) with h | h
    · exact h
    · exfalso; (first | (simp_all only [Bool.and_eq_true, Bool.not_eq_true', Bool.false_eq_true, Bool.true_eq_false, reduceCtorEq]; done) | (simp only [sx, sy, eq_self, ne_eq, IntKind.wrap_i64, wrapU64, Int.reduceLT] at * <;> first | contradiction | omega) | omega | ((try simp only [sx, sy, eq_self, ne_eq, IntKind.wrap_i64, wrapU64, Int.reduceLT] at *) <;> omega) | (simp_all; done))
  have e0 : mn0_c0 m n = (neE m (flO n) == (6 : Int)) := rfl; rw [e0]; exact mn0_p0 m n hw h0 he hq0 hq1

end Go.Proofs.YtboobndcgilmlaaDoor
