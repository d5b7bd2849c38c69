/- Layer 9: the reference's Path; Stop and Turn of both. -/
import Derived.Test.YtaohbffjfedcgaaMb
import Derived.Test.YtaohbffjfedcgaaOgE0
import Derived.Test.YtaohbffjfedcgaaOgF
import Derived.ProofKit
import Derived.IntWalk
namespace Go.Proofs.Ytaohbffjfedcgaa
open Go Go.RowKit
set_option linter.unusedVariables false
set_option linter.unusedSimpArgs false
set_option linter.unnecessarySimpa false
set_option maxHeartbeats 8000000
set_option maxRecDepth 100000
theorem qRtk (p g s m : Int) (hg : (decide (ckM p g s m = 0)) = true) : Known Try.prog [] 43 [.agg #[.int .i64 p, .int .i64 g, .int .i64 s, .int .i64 m]] (.agg #[.int .i64 (tkP p g s m), .int .i64 g, .int .i64 (tkS p g s m), .int .i64 m]) := rTick_is (of_decide_eq_true hg)
noncomputable def qRtk_k : List Value → Option (Bool × Value)
  | [.agg ⟨[.int .i64 p, .int .i64 g, .int .i64 s, .int .i64 m]⟩] => some (decide (ckM p g s m = 0), .agg #[.int .i64 (tkP p g s m), .int .i64 g, .int .i64 (tkS p g s m), .int .i64 m])
  | _ => none
theorem qRtk_ok : ∀ args v, qRtk_k args = some (true, v) → Known Try.prog [] 43 args v := by
  intro args v h
  unfold qRtk_k at h
  split at h
  · injection h with h; injection h with hg h; subst h; exact qRtk _ _ _ _ hg
  · cases h
noncomputable def tabM : GTab := (GTab.fn 43 qRtk_k tabB)
theorem tabM_ok : GOk Try.prog [] tabM := (GOk.fn qRtk_ok tabB_ok)
noncomputable def rPt_hd (p g s m n : Int) : Hd := headD Try.prog [] tabM 3000 23 [.val (.agg #[.int .i64 p, .int .i64 g, .int .i64 s, .int .i64 m]), .val (.int .i64 n)] [(1, .b 1), (4, .b 0), (9, .b 0), (10, .b 0), (11, .stop)]
noncomputable def rPt_R (p g s m n : Int) (rc0 : Array Value) (rn0 : Nat) (y1 : Int) (y2 : Int) (y3 : Int) : St := (((entryR Try.prog [(.slot 7, 3)] 1 41 [31, 39, 35, 27, 33, 25, 37, 29, 32, 24, 40, 36, 28, 34, 26, 38, 30] 1 1 (rPt_hd p g s m n).s).rows [(1, rc0, 3)]).updF [(7, .complex .f64 1 rn0), (8, .int .i64 y1)] [(0, 0, .int .i64 y2), (0, 2, .int .i64 y3)])
noncomputable def rPt_S (p g s m n : Int) (y0 : List Int) (y1 : Int) (y2 : Int) (y3 : Int) : St := (((entryR Try.prog [(.slot 7, 3)] 1 41 [31, 39, 35, 27, 33, 25, 37, 29, 32, 24, 40, 36, 28, 34, 26, 38, 30] 1 1 (rPt_hd p g s m n).s).rows [(1, (rowA gI y0.reverse), 3)]).updF [(7, .complex .f64 1 y0.length), (8, .int .i64 y1)] [(0, 0, .int .i64 y2), (0, 2, .int .i64 y3)])
theorem rPt_n (p g s m n : Int) (h3 : 0 ≤ n ∧ n ≤ 1000) (h4 : ckM p g s m = 0) (h5 : 0 ≤ p ∧ p ≤ 63000 ∧ 0 ≤ g ∧ g ≤ 63000) : 1 = (rPt_hd p g s m n).s.hs.next := by kernel_rfl
theorem rPt_r (p g s m n : Int) (h3 : 0 ≤ n ∧ n ≤ 1000) (h4 : ckM p g s m = 0) (h5 : 0 ≤ p ∧ p ≤ 63000 ∧ 0 ≤ g ∧ g ≤ 63000) : (rPt_hd p g s m n).s.hs.rd < bitOf 1 := by
  have e : (rPt_hd p g s m n).s.hs.rd = 1 := by kernel_rfl
  rw [e]; exact blt_iff.1 (by kernel_rfl)
theorem rPt_w (p g s m n : Int) (h3 : 0 ≤ n ∧ n ≤ 1000) (h4 : ckM p g s m = 0) (h5 : 0 ≤ p ∧ p ≤ 63000 ∧ 0 ≤ g ∧ g ≤ 63000) : (rPt_hd p g s m n).s.hs.wr < bitOf 1 := by
  have e : (rPt_hd p g s m n).s.hs.wr = 1 := by kernel_rfl
  rw [e]; exact blt_iff.1 (by kernel_rfl)
theorem rPt_e0 (p g s m n : Int) (h3 : 0 ≤ n ∧ n ≤ 1000) (h4 : ckM p g s m = 0) (h5 : 0 ≤ p ∧ p ≤ 63000 ∧ 0 ≤ g ∧ g ≤ 63000) : beginS Try.prog [(.slot 7, 3)] 1 41 (sameB 1 1) [31, 39, 35, 27, 33, 25, 37, 29, 32, 24, 40, 36, 28, 34, 26, 38, 30] 2 1 1 (rPt_hd p g s m n).s = some (rPt_S p g s m n [] ((0 : Int)) (p) (s)) := by
  have h : beginS Try.prog [(.slot 7, 3)] 1 41 (sameB 1 1) [31, 39, 35, 27, 33, 25, 37, 29, 32, 24, 40, 36, 28, 34, 26, 38, 30] 2 1 1 (rPt_hd p g s m n).s = some (rPt_R p g s m n #[] 0 ((0 : Int)) (p) (s)) := by kernel_rfl
  refine h.trans (congrArg some ?_)
  show rPt_R p g s m n #[] 0 ((0 : Int)) (p) (s) = rPt_R p g s m n (rowA gI ([] : List Int).reverse) ([] : List Int).length ((0 : Int)) (p) (s)
  first | (simp only [List.reverse_nil, rowA_nil, List.length_nil, List.reverse_reverse, List.length_reverse]; done) | rfl | (simp only [List.reverse_nil, rowA_nil, List.length_nil, List.reverse_reverse, List.length_reverse]; rfl)
theorem rPt_e1 (p g s m n : Int) (h3 : 0 ≤ n ∧ n ≤ 1000) (h4 : ckM p g s m = 0) (h5 : 0 ≤ p ∧ p ≤ 63000 ∧ 0 ≤ g ∧ g ≤ 63000) : beginOk Try.prog [(.slot 7, 3)] 1 41 (sameB 1 1) 2 (rPt_hd p g s m n).s = true := by kernel_rfl
def rPt_X : Nat → VX
  | 0 => .exit 0
  | _ => .normal
noncomputable def rPt_E (kE : Nat) (p g s m n : Int) (y0 : List Int) (y1 : Int) (y2 : Int) (y3 : Int) : St := match kE with
  | 0 => (((bodySt (bodyR Try.prog ([] : Vars).length tabM 3000 (rPt_hd p g s m n) (rPt_S p g s m n y0 y1 y2 y3 ) [(0, .b 1), (4, .b 0)] 1 41 [(1, 1)] [31, 39, 35, 27, 33, 25, 37, 29, 32, 24, 40, 36, 28, 34, 26, 38, 30] 41 1 1)).rows [(1, rowA gI y0.reverse, 3)]).updF [(7, .complex .f64 1 y0.length), (8, .int .i64 y1)] [(0, 0, .int .i64 y2), (0, 2, .int .i64 y3)])
  | _ => (rPt_hd p g s m n).s
noncomputable def rPt_b1 (p g s m n : Int) (y0 : List Int) (y1 : Int) (y2 : Int) (y3 : Int) : Bool := decide ((if IntKind.i64.wrap (g - y2) > IntKind.i64.wrap (y2 - g) then IntKind.i64.wrap (g - y2) else IntKind.i64.wrap (y2 - g)) > (0 : Int))
theorem rPt_p0 (p g s m n : Int) (y0 : List Int) (y1 : Int) (y2 : Int) (y3 : Int) : bodyR Try.prog ([] : Vars).length tabM 3000 (rPt_hd p g s m n) (rPt_S p g s m n y0 y1 y2 y3 ) [(0, .b 1), (4, .b 1), (5, .b 1), (6, .b 1), (7, .yes), (8, .arr (rowA (gI) ((tkP y2 g y3 m :: y0).reverse)))] 1 41 [(4, 1)] [31, 39, 35, 27, 33, 25, 37, 29, 32, 24, 40, 36, 28, 34, 26, 38, 30] 2 1 1 = some (.normal, (rPt_S p g s m n (tkP y2 g y3 m :: y0) (IntKind.i64.wrap (y1 + (1 : Int))) (tkP y2 g y3 m) (tkS y2 g y3 m)), [((rowA (gI) (y0.reverse)).toList ++ ([Value.int IntKind.i64 (tkP y2 g y3 m)])).toArray = rowA (gI) ((tkP y2 g y3 m :: y0).reverse), ((rowA gI y0.reverse).size.beq (y0.length.mul Try.prog.types[(3 : Nat)].size)) = true, (decide ((y0.length + (1 : Nat)) * (8 : Nat) < (1000000000 : Nat))) = true, (decide (ckM y2 g y3 m = (0 : Int))) = true, (rPt_b1 p g s m n y0 y1 y2 y3 ) = true, (decide (y1 < n)) = true]) := by kernel_rfl
theorem rPt_p1 (p g s m n : Int) (y0 : List Int) (y1 : Int) (y2 : Int) (y3 : Int) : bodyR Try.prog ([] : Vars).length tabM 3000 (rPt_hd p g s m n) (rPt_S p g s m n y0 y1 y2 y3 ) [(0, .b 1), (4, .b 0)] 1 41 [(1, 1)] [31, 39, 35, 27, 33, 25, 37, 29, 32, 24, 40, 36, 28, 34, 26, 38, 30] 41 1 1 = some (.exit 0, rPt_E 0 p g s m n (y0) (y1) (y2) (y3), [(rPt_b1 p g s m n y0 y1 y2 y3 ) = false, (decide (y1 < n)) = true]) := by kernel_rfl
theorem rPt_q1 (p g s m n : Int) (y0 : List Int) (y1 : Int) (y2 : Int) (y3 : Int) : (rPt_E 0 p g s m n (y0) (y1) (y2) (y3)).hs.next = 41 := by kernel_rfl
theorem rPt_p2 (p g s m n : Int) (y0 : List Int) (y1 : Int) (y2 : Int) (y3 : Int) : bodyR Try.prog ([] : Vars).length tabM 3000 (rPt_hd p g s m n) (rPt_S p g s m n y0 y1 y2 y3 ) [(0, .b 0)] 1 41 [(1, 1)] [31, 39, 35, 27, 33, 25, 37, 29, 32, 24, 40, 36, 28, 34, 26, 38, 30] 41 1 1 = some (.exit 0, rPt_E 0 p g s m n (y0) (y1) (y2) (y3), [(decide (y1 < n)) = false]) := by kernel_rfl
theorem rPt_q2 (p g s m n : Int) (y0 : List Int) (y1 : Int) (y2 : Int) (y3 : Int) : (rPt_E 0 p g s m n (y0) (y1) (y2) (y3)).hs.next = 41 := by kernel_rfl
theorem rPt_d0 (p g s m n : Int) (h3 : 0 ≤ n ∧ n ≤ 1000) (h4 : ckM p g s m = 0) (h5 : 0 ≤ p ∧ p ≤ 63000 ∧ 0 ≤ g ∧ g ≤ 63000) (y0 : List Int) (y1 : Int) (y2 : Int) (y3 : Int) (hi : (decide (ckM y2 g y3 m = 0 ∧ 0 ≤ y1 ∧ y1 ≤ n ∧ 0 ≤ y2 ∧ y2 ≤ 63000 ∧ (y0.length : Int) ≤ y1)) = true) (hq0 : (decide (y1 < n)) = true) (hq1 : (rPt_b1 p g s m n y0 y1 y2 y3 ) = true) : (decide (ckM y2 g y3 m = (0 : Int))) = true := by
  rcases Bool.eq_false_or_eq_true (decide (ckM y2 g y3 m = (0 : Int))) with h | h
  · exact h
  · exfalso; (try simp only [rPt_b1] at *); (first | (simp_all only [Bool.and_eq_true, Bool.not_eq_true', Bool.false_eq_true, Bool.true_eq_false, reduceCtorEq]; done) | (simp only [sx, sy, eq_self, ne_eq, IntKind.wrap_i64, wrapU64, Int.reduceLT] at * <;> first | contradiction | omega) | omega | ((try simp only [sx, sy, eq_self, ne_eq, IntKind.wrap_i64, wrapU64, Int.reduceLT] at *) <;> omega) | (simp_all; done))
theorem rPt_d1 (p g s m n : Int) (h3 : 0 ≤ n ∧ n ≤ 1000) (h4 : ckM p g s m = 0) (h5 : 0 ≤ p ∧ p ≤ 63000 ∧ 0 ≤ g ∧ g ≤ 63000) (y0 : List Int) (y1 : Int) (y2 : Int) (y3 : Int) (hi : (decide (ckM y2 g y3 m = 0 ∧ 0 ≤ y1 ∧ y1 ≤ n ∧ 0 ≤ y2 ∧ y2 ≤ 63000 ∧ (y0.length : Int) ≤ y1)) = true) (hq0 : (decide (y1 < n)) = true) (hq1 : (rPt_b1 p g s m n y0 y1 y2 y3 ) = true) (hq2 : (decide (ckM y2 g y3 m = (0 : Int))) = true) : (decide ((y0.length + (1 : Nat)) * (8 : Nat) < (1000000000 : Nat))) = true := by
  rcases Bool.eq_false_or_eq_true (decide ((y0.length + (1 : Nat)) * (8 : Nat) < (1000000000 : Nat))) with h | h
  · exact h
  · exfalso; (try simp only [rPt_b1] at *); (first | (simp_all only [Bool.and_eq_true, Bool.not_eq_true', Bool.false_eq_true, Bool.true_eq_false, reduceCtorEq]; done) | (simp only [sx, sy, eq_self, ne_eq, IntKind.wrap_i64, wrapU64, Int.reduceLT] at * <;> first | contradiction | omega) | omega | ((try simp only [sx, sy, eq_self, ne_eq, IntKind.wrap_i64, wrapU64, Int.reduceLT] at *) <;> omega) | (simp_all; done))
noncomputable def rPt_f (p g s m n : Int) : Nat → List Int → Int → Int → Int → Option (Nat × (List Int × Int × Int × Int))
  | 0, _, _, _, _ => none
  | fu + 1, y0, y1, y2, y3 => (bif (decide (ckM y2 g y3 m = 0 ∧ 0 ≤ y1 ∧ y1 ≤ n ∧ 0 ≤ y2 ∧ y2 ≤ 63000 ∧ (y0.length : Int) ≤ y1)) then (bif (decide (y1 < n)) then (bif (decide ((if IntKind.i64.wrap (g - y2) > IntKind.i64.wrap (y2 - g) then IntKind.i64.wrap (g - y2) else IntKind.i64.wrap (y2 - g)) > (0 : Int))) then rPt_f p g s m n fu (tkP y2 g y3 m :: y0) (IntKind.i64.wrap (y1 + (1 : Int))) (tkP y2 g y3 m) (tkS y2 g y3 m) else some (0, ((y0), (y1), (y2), (y3)))) else some (0, ((y0), (y1), (y2), (y3)))) else none)
theorem rPt_fs (p g s m n : Int) (fu : Nat) (y0 : List Int) (y1 : Int) (y2 : Int) (y3 : Int) : rPt_f p g s m n (fu + 1) y0 y1 y2 y3 = (bif (decide (ckM y2 g y3 m = 0 ∧ 0 ≤ y1 ∧ y1 ≤ n ∧ 0 ≤ y2 ∧ y2 ≤ 63000 ∧ (y0.length : Int) ≤ y1)) then (bif (decide (y1 < n)) then (bif (decide ((if IntKind.i64.wrap (g - y2) > IntKind.i64.wrap (y2 - g) then IntKind.i64.wrap (g - y2) else IntKind.i64.wrap (y2 - g)) > (0 : Int))) then rPt_f p g s m n fu (tkP y2 g y3 m :: y0) (IntKind.i64.wrap (y1 + (1 : Int))) (tkP y2 g y3 m) (tkS y2 g y3 m) else some (0, ((y0), (y1), (y2), (y3)))) else some (0, ((y0), (y1), (y2), (y3)))) else none) := rfl
theorem rPt_f0 (p g s m n : Int) (y0 : List Int) (y1 : Int) (y2 : Int) (y3 : Int) : rPt_f p g s m n 0 y0 y1 y2 y3 = none := rfl
theorem rPt_loop (p g s m n : Int) (h3 : 0 ≤ n ∧ n ≤ 1000) (h4 : ckM p g s m = 0) (h5 : 0 ≤ p ∧ p ≤ 63000 ∧ 0 ≤ g ∧ g ≤ 63000) : ∀ (fu : Nat) (y0 : List Int) (y1 : Int) (y2 : Int) (y3 : Int) (kk : Nat) (zz : List Int × Int × Int × Int), rPt_f p g s m n fu y0 y1 y2 y3 = some (kk, zz) → VStep (rPt_hd p g s m n).s.hs (rPt_S p g s m n y0 y1 y2 y3 ).hs → RoundsC Try.prog [] 1 41 (rPt_hd p g s m n).s.hs (rPt_hd p g s m n).ro (rPt_hd p g s m n).a (rPt_S p g s m n y0 y1 y2 y3 ) (rPt_X kk) (rPt_E kk p g s m n zz.1 zz.2.1 zz.2.2.1 zz.2.2.2 ) ∧ ((rPt_E kk p g s m n zz.1 zz.2.1 zz.2.2.1 zz.2.2.2 )).hs.next = 41 := by
  intro fu
  induction fu with
  | zero =>
    intro y0 y1 y2 y3 kk zz hf hSz
    have hf := (rPt_f0 p g s m n y0 y1 y2 y3 ).symm.trans hf
    simp at hf
  | succ fu ih =>
    intro y0 y1 y2 y3 kk zz hf hSz
    have hf := (rPt_fs p g s m n fu y0 y1 y2 y3 ).symm.trans hf
    rcases bif_or hf with ⟨hi, hf⟩ | ⟨hi, hf⟩
    case inr => cases hf
    rcases bif_or hf with ⟨hq0, hf⟩ | ⟨hq0, hf⟩
    ·
      rcases bif_or hf with ⟨hq1, hf⟩ | ⟨hq1, hf⟩
      ·
        have hq2 := rPt_d0 p g s m n h3 h4 h5 y0 y1 y2 y3 hi hq0 hq1 
        have hq3 := rPt_d1 p g s m n h3 h4 h5 y0 y1 y2 y3 hi hq0 hq1 hq2 
        have hb1 := rPt_p0 p g s m n y0 y1 y2 y3 ; have hb2 := body_canonR hb1; have hb3 := hb2 ⟨(row_snoc (g := (gI)) rfl), (fact_size (g := (gI)) (k := 1) (fun _ => rfl) (by simp)), hq3, hq2, hq1, hq0, trivial⟩; obtain ⟨sz1, kz1, kz2, kz3⟩ := hb3; obtain ⟨gz1, gz2⟩ := ih (tkP y2 g y3 m :: y0) (IntKind.i64.wrap (y1 + (1 : Int))) (tkP y2 g y3 m) (tkS y2 g y3 m) kk zz hf (rounds_step mix (T := tabM) tabM_ok (rPt_n p g s m n h3 h4 h5 ) (rPt_r p g s m n h3 h4 h5 ) (rPt_w p g s m n h3 h4 h5 ) kz1 hSz kz2 kz3); exact ⟨rounds_next mix (T := tabM) tabM_ok (rPt_n p g s m n h3 h4 h5 ) (rPt_r p g s m n h3 h4 h5 ) (rPt_w p g s m n h3 h4 h5 ) kz1 hSz kz2 kz3 (fun _ => gz1), gz2⟩
      ·
        injection hf with hf; injection hf with e1 e2; subst e1; subst e2; have hb1 := rPt_p1 p g s m n y0 y1 y2 y3 ; have hb2 := body_canonR hb1; have hb3 := hb2 ⟨hq1, hq0, trivial⟩; obtain ⟨sz1, kz1, kz2, kz3⟩ := hb3; exact ⟨rounds_end mix (T := tabM) tabM_ok (rPt_n p g s m n h3 h4 h5 ) (rPt_r p g s m n h3 h4 h5 ) (rPt_w p g s m n h3 h4 h5 ) kz1 (fun h => by cases h) hSz kz2 kz3, rPt_q1 p g s m n y0 y1 y2 y3 ⟩
    ·
      injection hf with hf; injection hf with e1 e2; subst e1; subst e2; have hb1 := rPt_p2 p g s m n y0 y1 y2 y3 ; have hb2 := body_canonR hb1; have hb3 := hb2 ⟨hq0, trivial⟩; obtain ⟨sz1, kz1, kz2, kz3⟩ := hb3; exact ⟨rounds_end mix (T := tabM) tabM_ok (rPt_n p g s m n h3 h4 h5 ) (rPt_r p g s m n h3 h4 h5 ) (rPt_w p g s m n h3 h4 h5 ) kz1 (fun h => by cases h) hSz kz2 kz3, rPt_q2 p g s m n y0 y1 y2 y3 ⟩
theorem rPt_ok (p g s m n : Int) (h3 : 0 ≤ n ∧ n ≤ 1000) (h4 : ckM p g s m = 0) (h5 : 0 ≤ p ∧ p ≤ 63000 ∧ 0 ≤ g ∧ g ≤ 63000) (fu kk : Nat) (zz : List Int × Int × Int × Int) (hf : rPt_f p g s m n fu [] ((0 : Int)) (p) (s) = some (kk, zz)) : ∀ B : Bd, B.L = [] → LoopOk Try.prog B (rPt_hd p g s m n).ro (rPt_hd p g s m n).a (rPt_hd p g s m n).s (rPt_X kk) (rPt_E kk p g s m n zz.1 zz.2.1 zz.2.2.1 zz.2.2.2 ) := by
  obtain ⟨sb1, sb2, sb3, sb4⟩ := begin_open (rPt_e0 p g s m n h3 h4 h5 ) (rPt_e1 p g s m n h3 h4 h5 )
  have hSz := begin_step2 (rPt_n p g s m n h3 h4 h5 ) (rPt_r p g s m n h3 h4 h5 ) (rPt_w p g s m n h3 h4 h5 ) sb2 sb3 sb4
  obtain ⟨gz1, gz2⟩ := rPt_loop p g s m n h3 h4 h5 fu [] ((0 : Int)) (p) (s) kk zz hf hSz
  exact rounds_ok (rPt_n p g s m n h3 h4 h5 ) (Nat.le_of_ble_eq_true (by kernel_rfl)) gz2 (rounds_begin2 (rPt_n p g s m n h3 h4 h5 ) (rPt_r p g s m n h3 h4 h5 ) (rPt_w p g s m n h3 h4 h5 ) sb2 sb3 sb4 (fun _ => gz1))

noncomputable def rPtK_c0 (p g s m n : Int) (rPt_z0 : List Int) (rPt_z1 : Int) (rPt_z2 : Int) (rPt_z3 : Int)  : List Int := (rPt_z0.reverse)
theorem rPtK_p0 (p g s m n : Int) (rPt_z0 : List Int) (rPt_z1 : Int) (rPt_z2 : Int) (rPt_z3 : Int)  (h3 : 0 ≤ n ∧ n ≤ 1000) (h4 : ckM p g s m = 0) (h5 : 0 ≤ p ∧ p ≤ 63000 ∧ 0 ≤ g ∧ g ≤ 63000) (rPt_k1 : (ckM p g s m == (0 : Int)) = true) (rPt_k4 : (decide (n < (0 : Int))) = false) (rPt_k9 : (decide (n > (1000 : Int))) = false) (rPt_k10 : (ckM p g s m != (0 : Int)) = false) (rPt_l : ∀ B : Bd, B.L = [] → LoopOk Try.prog B (rPt_hd p g s m n).ro (rPt_hd p g s m n).a (rPt_hd p g s m n).s (rPt_X 0) (rPt_E 0 p g s m n rPt_z0 rPt_z1 rPt_z2 rPt_z3 )) : KnownR Try.prog [] 23 [.val (.agg #[.int .i64 p, .int .i64 g, .int .i64 s, .int .i64 m]), .val (.int .i64 n)] (.tuple #[(.complex .f64 0 ((rPt_z0.reverse)).length), (.int .i64 ((0 : Int)))]) [(rowA gI ((rPt_z0.reverse)), 3)] :=
  knownR_eq (v := Value.tuple { toList := [Value.complex FloatKind.f64 (nat_lit 0) rPt_z0.length, Value.int IntKind.i64 (0 : Int)] }) (bs := [(rowA gI rPt_z0.reverse, nat_lit 3)]) (open_resD mix (GOk.add tabM_ok rPt_l) (T := (GTab.add tabM 9 (rPt_hd p g s m n).ro (rPt_hd p g s m n).a (rPt_hd p g s m n).s (rPt_X 0) (rPt_E 0 p g s m n rPt_z0 rPt_z1 rPt_z2 rPt_z3 ) (by kernel_rfl))) (fuel := 3000) (es := [3]) (ans := [(1, .b 1), (4, .b 0), (9, .b 0), (10, .b 0), (11, .loop (rPt_X 0) (rPt_E 0 p g s m n rPt_z0 rPt_z1 rPt_z2 rPt_z3 )), ]) (log := [LoopRes Try.prog ([] : Vars).length (GTab.add tabM 9 (rPt_hd p g s m n).ro (rPt_hd p g s m n).a (rPt_hd p g s m n).s (rPt_X 0) (rPt_E 0 p g s m n rPt_z0 rPt_z1 rPt_z2 rPt_z3 ) (by kernel_rfl)) (rPt_hd p g s m n).ro (rPt_hd p g s m n).a (rPt_hd p g s m n).s (rPt_X 0) (rPt_E 0 p g s m n rPt_z0 rPt_z1 rPt_z2 rPt_z3 ), (ckM p g s m != (0 : Int)) = false, (decide (n > (1000 : Int))) = false, (decide (n < (0 : Int))) = false, (ckM p g s m == (0 : Int)) = true]) (by kernel_rfl) ⟨(loop_known2 add_eq), rPt_k10, rPt_k9, rPt_k4, rPt_k1, trivial⟩ (by kernel_rfl)) (by first | rfl | (simp; done) | (simp_all; done)) (by first | rfl | (simp [rowA_nil]; done) | (simp only [rowA_eq]; rfl) | (simp_all [rowA_nil]; done))
set_option maxHeartbeats 8000000 in
theorem rPtK (p g s m n : Int) (rPt_z0 : List Int) (rPt_z1 : Int) (rPt_z2 : Int) (rPt_z3 : Int)  (h3 : 0 ≤ n ∧ n ≤ 1000) (h4 : ckM p g s m = 0) (h5 : 0 ≤ p ∧ p ≤ 63000 ∧ 0 ≤ g ∧ g ≤ 63000) (rPt_k1 : (ckM p g s m == (0 : Int)) = true) (rPt_k4 : (decide (n < (0 : Int))) = false) (rPt_k9 : (decide (n > (1000 : Int))) = false) (rPt_k10 : (ckM p g s m != (0 : Int)) = false) (rPt_l : ∀ B : Bd, B.L = [] → LoopOk Try.prog B (rPt_hd p g s m n).ro (rPt_hd p g s m n).a (rPt_hd p g s m n).s (rPt_X 0) (rPt_E 0 p g s m n rPt_z0 rPt_z1 rPt_z2 rPt_z3 )) : KnownR Try.prog [] 23 [.val (.agg #[.int .i64 p, .int .i64 g, .int .i64 s, .int .i64 m]), .val (.int .i64 n)] (.tuple #[(.complex .f64 0 ((rPtK_c0 p g s m n rPt_z0 rPt_z1 rPt_z2 rPt_z3)).length), (.int .i64 ((0 : Int)))]) [(rowA gI ((rPtK_c0 p g s m n rPt_z0 rPt_z1 rPt_z2 rPt_z3)), 3)] := by
  have e0 : rPtK_c0 p g s m n rPt_z0 rPt_z1 rPt_z2 rPt_z3 = (rPt_z0.reverse) := rfl; rw [e0]; exact rPtK_p0 p g s m n rPt_z0 rPt_z1 rPt_z2 rPt_z3 h3 h4 h5 rPt_k1 rPt_k4 rPt_k9 rPt_k10 rPt_l

noncomputable def rPtE_c1 (p g s m n : Int) : Int := (bif (ckM p g s m == (0 : Int)) then ((2 : Int)) else (ckM p g s m))
theorem rPtE_p0 (p g s m n : Int) (h3 : ¬ (ckM p g s m = 0 ∧ 0 ≤ n ∧ n ≤ 1000)) (hq0 : (ckM p g s m == (0 : Int)) = true) (hq1 : (decide (n < (0 : Int))) = true) : KnownR Try.prog [] 23 [.val (.agg #[.int .i64 p, .int .i64 g, .int .i64 s, .int .i64 m]), .val (.int .i64 n)] (.tuple #[(.complex .f64 0 ((([] : List Int))).length), (.int .i64 ((2 : Int)))]) [(rowA gI ((([] : List Int))), 3)] :=
  knownR_eq (v := Value.tuple { toList := [Value.complex FloatKind.f64 (nat_lit 0) (nat_lit 0), Value.int IntKind.i64 (2 : Int)] }) (bs := [({ toList := [] }, nat_lit 3)]) (open_resD mix tabM_ok (T := tabM) (fuel := 3000) (es := [3]) (ans := [(1, .b 1), (4, .b 1)]) (log := [(decide (n < (0 : Int))) = true, (ckM p g s m == (0 : Int)) = true]) (by kernel_rfl) ⟨hq1, hq0, trivial⟩ (by kernel_rfl)) (by first | rfl | (simp; done) | (simp_all; done)) (by first | rfl | (simp [rowA_nil]; done) | (simp only [rowA_eq]; rfl) | (simp_all [rowA_nil]; done))
theorem rPtE_p1 (p g s m n : Int) (h3 : ¬ (ckM p g s m = 0 ∧ 0 ≤ n ∧ n ≤ 1000)) (hq0 : (ckM p g s m == (0 : Int)) = true) (hq1 : (decide (n < (0 : Int))) = false) (hq2 : (decide (n > (1000 : Int))) = true) : KnownR Try.prog [] 23 [.val (.agg #[.int .i64 p, .int .i64 g, .int .i64 s, .int .i64 m]), .val (.int .i64 n)] (.tuple #[(.complex .f64 0 ((([] : List Int))).length), (.int .i64 ((2 : Int)))]) [(rowA gI ((([] : List Int))), 3)] :=
  knownR_eq (v := Value.tuple { toList := [Value.complex FloatKind.f64 (nat_lit 0) (nat_lit 0), Value.int IntKind.i64 (2 : Int)] }) (bs := [({ toList := [] }, nat_lit 3)]) (open_resD mix tabM_ok (T := tabM) (fuel := 3000) (es := [3]) (ans := [(1, .b 1), (4, .b 0), (9, .b 1)]) (log := [(decide (n > (1000 : Int))) = true, (decide (n < (0 : Int))) = false, (ckM p g s m == (0 : Int)) = true]) (by kernel_rfl) ⟨hq2, hq1, hq0, trivial⟩ (by kernel_rfl)) (by first | rfl | (simp; done) | (simp_all; done)) (by first | rfl | (simp [rowA_nil]; done) | (simp only [rowA_eq]; rfl) | (simp_all [rowA_nil]; done))
theorem rPtE_p2 (p g s m n : Int) (h3 : ¬ (ckM p g s m = 0 ∧ 0 ≤ n ∧ n ≤ 1000)) (hq0 : (ckM p g s m == (0 : Int)) = false) (hq3 : (ckM p g s m != (0 : Int)) = true) : KnownR Try.prog [] 23 [.val (.agg #[.int .i64 p, .int .i64 g, .int .i64 s, .int .i64 m]), .val (.int .i64 n)] (.tuple #[(.complex .f64 0 ((([] : List Int))).length), (.int .i64 (ckM p g s m))]) [(rowA gI ((([] : List Int))), 3)] :=
  knownR_eq (v := Value.tuple { toList := [Value.complex FloatKind.f64 (nat_lit 0) (nat_lit 0), Value.int IntKind.i64 (ckM p g s m)] }) (bs := [({ toList := [] }, nat_lit 3)]) (open_resD mix tabM_ok (T := tabM) (fuel := 3000) (es := [3]) (ans := [(1, .b 0), (7, .b 1)]) (log := [(ckM p g s m != (0 : Int)) = true, (ckM p g s m == (0 : Int)) = false]) (by kernel_rfl) ⟨hq3, hq0, trivial⟩ (by kernel_rfl)) (by first | rfl | (simp; done) | (simp_all; done)) (by first | rfl | (simp [rowA_nil]; done) | (simp only [rowA_eq]; rfl) | (simp_all [rowA_nil]; done))
set_option maxHeartbeats 8000000 in
theorem rPtE (p g s m n : Int) (h3 : ¬ (ckM p g s m = 0 ∧ 0 ≤ n ∧ n ≤ 1000)) : KnownR Try.prog [] 23 [.val (.agg #[.int .i64 p, .int .i64 g, .int .i64 s, .int .i64 m]), .val (.int .i64 n)] (.tuple #[(.complex .f64 0 ((([] : List Int))).length), (.int .i64 (rPtE_c1 p g s m n))]) [(rowA gI ((([] : List Int))), 3)] := by
  rcases Bool.eq_false_or_eq_true (ckM p g s m == (0 : Int)) with hq0 | hq0
  ·
    rcases Bool.eq_false_or_eq_true (decide (n < (0 : Int))) with hq1 | hq1
    ·
      have e1 : rPtE_c1 p g s m n = ((2 : Int)) := ((bif_t hq0 _ _).trans rfl); rw [e1]; exact rPtE_p0 p g s m n h3 hq0 hq1
    ·
      have hq2 : (decide (n > (1000 : Int))) = true := by
        rcases Bool.eq_false_or_eq_true (decide (n > (1000 : Int))) with h | h
        · exact h
        · exfalso; (first | (simp_all only [Bool.and_eq_true, Bool.not_eq_true', Bool.false_eq_true, Bool.true_eq_false, reduceCtorEq]; done) | (simp only [sx, sy, eq_self, ne_eq, IntKind.wrap_i64, wrapU64, Int.reduceLT] at * <;> first | contradiction | omega) | omega | ((try simp only [sx, sy, eq_self, ne_eq, IntKind.wrap_i64, wrapU64, Int.reduceLT] at *) <;> omega) | (simp_all; done))
      have e1 : rPtE_c1 p g s m n = ((2 : Int)) := ((bif_t hq0 _ _).trans rfl); rw [e1]; exact rPtE_p1 p g s m n h3 hq0 hq1 hq2
  ·
    have hq3 : (ckM p g s m != (0 : Int)) = true := by
      rcases Bool.eq_false_or_eq_true (ckM p g s m != (0 : Int)) with h | h
      · exact h
      · exfalso; (first | (simp_all only [Bool.and_eq_true, Bool.not_eq_true', Bool.false_eq_true, Bool.true_eq_false, reduceCtorEq]; done) | (simp only [sx, sy, eq_self, ne_eq, IntKind.wrap_i64, wrapU64, Int.reduceLT] at * <;> first | contradiction | omega) | omega | ((try simp only [sx, sy, eq_self, ne_eq, IntKind.wrap_i64, wrapU64, Int.reduceLT] at *) <;> omega) | (simp_all; done))
    have e1 : rPtE_c1 p g s m n = (ckM p g s m) := ((bif_f hq0 _ _).trans rfl); rw [e1]; exact rPtE_p2 p g s m n h3 hq0 hq3

noncomputable def rHl_c0 (p g s m : Int) : Int := (bif (ckM p g s m != (0 : Int)) then ((0 : Int)) else (p))
noncomputable def rHl_c1 (p g s m : Int) : Int := (bif (ckM p g s m != (0 : Int)) then ((0 : Int)) else (p))
noncomputable def rHl_c3 (p g s m : Int) : Int := (bif (ckM p g s m != (0 : Int)) then ((0 : Int)) else (m))
noncomputable def rHl_c4 (p g s m : Int) : Int := (bif (ckM p g s m != (0 : Int)) then (ckM p g s m) else ((0 : Int)))
theorem rHl_p0 (p g s m : Int)  (hq0 : (ckM p g s m != (0 : Int)) = true) : Known Try.prog [] 26 [.agg #[.int .i64 p, .int .i64 g, .int .i64 s, .int .i64 m]] (.tuple #[(.agg #[(.int .i64 ((0 : Int))), (.int .i64 ((0 : Int))), (.int .i64 ((0 : Int))), (.int .i64 ((0 : Int)))]), (.int .i64 (ckM p g s m))]) :=
  open_res mix tabM_ok (T := tabM) (fuel := 3000) (ans := [(1, .b 1)]) (log := [(ckM p g s m != (0 : Int)) = true]) (by kernel_rfl) ⟨hq0, trivial⟩ (by kernel_rfl)
theorem rHl_p1 (p g s m : Int)  (hq0 : (ckM p g s m != (0 : Int)) = false) : Known Try.prog [] 26 [.agg #[.int .i64 p, .int .i64 g, .int .i64 s, .int .i64 m]] (.tuple #[(.agg #[(.int .i64 (p)), (.int .i64 (p)), (.int .i64 ((0 : Int))), (.int .i64 (m))]), (.int .i64 ((0 : Int)))]) :=
  open_res mix tabM_ok (T := tabM) (fuel := 3000) (ans := [(1, .b 0)]) (log := [(ckM p g s m != (0 : Int)) = false]) (by kernel_rfl) ⟨hq0, trivial⟩ (by kernel_rfl)
set_option maxHeartbeats 8000000 in
theorem rHl (p g s m : Int)  : Known Try.prog [] 26 [.agg #[.int .i64 p, .int .i64 g, .int .i64 s, .int .i64 m]] (.tuple #[(.agg #[(.int .i64 (rHl_c0 p g s m)), (.int .i64 (rHl_c1 p g s m)), (.int .i64 ((0 : Int))), (.int .i64 (rHl_c3 p g s m))]), (.int .i64 (rHl_c4 p g s m))]) := by
  rcases Bool.eq_false_or_eq_true (ckM p g s m != (0 : Int)) with hq0 | hq0
  ·
    have e0 : rHl_c0 p g s m = ((0 : Int)) := ((bif_t hq0 _ _).trans rfl); rw [e0]; have e1 : rHl_c1 p g s m = ((0 : Int)) := ((bif_t hq0 _ _).trans rfl); rw [e1]; have e3 : rHl_c3 p g s m = ((0 : Int)) := ((bif_t hq0 _ _).trans rfl); rw [e3]; have e4 : rHl_c4 p g s m = (ckM p g s m) := ((bif_t hq0 _ _).trans rfl); rw [e4]; exact rHl_p0 p g s m hq0
  ·
    have e0 : rHl_c0 p g s m = (p) := ((bif_f hq0 _ _).trans rfl); rw [e0]; have e1 : rHl_c1 p g s m = (p) := ((bif_f hq0 _ _).trans rfl); rw [e1]; have e3 : rHl_c3 p g s m = (m) := ((bif_f hq0 _ _).trans rfl); rw [e3]; have e4 : rHl_c4 p g s m = ((0 : Int)) := ((bif_f hq0 _ _).trans rfl); rw [e4]; exact rHl_p1 p g s m hq0
noncomputable def rHl_k : List Value → Option Value
  | [.agg ⟨[.int .i64 p, .int .i64 g, .int .i64 s, .int .i64 m]⟩] => some (.tuple #[(.agg #[(.int .i64 (rHl_c0 p g s m)), (.int .i64 (rHl_c1 p g s m)), (.int .i64 ((0 : Int))), (.int .i64 (rHl_c3 p g s m))]), (.int .i64 (rHl_c4 p g s m))])
  | _ => none
theorem rHl_ok : ∀ args v, rHl_k args = some v → Known Try.prog [] 26 args v := by
  intro args v h
  unfold rHl_k at h
  split at h
  · injection h with h; subst h; exact rHl _ _ _ _
  · cases h

end Go.Proofs.Ytaohbffjfedcgaa
