/- Layer 9: the other functions. -/
import Derived.Test.YtaohbffjfedcgaaMb
import Derived.Test.YtaohbffjfedcgaaOgE0
import Derived.ProofKit
import Derived.IntWalk
namespace Go.Proofs.Ytaohbffjfedcgaa
open Go Go.RowKit
set_option linter.unusedVariables false
set_option linter.unusedSimpArgs false
set_option linter.unnecessarySimpa false
set_option maxHeartbeats 8000000
set_option maxRecDepth 100000
theorem qRtk (p g s m : Int) (hg : (decide (ckM p g s m = 0)) = true) : Known Try.prog [] 43 [.agg #[.int .i64 p, .int .i64 g, .int .i64 s, .int .i64 m]] (.agg #[.int .i64 (tkP p g s m), .int .i64 g, .int .i64 (tkS p g s m), .int .i64 m]) := rTick_is (of_decide_eq_true hg)
noncomputable def qRtk_k : List Value → Option (Bool × Value)
  | [.agg ⟨[.int .i64 p, .int .i64 g, .int .i64 s, .int .i64 m]⟩] => some (decide (ckM p g s m = 0), .agg #[.int .i64 (tkP p g s m), .int .i64 g, .int .i64 (tkS p g s m), .int .i64 m])
  | _ => none
theorem qRtk_ok : ∀ args v, qRtk_k args = some (true, v) → Known Try.prog [] 43 args v := by
  intro args v h
  unfold qRtk_k at h
  split at h
  · injection h with h; injection h with hg h; subst h; exact qRtk _ _ _ _ hg
  · cases h
noncomputable def tabM : GTab := (GTab.fn 43 qRtk_k tabB)
theorem tabM_ok : GOk Try.prog [] tabM := (GOk.fn qRtk_ok tabB_ok)
noncomputable def rRn_hd (p g s m n : Int) : Hd := headF Try.prog [] tabM 3000 16 [.agg #[.int .i64 p, .int .i64 g, .int .i64 s, .int .i64 m], .int .i64 n] [(1, .b 1), (4, .b 0), (9, .b 0), (10, .b 0), (11, .stop)]
noncomputable def rRn_S (p g s m n : Int) (y0 : Int) (y1 : Int) (y2 : Int) : St := ((entryK 2 42 [31, 35, 27, 33, 25, 29, 32, 24, 28, 34, 26, 30] 3 3 (rRn_hd p g s m n).s).updF [(7, .int .i64 y0)] [(0, 0, .int .i64 y1), (0, 2, .int .i64 y2)])
theorem rRn_n (p g s m n : Int) (h3 : 0 ≤ n ∧ n ≤ 100000) (h4 : ckM p g s m = 0) (h5 : 0 ≤ p ∧ p ≤ 63000 ∧ 0 ≤ g ∧ g ≤ 63000) : 2 = (rRn_hd p g s m n).s.hs.next := by kernel_rfl
theorem rRn_r (p g s m n : Int) (h3 : 0 ≤ n ∧ n ≤ 100000) (h4 : ckM p g s m = 0) (h5 : 0 ≤ p ∧ p ≤ 63000 ∧ 0 ≤ g ∧ g ≤ 63000) : (rRn_hd p g s m n).s.hs.rd < bitOf 2 := by
  have e : (rRn_hd p g s m n).s.hs.rd = 1 := by kernel_rfl
  rw [e]; exact blt_iff.1 (by kernel_rfl)
theorem rRn_w (p g s m n : Int) (h3 : 0 ≤ n ∧ n ≤ 100000) (h4 : ckM p g s m = 0) (h5 : 0 ≤ p ∧ p ≤ 63000 ∧ 0 ≤ g ∧ g ≤ 63000) : (rRn_hd p g s m n).s.hs.wr < bitOf 2 := by
  have e : (rRn_hd p g s m n).s.hs.wr = 3 := by kernel_rfl
  rw [e]; exact blt_iff.1 (by kernel_rfl)
theorem rRn_e0 (p g s m n : Int) (h3 : 0 ≤ n ∧ n ≤ 100000) (h4 : ckM p g s m = 0) (h5 : 0 ≤ p ∧ p ≤ 63000 ∧ 0 ≤ g ∧ g ≤ 63000) : canonS 2 42 [] [31, 35, 27, 33, 25, 29, 32, 24, 28, 34, 26, 30] 2 3 3 (rRn_hd p g s m n).s = some (rRn_S p g s m n ((0 : Int)) (p) (s)) := by kernel_rfl
theorem rRn_e1 (p g s m n : Int) (h3 : 0 ≤ n ∧ n ≤ 100000) (h4 : ckM p g s m = 0) (h5 : 0 ≤ p ∧ p ≤ 63000 ∧ 0 ≤ g ∧ g ≤ 63000) : canonOk 2 42 [] 2 (rRn_hd p g s m n).s = true := canonOkF_eq.symm.trans (by kernel_rfl)
def rRn_X : Nat → VX
  | 0 => .exit 0
  | _ => .normal
noncomputable def rRn_E (kE : Nat) (p g s m n : Int) (y0 : Int) (y1 : Int) (y2 : Int) : St := match kE with
  | 0 => ((bodySt (bodyK Try.prog ([] : Vars).length tabM 3000 (rRn_hd p g s m n) (rRn_S p g s m n y0 y1 y2 ) [(0, .b 1), (4, .b 0)] 2 42 [31, 35, 27, 33, 25, 29, 32, 24, 28, 34, 26, 30] 42 3 3)).updF [(7, .int .i64 y0)] [(0, 0, .int .i64 y1), (0, 2, .int .i64 y2)])
  | _ => (rRn_hd p g s m n).s
noncomputable def rRn_b1 (p g s m n : Int) (y0 : Int) (y1 : Int) (y2 : Int) : Bool := decide ((if IntKind.i64.wrap (g - y1) > IntKind.i64.wrap (y1 - g) then IntKind.i64.wrap (g - y1) else IntKind.i64.wrap (y1 - g)) > (0 : Int))
theorem rRn_p0 (p g s m n : Int) (y0 : Int) (y1 : Int) (y2 : Int) : bodyK Try.prog ([] : Vars).length tabM 3000 (rRn_hd p g s m n) (rRn_S p g s m n y0 y1 y2 ) [(0, .b 1), (4, .b 1), (5, .b 1)] 2 42 [31, 35, 27, 33, 25, 29, 32, 24, 28, 34, 26, 30] 2 3 3 = some (.normal, (rRn_S p g s m n (IntKind.i64.wrap (y0 + (1 : Int))) (tkP y1 g y2 m) (tkS y1 g y2 m)), [(decide (ckM y1 g y2 m = (0 : Int))) = true, (rRn_b1 p g s m n y0 y1 y2 ) = true, (decide (y0 < n)) = true]) := by kernel_rfl
theorem rRn_p1 (p g s m n : Int) (y0 : Int) (y1 : Int) (y2 : Int) : bodyK Try.prog ([] : Vars).length tabM 3000 (rRn_hd p g s m n) (rRn_S p g s m n y0 y1 y2 ) [(0, .b 1), (4, .b 0)] 2 42 [31, 35, 27, 33, 25, 29, 32, 24, 28, 34, 26, 30] 42 3 3 = some (.exit 0, rRn_E 0 p g s m n (y0) (y1) (y2), [(rRn_b1 p g s m n y0 y1 y2 ) = false, (decide (y0 < n)) = true]) := by kernel_rfl
theorem rRn_q1 (p g s m n : Int) (y0 : Int) (y1 : Int) (y2 : Int) : (rRn_E 0 p g s m n (y0) (y1) (y2)).hs.next = 42 := by kernel_rfl
theorem rRn_p2 (p g s m n : Int) (y0 : Int) (y1 : Int) (y2 : Int) : bodyK Try.prog ([] : Vars).length tabM 3000 (rRn_hd p g s m n) (rRn_S p g s m n y0 y1 y2 ) [(0, .b 0)] 2 42 [31, 35, 27, 33, 25, 29, 32, 24, 28, 34, 26, 30] 42 3 3 = some (.exit 0, rRn_E 0 p g s m n (y0) (y1) (y2), [(decide (y0 < n)) = false]) := by kernel_rfl
theorem rRn_q2 (p g s m n : Int) (y0 : Int) (y1 : Int) (y2 : Int) : (rRn_E 0 p g s m n (y0) (y1) (y2)).hs.next = 42 := by kernel_rfl
theorem rRn_d0 (p g s m n : Int) (h3 : 0 ≤ n ∧ n ≤ 100000) (h4 : ckM p g s m = 0) (h5 : 0 ≤ p ∧ p ≤ 63000 ∧ 0 ≤ g ∧ g ≤ 63000) (y0 : Int) (y1 : Int) (y2 : Int) (hi : (decide (ckM y1 g y2 m = 0 ∧ 0 ≤ y0 ∧ y0 ≤ n ∧ 0 ≤ y1 ∧ y1 ≤ 63000)) = true) (hq0 : (decide (y0 < n)) = true) (hq1 : (rRn_b1 p g s m n y0 y1 y2 ) = true) : (decide (ckM y1 g y2 m = (0 : Int))) = true := by
  rcases Bool.eq_false_or_eq_true (decide (ckM y1 g y2 m = (0 : Int))) with h | h
  · exact h
  · exfalso; (try simp only [rRn_b1] at *); (first | (simp_all only [Bool.and_eq_true, Bool.not_eq_true', Bool.false_eq_true, Bool.true_eq_false, reduceCtorEq]; done) | (simp only [sx, sy, eq_self, ne_eq, IntKind.wrap_i64, wrapU64, Int.reduceLT] at * <;> first | contradiction | omega) | (simp_all; done))
noncomputable def rRn_f (p g s m n : Int) : Nat → Int → Int → Int → Option (Nat × (Int × Int × Int))
  | 0, _, _, _ => none
  | fu + 1, y0, y1, y2 => (bif (decide (ckM y1 g y2 m = 0 ∧ 0 ≤ y0 ∧ y0 ≤ n ∧ 0 ≤ y1 ∧ y1 ≤ 63000)) then (bif (decide (y0 < n)) then (bif (decide ((if IntKind.i64.wrap (g - y1) > IntKind.i64.wrap (y1 - g) then IntKind.i64.wrap (g - y1) else IntKind.i64.wrap (y1 - g)) > (0 : Int))) then rRn_f p g s m n fu (IntKind.i64.wrap (y0 + (1 : Int))) (tkP y1 g y2 m) (tkS y1 g y2 m) else some (0, ((y0), (y1), (y2)))) else some (0, ((y0), (y1), (y2)))) else none)
theorem rRn_fs (p g s m n : Int) (fu : Nat) (y0 : Int) (y1 : Int) (y2 : Int) : rRn_f p g s m n (fu + 1) y0 y1 y2 = (bif (decide (ckM y1 g y2 m = 0 ∧ 0 ≤ y0 ∧ y0 ≤ n ∧ 0 ≤ y1 ∧ y1 ≤ 63000)) then (bif (decide (y0 < n)) then (bif (decide ((if IntKind.i64.wrap (g - y1) > IntKind.i64.wrap (y1 - g) then IntKind.i64.wrap (g - y1) else IntKind.i64.wrap (y1 - g)) > (0 : Int))) then rRn_f p g s m n fu (IntKind.i64.wrap (y0 + (1 : Int))) (tkP y1 g y2 m) (tkS y1 g y2 m) else some (0, ((y0), (y1), (y2)))) else some (0, ((y0), (y1), (y2)))) else none) := rfl
theorem rRn_f0 (p g s m n : Int) (y0 : Int) (y1 : Int) (y2 : Int) : rRn_f p g s m n 0 y0 y1 y2 = none := rfl
theorem rRn_loop (p g s m n : Int) (h3 : 0 ≤ n ∧ n ≤ 100000) (h4 : ckM p g s m = 0) (h5 : 0 ≤ p ∧ p ≤ 63000 ∧ 0 ≤ g ∧ g ≤ 63000) : ∀ (fu : Nat) (y0 : Int) (y1 : Int) (y2 : Int) (kk : Nat) (zz : Int × Int × Int), rRn_f p g s m n fu y0 y1 y2 = some (kk, zz) → VStep (rRn_hd p g s m n).s.hs (rRn_S p g s m n y0 y1 y2 ).hs → RoundsC Try.prog [] 2 42 (rRn_hd p g s m n).s.hs (rRn_hd p g s m n).ro (rRn_hd p g s m n).a (rRn_S p g s m n y0 y1 y2 ) (rRn_X kk) (rRn_E kk p g s m n zz.1 zz.2.1 zz.2.2 ) ∧ ((rRn_E kk p g s m n zz.1 zz.2.1 zz.2.2 )).hs.next = 42 := by
  intro fu
  induction fu with
  | zero =>
    intro y0 y1 y2 kk zz hf hSz
    have hf := (rRn_f0 p g s m n y0 y1 y2 ).symm.trans hf
    simp at hf
  | succ fu ih =>
    intro y0 y1 y2 kk zz hf hSz
    have hf := (rRn_fs p g s m n fu y0 y1 y2 ).symm.trans hf
    rcases bif_or hf with ⟨hi, hf⟩ | ⟨hi, hf⟩
    case inr => cases hf
    rcases bif_or hf with ⟨hq0, hf⟩ | ⟨hq0, hf⟩
    ·
      rcases bif_or hf with ⟨hq1, hf⟩ | ⟨hq1, hf⟩
      ·
        have hq2 := rRn_d0 p g s m n h3  h4  h5  y0 y1 y2 hi hq0 hq1 
        have hb1 := rRn_p0 p g s m n y0 y1 y2 ; have hb2 := body_canon hb1; have hb3 := hb2 ⟨hq2, hq1, hq0, trivial⟩; obtain ⟨sz1, kz1, kz2, kz3⟩ := hb3; obtain ⟨gz1, gz2⟩ := ih (IntKind.i64.wrap (y0 + (1 : Int))) (tkP y1 g y2 m) (tkS y1 g y2 m) kk zz hf (rounds_step mix (T := tabM) tabM_ok (rRn_n p g s m n h3  h4  h5  ) (rRn_r p g s m n h3  h4  h5  ) (rRn_w p g s m n h3  h4  h5  ) kz1 hSz kz2 kz3); exact ⟨rounds_next mix (T := tabM) tabM_ok (rRn_n p g s m n h3  h4  h5  ) (rRn_r p g s m n h3  h4  h5  ) (rRn_w p g s m n h3  h4  h5  ) kz1 hSz kz2 kz3 (fun _ => gz1), gz2⟩
      ·
        injection hf with hf; injection hf with e1 e2; subst e1; subst e2; have hb1 := rRn_p1 p g s m n y0 y1 y2 ; have hb2 := body_canon hb1; have hb3 := hb2 ⟨hq1, hq0, trivial⟩; obtain ⟨sz1, kz1, kz2, kz3⟩ := hb3; exact ⟨rounds_end mix (T := tabM) tabM_ok (rRn_n p g s m n h3  h4  h5  ) (rRn_r p g s m n h3  h4  h5  ) (rRn_w p g s m n h3  h4  h5  ) kz1 (fun h => by cases h) hSz kz2 kz3, rRn_q1 p g s m n y0 y1 y2 ⟩
    ·
      injection hf with hf; injection hf with e1 e2; subst e1; subst e2; have hb1 := rRn_p2 p g s m n y0 y1 y2 ; have hb2 := body_canon hb1; have hb3 := hb2 ⟨hq0, trivial⟩; obtain ⟨sz1, kz1, kz2, kz3⟩ := hb3; exact ⟨rounds_end mix (T := tabM) tabM_ok (rRn_n p g s m n h3  h4  h5  ) (rRn_r p g s m n h3  h4  h5  ) (rRn_w p g s m n h3  h4  h5  ) kz1 (fun h => by cases h) hSz kz2 kz3, rRn_q2 p g s m n y0 y1 y2 ⟩
theorem rRn_ok (p g s m n : Int) (h3 : 0 ≤ n ∧ n ≤ 100000) (h4 : ckM p g s m = 0) (h5 : 0 ≤ p ∧ p ≤ 63000 ∧ 0 ≤ g ∧ g ≤ 63000) (fu kk : Nat) (zz : Int × Int × Int) (hf : rRn_f p g s m n fu ((0 : Int)) (p) (s) = some (kk, zz)) : ∀ B : Bd, B.L = [] → LoopOk Try.prog B (rRn_hd p g s m n).ro (rRn_hd p g s m n).a (rRn_hd p g s m n).s (rRn_X kk) (rRn_E kk p g s m n zz.1 zz.2.1 zz.2.2 ) := by
  have hSz := begin_step (rRn_n p g s m n h3  h4  h5  ) (rRn_r p g s m n h3  h4  h5  ) (rRn_w p g s m n h3  h4  h5  ) (rRn_e0 p g s m n h3  h4  h5  ) (rRn_e1 p g s m n h3  h4  h5  )
  obtain ⟨gz1, gz2⟩ := rRn_loop p g s m n h3  h4  h5  fu ((0 : Int)) (p) (s) kk zz hf hSz
  exact rounds_ok (rRn_n p g s m n h3  h4  h5  ) (Nat.le_of_ble_eq_true (by kernel_rfl)) gz2 (rounds_begin (rRn_n p g s m n h3  h4  h5  ) (rRn_r p g s m n h3  h4  h5  ) (rRn_w p g s m n h3  h4  h5  ) (rRn_e0 p g s m n h3  h4  h5  ) (rRn_e1 p g s m n h3  h4  h5  ) (fun _ => gz1))

noncomputable def rLf_hd (p g s m : Int) : Hd := headF Try.prog [] tabM 3000 18 [.agg #[.int .i64 p, .int .i64 g, .int .i64 s, .int .i64 m]] [(1, .b 0), (2, .stop)]
noncomputable def rLf_S (p g s m : Int) (y0 : Int) (y1 : Int) (y2 : Int) : St := ((entryK 1 41 [15, 11, 17, 13, 16, 12, 14] 1 1 (rLf_hd p g s m).s).updF [(5, .int .i64 y0)] [(0, 0, .int .i64 y1), (0, 2, .int .i64 y2)])
theorem rLf_n (p g s m : Int) (h4 : ckM p g s m = 0) (h5 : 0 ≤ p ∧ p ≤ 63000 ∧ 0 ≤ g ∧ g ≤ 63000) : 1 = (rLf_hd p g s m).s.hs.next := by kernel_rfl
theorem rLf_r (p g s m : Int) (h4 : ckM p g s m = 0) (h5 : 0 ≤ p ∧ p ≤ 63000 ∧ 0 ≤ g ∧ g ≤ 63000) : (rLf_hd p g s m).s.hs.rd < bitOf 1 := by
  have e : (rLf_hd p g s m).s.hs.rd = 1 := by kernel_rfl
  rw [e]; exact blt_iff.1 (by kernel_rfl)
theorem rLf_w (p g s m : Int) (h4 : ckM p g s m = 0) (h5 : 0 ≤ p ∧ p ≤ 63000 ∧ 0 ≤ g ∧ g ≤ 63000) : (rLf_hd p g s m).s.hs.wr < bitOf 1 := by
  have e : (rLf_hd p g s m).s.hs.wr = 1 := by kernel_rfl
  rw [e]; exact blt_iff.1 (by kernel_rfl)
theorem rLf_e0 (p g s m : Int) (h4 : ckM p g s m = 0) (h5 : 0 ≤ p ∧ p ≤ 63000 ∧ 0 ≤ g ∧ g ≤ 63000) : canonS 1 41 [] [15, 11, 17, 13, 16, 12, 14] 1 1 1 (rLf_hd p g s m).s = some (rLf_S p g s m ((0 : Int)) (p) (s)) := by kernel_rfl
theorem rLf_e1 (p g s m : Int) (h4 : ckM p g s m = 0) (h5 : 0 ≤ p ∧ p ≤ 63000 ∧ 0 ≤ g ∧ g ≤ 63000) : canonOk 1 41 [] 1 (rLf_hd p g s m).s = true := canonOkF_eq.symm.trans (by kernel_rfl)
def rLf_X : Nat → VX
  | 0 => .exit 0
  | _ => .normal
noncomputable def rLf_E (kE : Nat) (p g s m : Int) (y0 : Int) (y1 : Int) (y2 : Int) : St := match kE with
  | 0 => ((bodySt (bodyK Try.prog ([] : Vars).length tabM 3000 (rLf_hd p g s m) (rLf_S p g s m y0 y1 y2 ) [(0, .b 0)] 1 41 [15, 11, 17, 13, 16, 12, 14] 41 1 1)).updF [(5, .int .i64 y0)] [(0, 0, .int .i64 y1), (0, 2, .int .i64 y2)])
  | _ => (rLf_hd p g s m).s
noncomputable def rLf_b0 (p g s m : Int) (y0 : Int) (y1 : Int) (y2 : Int) : Bool := decide ((if IntKind.i64.wrap (g - y1) > IntKind.i64.wrap (y1 - g) then IntKind.i64.wrap (g - y1) else IntKind.i64.wrap (y1 - g)) > (0 : Int))
theorem rLf_p0 (p g s m : Int) (y0 : Int) (y1 : Int) (y2 : Int) : bodyK Try.prog ([] : Vars).length tabM 3000 (rLf_hd p g s m) (rLf_S p g s m y0 y1 y2 ) [(0, .b 1), (1, .b 1)] 1 41 [15, 11, 17, 13, 16, 12, 14] 1 1 1 = some (.normal, (rLf_S p g s m (IntKind.i64.wrap (y0 + (1 : Int))) (tkP y1 g y2 m) (tkS y1 g y2 m)), [(decide (ckM y1 g y2 m = (0 : Int))) = true, (rLf_b0 p g s m y0 y1 y2 ) = true]) := by kernel_rfl
theorem rLf_p1 (p g s m : Int) (y0 : Int) (y1 : Int) (y2 : Int) : bodyK Try.prog ([] : Vars).length tabM 3000 (rLf_hd p g s m) (rLf_S p g s m y0 y1 y2 ) [(0, .b 0)] 1 41 [15, 11, 17, 13, 16, 12, 14] 41 1 1 = some (.exit 0, rLf_E 0 p g s m (y0) (y1) (y2), [(rLf_b0 p g s m y0 y1 y2 ) = false]) := by kernel_rfl
theorem rLf_q1 (p g s m : Int) (y0 : Int) (y1 : Int) (y2 : Int) : (rLf_E 0 p g s m (y0) (y1) (y2)).hs.next = 41 := by kernel_rfl
theorem rLf_d0 (p g s m : Int) (h4 : ckM p g s m = 0) (h5 : 0 ≤ p ∧ p ≤ 63000 ∧ 0 ≤ g ∧ g ≤ 63000) (y0 : Int) (y1 : Int) (y2 : Int) (hi : (decide (ckM y1 g y2 m = 0 ∧ 0 ≤ y0 ∧ y0 ≤ 70000 ∧ 0 ≤ y1 ∧ y1 ≤ 63000)) = true) (hq0 : (rLf_b0 p g s m y0 y1 y2 ) = true) : (decide (ckM y1 g y2 m = (0 : Int))) = true := by
  rcases Bool.eq_false_or_eq_true (decide (ckM y1 g y2 m = (0 : Int))) with h | h
  · exact h
  · exfalso; (try simp only [rLf_b0] at *); (first | (simp_all only [Bool.and_eq_true, Bool.not_eq_true', Bool.false_eq_true, Bool.true_eq_false, reduceCtorEq]; done) | (simp only [sx, sy, eq_self, ne_eq, IntKind.wrap_i64, wrapU64, Int.reduceLT] at * <;> first | contradiction | omega) | (simp_all; done))
noncomputable def rLf_f (p g s m : Int) : Nat → Int → Int → Int → Option (Nat × (Int × Int × Int))
  | 0, _, _, _ => none
  | fu + 1, y0, y1, y2 => (bif (decide (ckM y1 g y2 m = 0 ∧ 0 ≤ y0 ∧ y0 ≤ 70000 ∧ 0 ≤ y1 ∧ y1 ≤ 63000)) then (bif (decide ((if IntKind.i64.wrap (g - y1) > IntKind.i64.wrap (y1 - g) then IntKind.i64.wrap (g - y1) else IntKind.i64.wrap (y1 - g)) > (0 : Int))) then rLf_f p g s m fu (IntKind.i64.wrap (y0 + (1 : Int))) (tkP y1 g y2 m) (tkS y1 g y2 m) else some (0, ((y0), (y1), (y2)))) else none)
theorem rLf_fs (p g s m : Int) (fu : Nat) (y0 : Int) (y1 : Int) (y2 : Int) : rLf_f p g s m (fu + 1) y0 y1 y2 = (bif (decide (ckM y1 g y2 m = 0 ∧ 0 ≤ y0 ∧ y0 ≤ 70000 ∧ 0 ≤ y1 ∧ y1 ≤ 63000)) then (bif (decide ((if IntKind.i64.wrap (g - y1) > IntKind.i64.wrap (y1 - g) then IntKind.i64.wrap (g - y1) else IntKind.i64.wrap (y1 - g)) > (0 : Int))) then rLf_f p g s m fu (IntKind.i64.wrap (y0 + (1 : Int))) (tkP y1 g y2 m) (tkS y1 g y2 m) else some (0, ((y0), (y1), (y2)))) else none) := rfl
theorem rLf_f0 (p g s m : Int) (y0 : Int) (y1 : Int) (y2 : Int) : rLf_f p g s m 0 y0 y1 y2 = none := rfl
theorem rLf_loop (p g s m : Int) (h4 : ckM p g s m = 0) (h5 : 0 ≤ p ∧ p ≤ 63000 ∧ 0 ≤ g ∧ g ≤ 63000) : ∀ (fu : Nat) (y0 : Int) (y1 : Int) (y2 : Int) (kk : Nat) (zz : Int × Int × Int), rLf_f p g s m fu y0 y1 y2 = some (kk, zz) → VStep (rLf_hd p g s m).s.hs (rLf_S p g s m y0 y1 y2 ).hs → RoundsC Try.prog [] 1 41 (rLf_hd p g s m).s.hs (rLf_hd p g s m).ro (rLf_hd p g s m).a (rLf_S p g s m y0 y1 y2 ) (rLf_X kk) (rLf_E kk p g s m zz.1 zz.2.1 zz.2.2 ) ∧ ((rLf_E kk p g s m zz.1 zz.2.1 zz.2.2 )).hs.next = 41 := by
  intro fu
  induction fu with
  | zero =>
    intro y0 y1 y2 kk zz hf hSz
    have hf := (rLf_f0 p g s m y0 y1 y2 ).symm.trans hf
    simp at hf
  | succ fu ih =>
    intro y0 y1 y2 kk zz hf hSz
    have hf := (rLf_fs p g s m fu y0 y1 y2 ).symm.trans hf
    rcases bif_or hf with ⟨hi, hf⟩ | ⟨hi, hf⟩
    case inr => cases hf
    rcases bif_or hf with ⟨hq0, hf⟩ | ⟨hq0, hf⟩
    ·
      have hq1 := rLf_d0 p g s m h4  h5  y0 y1 y2 hi hq0 
      have hb1 := rLf_p0 p g s m y0 y1 y2 ; have hb2 := body_canon hb1; have hb3 := hb2 ⟨hq1, hq0, trivial⟩; obtain ⟨sz1, kz1, kz2, kz3⟩ := hb3; obtain ⟨gz1, gz2⟩ := ih (IntKind.i64.wrap (y0 + (1 : Int))) (tkP y1 g y2 m) (tkS y1 g y2 m) kk zz hf (rounds_step mix (T := tabM) tabM_ok (rLf_n p g s m h4  h5  ) (rLf_r p g s m h4  h5  ) (rLf_w p g s m h4  h5  ) kz1 hSz kz2 kz3); exact ⟨rounds_next mix (T := tabM) tabM_ok (rLf_n p g s m h4  h5  ) (rLf_r p g s m h4  h5  ) (rLf_w p g s m h4  h5  ) kz1 hSz kz2 kz3 (fun _ => gz1), gz2⟩
    ·
      injection hf with hf; injection hf with e1 e2; subst e1; subst e2; have hb1 := rLf_p1 p g s m y0 y1 y2 ; have hb2 := body_canon hb1; have hb3 := hb2 ⟨hq0, trivial⟩; obtain ⟨sz1, kz1, kz2, kz3⟩ := hb3; exact ⟨rounds_end mix (T := tabM) tabM_ok (rLf_n p g s m h4  h5  ) (rLf_r p g s m h4  h5  ) (rLf_w p g s m h4  h5  ) kz1 (fun h => by cases h) hSz kz2 kz3, rLf_q1 p g s m y0 y1 y2 ⟩
theorem rLf_ok (p g s m : Int) (h4 : ckM p g s m = 0) (h5 : 0 ≤ p ∧ p ≤ 63000 ∧ 0 ≤ g ∧ g ≤ 63000) (fu kk : Nat) (zz : Int × Int × Int) (hf : rLf_f p g s m fu ((0 : Int)) (p) (s) = some (kk, zz)) : ∀ B : Bd, B.L = [] → LoopOk Try.prog B (rLf_hd p g s m).ro (rLf_hd p g s m).a (rLf_hd p g s m).s (rLf_X kk) (rLf_E kk p g s m zz.1 zz.2.1 zz.2.2 ) := by
  have hSz := begin_step (rLf_n p g s m h4  h5  ) (rLf_r p g s m h4  h5  ) (rLf_w p g s m h4  h5  ) (rLf_e0 p g s m h4  h5  ) (rLf_e1 p g s m h4  h5  )
  obtain ⟨gz1, gz2⟩ := rLf_loop p g s m h4  h5  fu ((0 : Int)) (p) (s) kk zz hf hSz
  exact rounds_ok (rLf_n p g s m h4  h5  ) (Nat.le_of_ble_eq_true (by kernel_rfl)) gz2 (rounds_begin (rLf_n p g s m h4  h5  ) (rLf_r p g s m h4  h5  ) (rLf_w p g s m h4  h5  ) (rLf_e0 p g s m h4  h5  ) (rLf_e1 p g s m h4  h5  ) (fun _ => gz1))

noncomputable def rRnK_c0 (p g s m n : Int) (rRn_z0 : Int) (rRn_z1 : Int) (rRn_z2 : Int)  : Int := (rRn_z1)
noncomputable def rRnK_c1 (p g s m n : Int) (rRn_z0 : Int) (rRn_z1 : Int) (rRn_z2 : Int)  : Int := (g)
noncomputable def rRnK_c2 (p g s m n : Int) (rRn_z0 : Int) (rRn_z1 : Int) (rRn_z2 : Int)  : Int := (rRn_z2)
noncomputable def rRnK_c3 (p g s m n : Int) (rRn_z0 : Int) (rRn_z1 : Int) (rRn_z2 : Int)  : Int := (m)
theorem rRnK_p0 (p g s m n : Int) (rRn_z0 : Int) (rRn_z1 : Int) (rRn_z2 : Int)  (h3 : 0 ≤ n ∧ n ≤ 100000) (h4 : ckM p g s m = 0) (h5 : 0 ≤ p ∧ p ≤ 63000 ∧ 0 ≤ g ∧ g ≤ 63000) (rRn_k1 : (ckM p g s m == (0 : Int)) = true) (rRn_k4 : (decide (n < (0 : Int))) = false) (rRn_k9 : (decide (n > (100000 : Int))) = false) (rRn_k10 : (ckM p g s m != (0 : Int)) = false) (rRn_l : ∀ B : Bd, B.L = [] → LoopOk Try.prog B (rRn_hd p g s m n).ro (rRn_hd p g s m n).a (rRn_hd p g s m n).s (rRn_X 0) (rRn_E 0 p g s m n rRn_z0 rRn_z1 rRn_z2 )) : Known Try.prog [] 16 [.agg #[.int .i64 p, .int .i64 g, .int .i64 s, .int .i64 m], .int .i64 n] (.tuple #[(.agg #[(.int .i64 (rRn_z1)), (.int .i64 (g)), (.int .i64 (rRn_z2)), (.int .i64 (m))]), (.int .i64 ((0 : Int)))]) :=
  open_res mix (GOk.add tabM_ok rRn_l) (T := (GTab.add tabM 8 (rRn_hd p g s m n).ro (rRn_hd p g s m n).a (rRn_hd p g s m n).s (rRn_X 0) (rRn_E 0 p g s m n rRn_z0 rRn_z1 rRn_z2 ) (by kernel_rfl))) (fuel := 3000) (ans := [(1, .b 1), (4, .b 0), (9, .b 0), (10, .b 0), (11, .loop (rRn_X 0) (rRn_E 0 p g s m n rRn_z0 rRn_z1 rRn_z2 )), ]) (log := [LoopRes Try.prog ([] : Vars).length (GTab.add tabM 8 (rRn_hd p g s m n).ro (rRn_hd p g s m n).a (rRn_hd p g s m n).s (rRn_X 0) (rRn_E 0 p g s m n rRn_z0 rRn_z1 rRn_z2 ) (by kernel_rfl)) (rRn_hd p g s m n).ro (rRn_hd p g s m n).a (rRn_hd p g s m n).s (rRn_X 0) (rRn_E 0 p g s m n rRn_z0 rRn_z1 rRn_z2 ), (ckM p g s m != (0 : Int)) = false, (decide (n > (100000 : Int))) = false, (decide (n < (0 : Int))) = false, (ckM p g s m == (0 : Int)) = true]) (by kernel_rfl) ⟨(loop_known2 add_eq), rRn_k10, rRn_k9, rRn_k4, rRn_k1, trivial⟩ (by kernel_rfl)
set_option maxHeartbeats 8000000 in
theorem rRnK (p g s m n : Int) (rRn_z0 : Int) (rRn_z1 : Int) (rRn_z2 : Int)  (h3 : 0 ≤ n ∧ n ≤ 100000) (h4 : ckM p g s m = 0) (h5 : 0 ≤ p ∧ p ≤ 63000 ∧ 0 ≤ g ∧ g ≤ 63000) (rRn_k1 : (ckM p g s m == (0 : Int)) = true) (rRn_k4 : (decide (n < (0 : Int))) = false) (rRn_k9 : (decide (n > (100000 : Int))) = false) (rRn_k10 : (ckM p g s m != (0 : Int)) = false) (rRn_l : ∀ B : Bd, B.L = [] → LoopOk Try.prog B (rRn_hd p g s m n).ro (rRn_hd p g s m n).a (rRn_hd p g s m n).s (rRn_X 0) (rRn_E 0 p g s m n rRn_z0 rRn_z1 rRn_z2 )) : Known Try.prog [] 16 [.agg #[.int .i64 p, .int .i64 g, .int .i64 s, .int .i64 m], .int .i64 n] (.tuple #[(.agg #[(.int .i64 (rRnK_c0 p g s m n rRn_z0 rRn_z1 rRn_z2)), (.int .i64 (rRnK_c1 p g s m n rRn_z0 rRn_z1 rRn_z2)), (.int .i64 (rRnK_c2 p g s m n rRn_z0 rRn_z1 rRn_z2)), (.int .i64 (rRnK_c3 p g s m n rRn_z0 rRn_z1 rRn_z2))]), (.int .i64 ((0 : Int)))]) := by
  have e0 : rRnK_c0 p g s m n rRn_z0 rRn_z1 rRn_z2 = (rRn_z1) := rfl; rw [e0]; have e1 : rRnK_c1 p g s m n rRn_z0 rRn_z1 rRn_z2 = (g) := rfl; rw [e1]; have e2 : rRnK_c2 p g s m n rRn_z0 rRn_z1 rRn_z2 = (rRn_z2) := rfl; rw [e2]; have e3 : rRnK_c3 p g s m n rRn_z0 rRn_z1 rRn_z2 = (m) := rfl; rw [e3]; exact rRnK_p0 p g s m n rRn_z0 rRn_z1 rRn_z2 h3 h4 h5 rRn_k1 rRn_k4 rRn_k9 rRn_k10 rRn_l

noncomputable def rRnL_c0 (p g s m n : Int) (rRn_z0 : Int) (rRn_z1 : Int) (rRn_z2 : Int)  : Int := (p)
noncomputable def rRnL_c1 (p g s m n : Int) (rRn_z0 : Int) (rRn_z1 : Int) (rRn_z2 : Int)  : Int := (g)
noncomputable def rRnL_c2 (p g s m n : Int) (rRn_z0 : Int) (rRn_z1 : Int) (rRn_z2 : Int)  : Int := (s)
noncomputable def rRnL_c3 (p g s m n : Int) (rRn_z0 : Int) (rRn_z1 : Int) (rRn_z2 : Int)  : Int := (m)
theorem rRnL_p0 (p g s m n : Int) (rRn_z0 : Int) (rRn_z1 : Int) (rRn_z2 : Int)  (h3 : 0 ≤ n ∧ n ≤ 100000) (h4 : ckM p g s m = 0) (h5 : 0 ≤ p ∧ p ≤ 63000 ∧ 0 ≤ g ∧ g ≤ 63000) (rRn_k1 : (ckM p g s m == (0 : Int)) = true) (rRn_k4 : (decide (n < (0 : Int))) = false) (rRn_k9 : (decide (n > (100000 : Int))) = false) (rRn_k10 : (ckM p g s m != (0 : Int)) = false) (rRn_l : ∀ B : Bd, B.L = [] → LoopOk Try.prog B (rRn_hd p g s m n).ro (rRn_hd p g s m n).a (rRn_hd p g s m n).s (rRn_X 1) (rRn_E 1 p g s m n rRn_z0 rRn_z1 rRn_z2 )) : Known Try.prog [] 16 [.agg #[.int .i64 p, .int .i64 g, .int .i64 s, .int .i64 m], .int .i64 n] (.tuple #[(.agg #[(.int .i64 (p)), (.int .i64 (g)), (.int .i64 (s)), (.int .i64 (m))]), (.int .i64 ((0 : Int)))]) :=
  open_res mix (GOk.add tabM_ok rRn_l) (T := (GTab.add tabM 8 (rRn_hd p g s m n).ro (rRn_hd p g s m n).a (rRn_hd p g s m n).s (rRn_X 1) (rRn_E 1 p g s m n rRn_z0 rRn_z1 rRn_z2 ) (by kernel_rfl))) (fuel := 3000) (ans := [(1, .b 1), (4, .b 0), (9, .b 0), (10, .b 0), (11, .loop (rRn_X 1) (rRn_E 1 p g s m n rRn_z0 rRn_z1 rRn_z2 )), ]) (log := [LoopRes Try.prog ([] : Vars).length (GTab.add tabM 8 (rRn_hd p g s m n).ro (rRn_hd p g s m n).a (rRn_hd p g s m n).s (rRn_X 1) (rRn_E 1 p g s m n rRn_z0 rRn_z1 rRn_z2 ) (by kernel_rfl)) (rRn_hd p g s m n).ro (rRn_hd p g s m n).a (rRn_hd p g s m n).s (rRn_X 1) (rRn_E 1 p g s m n rRn_z0 rRn_z1 rRn_z2 ), (ckM p g s m != (0 : Int)) = false, (decide (n > (100000 : Int))) = false, (decide (n < (0 : Int))) = false, (ckM p g s m == (0 : Int)) = true]) (by kernel_rfl) ⟨(loop_known2 add_eq), rRn_k10, rRn_k9, rRn_k4, rRn_k1, trivial⟩ (by kernel_rfl)
set_option maxHeartbeats 8000000 in
theorem rRnL (p g s m n : Int) (rRn_z0 : Int) (rRn_z1 : Int) (rRn_z2 : Int)  (h3 : 0 ≤ n ∧ n ≤ 100000) (h4 : ckM p g s m = 0) (h5 : 0 ≤ p ∧ p ≤ 63000 ∧ 0 ≤ g ∧ g ≤ 63000) (rRn_k1 : (ckM p g s m == (0 : Int)) = true) (rRn_k4 : (decide (n < (0 : Int))) = false) (rRn_k9 : (decide (n > (100000 : Int))) = false) (rRn_k10 : (ckM p g s m != (0 : Int)) = false) (rRn_l : ∀ B : Bd, B.L = [] → LoopOk Try.prog B (rRn_hd p g s m n).ro (rRn_hd p g s m n).a (rRn_hd p g s m n).s (rRn_X 1) (rRn_E 1 p g s m n rRn_z0 rRn_z1 rRn_z2 )) : Known Try.prog [] 16 [.agg #[.int .i64 p, .int .i64 g, .int .i64 s, .int .i64 m], .int .i64 n] (.tuple #[(.agg #[(.int .i64 (rRnL_c0 p g s m n rRn_z0 rRn_z1 rRn_z2)), (.int .i64 (rRnL_c1 p g s m n rRn_z0 rRn_z1 rRn_z2)), (.int .i64 (rRnL_c2 p g s m n rRn_z0 rRn_z1 rRn_z2)), (.int .i64 (rRnL_c3 p g s m n rRn_z0 rRn_z1 rRn_z2))]), (.int .i64 ((0 : Int)))]) := by
  have e0 : rRnL_c0 p g s m n rRn_z0 rRn_z1 rRn_z2 = (p) := rfl; rw [e0]; have e1 : rRnL_c1 p g s m n rRn_z0 rRn_z1 rRn_z2 = (g) := rfl; rw [e1]; have e2 : rRnL_c2 p g s m n rRn_z0 rRn_z1 rRn_z2 = (s) := rfl; rw [e2]; have e3 : rRnL_c3 p g s m n rRn_z0 rRn_z1 rRn_z2 = (m) := rfl; rw [e3]; exact rRnL_p0 p g s m n rRn_z0 rRn_z1 rRn_z2 h3 h4 h5 rRn_k1 rRn_k4 rRn_k9 rRn_k10 rRn_l

noncomputable def rRnE_c4 (p g s m n : Int) : Int := (bif (ckM p g s m == (0 : Int)) then ((2 : Int)) else (ckM p g s m))
theorem rRnE_p0 (p g s m n : Int) (h3 : ¬ (ckM p g s m = 0 ∧ 0 ≤ n ∧ n ≤ 100000)) (hq0 : (ckM p g s m == (0 : Int)) = true) (hq1 : (decide (n < (0 : Int))) = true) : Known Try.prog [] 16 [.agg #[.int .i64 p, .int .i64 g, .int .i64 s, .int .i64 m], .int .i64 n] (.tuple #[(.agg #[(.int .i64 ((0 : Int))), (.int .i64 ((0 : Int))), (.int .i64 ((0 : Int))), (.int .i64 ((0 : Int)))]), (.int .i64 ((2 : Int)))]) :=
  open_res mix tabM_ok (T := tabM) (fuel := 3000) (ans := [(1, .b 1), (4, .b 1)]) (log := [(decide (n < (0 : Int))) = true, (ckM p g s m == (0 : Int)) = true]) (by kernel_rfl) ⟨hq1, hq0, trivial⟩ (by kernel_rfl)
theorem rRnE_p1 (p g s m n : Int) (h3 : ¬ (ckM p g s m = 0 ∧ 0 ≤ n ∧ n ≤ 100000)) (hq0 : (ckM p g s m == (0 : Int)) = true) (hq1 : (decide (n < (0 : Int))) = false) (hq2 : (decide (n > (100000 : Int))) = true) : Known Try.prog [] 16 [.agg #[.int .i64 p, .int .i64 g, .int .i64 s, .int .i64 m], .int .i64 n] (.tuple #[(.agg #[(.int .i64 ((0 : Int))), (.int .i64 ((0 : Int))), (.int .i64 ((0 : Int))), (.int .i64 ((0 : Int)))]), (.int .i64 ((2 : Int)))]) :=
  open_res mix tabM_ok (T := tabM) (fuel := 3000) (ans := [(1, .b 1), (4, .b 0), (9, .b 1)]) (log := [(decide (n > (100000 : Int))) = true, (decide (n < (0 : Int))) = false, (ckM p g s m == (0 : Int)) = true]) (by kernel_rfl) ⟨hq2, hq1, hq0, trivial⟩ (by kernel_rfl)
theorem rRnE_p2 (p g s m n : Int) (h3 : ¬ (ckM p g s m = 0 ∧ 0 ≤ n ∧ n ≤ 100000)) (hq0 : (ckM p g s m == (0 : Int)) = false) (hq3 : (ckM p g s m != (0 : Int)) = true) : Known Try.prog [] 16 [.agg #[.int .i64 p, .int .i64 g, .int .i64 s, .int .i64 m], .int .i64 n] (.tuple #[(.agg #[(.int .i64 ((0 : Int))), (.int .i64 ((0 : Int))), (.int .i64 ((0 : Int))), (.int .i64 ((0 : Int)))]), (.int .i64 (ckM p g s m))]) :=
  open_res mix tabM_ok (T := tabM) (fuel := 3000) (ans := [(1, .b 0), (7, .b 1)]) (log := [(ckM p g s m != (0 : Int)) = true, (ckM p g s m == (0 : Int)) = false]) (by kernel_rfl) ⟨hq3, hq0, trivial⟩ (by kernel_rfl)
set_option maxHeartbeats 8000000 in
theorem rRnE (p g s m n : Int) (h3 : ¬ (ckM p g s m = 0 ∧ 0 ≤ n ∧ n ≤ 100000)) : Known Try.prog [] 16 [.agg #[.int .i64 p, .int .i64 g, .int .i64 s, .int .i64 m], .int .i64 n] (.tuple #[(.agg #[(.int .i64 ((0 : Int))), (.int .i64 ((0 : Int))), (.int .i64 ((0 : Int))), (.int .i64 ((0 : Int)))]), (.int .i64 (rRnE_c4 p g s m n))]) := by
  rcases Bool.eq_false_or_eq_true (ckM p g s m == (0 : Int)) with hq0 | hq0
  ·
    rcases Bool.eq_false_or_eq_true (decide (n < (0 : Int))) with hq1 | hq1
    ·
      have e4 : rRnE_c4 p g s m n = ((2 : Int)) := ((bif_t hq0 _ _).trans rfl); rw [e4]; exact rRnE_p0 p g s m n h3 hq0 hq1
    ·
      have hq2 : (decide (n > (100000 : Int))) = true := by
        rcases Bool.eq_false_or_eq_true (decide (n > (100000 : Int))) with h | h
        · exact h
        · exfalso; (first | (simp_all only [Bool.and_eq_true, Bool.not_eq_true', Bool.false_eq_true, Bool.true_eq_false, reduceCtorEq]; done) | (simp only [sx, sy, eq_self, ne_eq, IntKind.wrap_i64, wrapU64, Int.reduceLT] at * <;> first | contradiction | omega) | (simp_all; done))
      have e4 : rRnE_c4 p g s m n = ((2 : Int)) := ((bif_t hq0 _ _).trans rfl); rw [e4]; exact rRnE_p1 p g s m n h3 hq0 hq1 hq2
  ·
    have hq3 : (ckM p g s m != (0 : Int)) = true := by
      rcases Bool.eq_false_or_eq_true (ckM p g s m != (0 : Int)) with h | h
      · exact h
      · exfalso; (first | (simp_all only [Bool.and_eq_true, Bool.not_eq_true', Bool.false_eq_true, Bool.true_eq_false, reduceCtorEq]; done) | (simp only [sx, sy, eq_self, ne_eq, IntKind.wrap_i64, wrapU64, Int.reduceLT] at * <;> first | contradiction | omega) | (simp_all; done))
    have e4 : rRnE_c4 p g s m n = (ckM p g s m) := ((bif_f hq0 _ _).trans rfl); rw [e4]; exact rRnE_p2 p g s m n h3 hq0 hq3

noncomputable def rLfK_c0 (p g s m : Int) (rLf_z0 : Int) (rLf_z1 : Int) (rLf_z2 : Int)  : Int := (rLf_z0)
theorem rLfK_p0 (p g s m : Int) (rLf_z0 : Int) (rLf_z1 : Int) (rLf_z2 : Int)  (h4 : ckM p g s m = 0) (h5 : 0 ≤ p ∧ p ≤ 63000 ∧ 0 ≤ g ∧ g ≤ 63000) (rLf_k1 : (ckM p g s m != (0 : Int)) = false) (rLf_l : ∀ B : Bd, B.L = [] → LoopOk Try.prog B (rLf_hd p g s m).ro (rLf_hd p g s m).a (rLf_hd p g s m).s (rLf_X 0) (rLf_E 0 p g s m rLf_z0 rLf_z1 rLf_z2 )) : Known Try.prog [] 18 [.agg #[.int .i64 p, .int .i64 g, .int .i64 s, .int .i64 m]] (.tuple #[(.int .i64 (rLf_z0)), (.int .i64 ((0 : Int)))]) :=
  open_res mix (GOk.add tabM_ok rLf_l) (T := (GTab.add tabM 6 (rLf_hd p g s m).ro (rLf_hd p g s m).a (rLf_hd p g s m).s (rLf_X 0) (rLf_E 0 p g s m rLf_z0 rLf_z1 rLf_z2 ) (by kernel_rfl))) (fuel := 3000) (ans := [(1, .b 0), (2, .loop (rLf_X 0) (rLf_E 0 p g s m rLf_z0 rLf_z1 rLf_z2 )), ]) (log := [LoopRes Try.prog ([] : Vars).length (GTab.add tabM 6 (rLf_hd p g s m).ro (rLf_hd p g s m).a (rLf_hd p g s m).s (rLf_X 0) (rLf_E 0 p g s m rLf_z0 rLf_z1 rLf_z2 ) (by kernel_rfl)) (rLf_hd p g s m).ro (rLf_hd p g s m).a (rLf_hd p g s m).s (rLf_X 0) (rLf_E 0 p g s m rLf_z0 rLf_z1 rLf_z2 ), (ckM p g s m != (0 : Int)) = false]) (by kernel_rfl) ⟨(loop_known2 add_eq), rLf_k1, trivial⟩ (by kernel_rfl)
set_option maxHeartbeats 8000000 in
theorem rLfK (p g s m : Int) (rLf_z0 : Int) (rLf_z1 : Int) (rLf_z2 : Int)  (h4 : ckM p g s m = 0) (h5 : 0 ≤ p ∧ p ≤ 63000 ∧ 0 ≤ g ∧ g ≤ 63000) (rLf_k1 : (ckM p g s m != (0 : Int)) = false) (rLf_l : ∀ B : Bd, B.L = [] → LoopOk Try.prog B (rLf_hd p g s m).ro (rLf_hd p g s m).a (rLf_hd p g s m).s (rLf_X 0) (rLf_E 0 p g s m rLf_z0 rLf_z1 rLf_z2 )) : Known Try.prog [] 18 [.agg #[.int .i64 p, .int .i64 g, .int .i64 s, .int .i64 m]] (.tuple #[(.int .i64 (rLfK_c0 p g s m rLf_z0 rLf_z1 rLf_z2)), (.int .i64 ((0 : Int)))]) := by
  have e0 : rLfK_c0 p g s m rLf_z0 rLf_z1 rLf_z2 = (rLf_z0) := rfl; rw [e0]; exact rLfK_p0 p g s m rLf_z0 rLf_z1 rLf_z2 h4 h5 rLf_k1 rLf_l

noncomputable def rLfE_c1 (p g s m : Int) : Int := (ckM p g s m)
theorem rLfE_p0 (p g s m : Int) (h4 : ¬ ckM p g s m = 0) (hq0 : (ckM p g s m != (0 : Int)) = true) : Known Try.prog [] 18 [.agg #[.int .i64 p, .int .i64 g, .int .i64 s, .int .i64 m]] (.tuple #[(.int .i64 ((0 : Int))), (.int .i64 (ckM p g s m))]) :=
  open_res mix tabM_ok (T := tabM) (fuel := 3000) (ans := [(1, .b 1)]) (log := [(ckM p g s m != (0 : Int)) = true]) (by kernel_rfl) ⟨hq0, trivial⟩ (by kernel_rfl)
set_option maxHeartbeats 8000000 in
theorem rLfE (p g s m : Int) (h4 : ¬ ckM p g s m = 0) : Known Try.prog [] 18 [.agg #[.int .i64 p, .int .i64 g, .int .i64 s, .int .i64 m]] (.tuple #[(.int .i64 ((0 : Int))), (.int .i64 (rLfE_c1 p g s m))]) := by
  have hq0 : (ckM p g s m != (0 : Int)) = true := by
    rcases Bool.eq_false_or_eq_true (ckM p g s m != (0 : Int)) with h | h
    · exact h
    · exfalso; (first | (simp_all only [Bool.and_eq_true, Bool.not_eq_true', Bool.false_eq_true, Bool.true_eq_false, reduceCtorEq]; done) | (simp only [sx, sy, eq_self, ne_eq, IntKind.wrap_i64, wrapU64, Int.reduceLT] at * <;> first | contradiction | omega) | (simp_all; done))
  have e1 : rLfE_c1 p g s m = (ckM p g s m) := rfl; rw [e1]; exact rLfE_p0 p g s m h4 hq0

noncomputable def rSt_c0 (p g m : Int) : Int := (bif (decide (p < (0 : Int))) then ((0 : Int)) else (bif (decide (p > (63000 : Int))) then ((0 : Int)) else (bif (decide (g < (0 : Int))) then ((0 : Int)) else (bif (decide (g > (63000 : Int))) then ((0 : Int)) else (bif (decide (m < (1 : Int))) then ((0 : Int)) else (bif (decide (m > (20 : Int))) then ((0 : Int)) else (p)))))))
noncomputable def rSt_c1 (p g m : Int) : Int := (bif (decide (p < (0 : Int))) then ((0 : Int)) else (bif (decide (p > (63000 : Int))) then ((0 : Int)) else (bif (decide (g < (0 : Int))) then ((0 : Int)) else (bif (decide (g > (63000 : Int))) then ((0 : Int)) else (bif (decide (m < (1 : Int))) then ((0 : Int)) else (bif (decide (m > (20 : Int))) then ((0 : Int)) else (g)))))))
noncomputable def rSt_c3 (p g m : Int) : Int := (bif (decide (p < (0 : Int))) then ((0 : Int)) else (bif (decide (p > (63000 : Int))) then ((0 : Int)) else (bif (decide (g < (0 : Int))) then ((0 : Int)) else (bif (decide (g > (63000 : Int))) then ((0 : Int)) else (bif (decide (m < (1 : Int))) then ((0 : Int)) else (bif (decide (m > (20 : Int))) then ((0 : Int)) else (m)))))))
noncomputable def rSt_c4 (p g m : Int) : Int := (bif (decide (p < (0 : Int))) then ((2 : Int)) else (bif (decide (p > (63000 : Int))) then ((2 : Int)) else (bif (decide (g < (0 : Int))) then ((2 : Int)) else (bif (decide (g > (63000 : Int))) then ((2 : Int)) else (bif (decide (m < (1 : Int))) then ((2 : Int)) else (bif (decide (m > (20 : Int))) then ((2 : Int)) else ((0 : Int))))))))
theorem rSt_p0 (p g m : Int)  (hq0 : (decide (p < (0 : Int))) = true) : Known Try.prog [] 10 [.int .i64 p, .int .i64 g, .int .i64 m] (.tuple #[(.agg #[(.int .i64 ((0 : Int))), (.int .i64 ((0 : Int))), (.int .i64 ((0 : Int))), (.int .i64 ((0 : Int)))]), (.int .i64 ((2 : Int)))]) :=
  open_res mix tabM_ok (T := tabM) (fuel := 3000) (ans := [(0, .b 1)]) (log := [(decide (p < (0 : Int))) = true]) (by kernel_rfl) ⟨hq0, trivial⟩ (by kernel_rfl)
theorem rSt_p1 (p g m : Int)  (hq0 : (decide (p < (0 : Int))) = false) (hq1 : (decide (p > (63000 : Int))) = true) : Known Try.prog [] 10 [.int .i64 p, .int .i64 g, .int .i64 m] (.tuple #[(.agg #[(.int .i64 ((0 : Int))), (.int .i64 ((0 : Int))), (.int .i64 ((0 : Int))), (.int .i64 ((0 : Int)))]), (.int .i64 ((2 : Int)))]) :=
  open_res mix tabM_ok (T := tabM) (fuel := 3000) (ans := [(0, .b 0), (3, .b 1)]) (log := [(decide (p > (63000 : Int))) = true, (decide (p < (0 : Int))) = false]) (by kernel_rfl) ⟨hq1, hq0, trivial⟩ (by kernel_rfl)
theorem rSt_p2 (p g m : Int)  (hq0 : (decide (p < (0 : Int))) = false) (hq1 : (decide (p > (63000 : Int))) = false) (hq2 : (decide (g < (0 : Int))) = true) : Known Try.prog [] 10 [.int .i64 p, .int .i64 g, .int .i64 m] (.tuple #[(.agg #[(.int .i64 ((0 : Int))), (.int .i64 ((0 : Int))), (.int .i64 ((0 : Int))), (.int .i64 ((0 : Int)))]), (.int .i64 ((2 : Int)))]) :=
  open_res mix tabM_ok (T := tabM) (fuel := 3000) (ans := [(0, .b 0), (3, .b 0), (6, .b 1)]) (log := [(decide (g < (0 : Int))) = true, (decide (p > (63000 : Int))) = false, (decide (p < (0 : Int))) = false]) (by kernel_rfl) ⟨hq2, hq1, hq0, trivial⟩ (by kernel_rfl)
theorem rSt_p3 (p g m : Int)  (hq0 : (decide (p < (0 : Int))) = false) (hq1 : (decide (p > (63000 : Int))) = false) (hq2 : (decide (g < (0 : Int))) = false) (hq3 : (decide (g > (63000 : Int))) = true) : Known Try.prog [] 10 [.int .i64 p, .int .i64 g, .int .i64 m] (.tuple #[(.agg #[(.int .i64 ((0 : Int))), (.int .i64 ((0 : Int))), (.int .i64 ((0 : Int))), (.int .i64 ((0 : Int)))]), (.int .i64 ((2 : Int)))]) :=
  open_res mix tabM_ok (T := tabM) (fuel := 3000) (ans := [(0, .b 0), (3, .b 0), (6, .b 0), (9, .b 1)]) (log := [(decide (g > (63000 : Int))) = true, (decide (g < (0 : Int))) = false, (decide (p > (63000 : Int))) = false, (decide (p < (0 : Int))) = false]) (by kernel_rfl) ⟨hq3, hq2, hq1, hq0, trivial⟩ (by kernel_rfl)
theorem rSt_p4 (p g m : Int)  (hq0 : (decide (p < (0 : Int))) = false) (hq1 : (decide (p > (63000 : Int))) = false) (hq2 : (decide (g < (0 : Int))) = false) (hq3 : (decide (g > (63000 : Int))) = false) (hq4 : (decide (m < (1 : Int))) = true) : Known Try.prog [] 10 [.int .i64 p, .int .i64 g, .int .i64 m] (.tuple #[(.agg #[(.int .i64 ((0 : Int))), (.int .i64 ((0 : Int))), (.int .i64 ((0 : Int))), (.int .i64 ((0 : Int)))]), (.int .i64 ((2 : Int)))]) :=
  open_res mix tabM_ok (T := tabM) (fuel := 3000) (ans := [(0, .b 0), (3, .b 0), (6, .b 0), (9, .b 0), (12, .b 1)]) (log := [(decide (m < (1 : Int))) = true, (decide (g > (63000 : Int))) = false, (decide (g < (0 : Int))) = false, (decide (p > (63000 : Int))) = false, (decide (p < (0 : Int))) = false]) (by kernel_rfl) ⟨hq4, hq3, hq2, hq1, hq0, trivial⟩ (by kernel_rfl)
theorem rSt_p5 (p g m : Int)  (hq0 : (decide (p < (0 : Int))) = false) (hq1 : (decide (p > (63000 : Int))) = false) (hq2 : (decide (g < (0 : Int))) = false) (hq3 : (decide (g > (63000 : Int))) = false) (hq4 : (decide (m < (1 : Int))) = false) (hq5 : (decide (m > (20 : Int))) = true) : Known Try.prog [] 10 [.int .i64 p, .int .i64 g, .int .i64 m] (.tuple #[(.agg #[(.int .i64 ((0 : Int))), (.int .i64 ((0 : Int))), (.int .i64 ((0 : Int))), (.int .i64 ((0 : Int)))]), (.int .i64 ((2 : Int)))]) :=
  open_res mix tabM_ok (T := tabM) (fuel := 3000) (ans := [(0, .b 0), (3, .b 0), (6, .b 0), (9, .b 0), (12, .b 0), (15, .b 1)]) (log := [(decide (m > (20 : Int))) = true, (decide (m < (1 : Int))) = false, (decide (g > (63000 : Int))) = false, (decide (g < (0 : Int))) = false, (decide (p > (63000 : Int))) = false, (decide (p < (0 : Int))) = false]) (by kernel_rfl) ⟨hq5, hq4, hq3, hq2, hq1, hq0, trivial⟩ (by kernel_rfl)
theorem rSt_p6 (p g m : Int)  (hq0 : (decide (p < (0 : Int))) = false) (hq1 : (decide (p > (63000 : Int))) = false) (hq2 : (decide (g < (0 : Int))) = false) (hq3 : (decide (g > (63000 : Int))) = false) (hq4 : (decide (m < (1 : Int))) = false) (hq5 : (decide (m > (20 : Int))) = false) : Known Try.prog [] 10 [.int .i64 p, .int .i64 g, .int .i64 m] (.tuple #[(.agg #[(.int .i64 (p)), (.int .i64 (g)), (.int .i64 ((0 : Int))), (.int .i64 (m))]), (.int .i64 ((0 : Int)))]) :=
  open_res mix tabM_ok (T := tabM) (fuel := 3000) (ans := [(0, .b 0), (3, .b 0), (6, .b 0), (9, .b 0), (12, .b 0), (15, .b 0)]) (log := [(decide (m > (20 : Int))) = false, (decide (m < (1 : Int))) = false, (decide (g > (63000 : Int))) = false, (decide (g < (0 : Int))) = false, (decide (p > (63000 : Int))) = false, (decide (p < (0 : Int))) = false]) (by kernel_rfl) ⟨hq5, hq4, hq3, hq2, hq1, hq0, trivial⟩ (by kernel_rfl)
set_option maxHeartbeats 8000000 in
theorem rSt (p g m : Int)  : Known Try.prog [] 10 [.int .i64 p, .int .i64 g, .int .i64 m] (.tuple #[(.agg #[(.int .i64 (rSt_c0 p g m)), (.int .i64 (rSt_c1 p g m)), (.int .i64 ((0 : Int))), (.int .i64 (rSt_c3 p g m))]), (.int .i64 (rSt_c4 p g m))]) := by
  rcases Bool.eq_false_or_eq_true (decide (p < (0 : Int))) with hq0 | hq0
  ·
    have e0 : rSt_c0 p g m = ((0 : Int)) := ((bif_t hq0 _ _).trans rfl); rw [e0]; have e1 : rSt_c1 p g m = ((0 : Int)) := ((bif_t hq0 _ _).trans rfl); rw [e1]; have e3 : rSt_c3 p g m = ((0 : Int)) := ((bif_t hq0 _ _).trans rfl); rw [e3]; have e4 : rSt_c4 p g m = ((2 : Int)) := ((bif_t hq0 _ _).trans rfl); rw [e4]; exact rSt_p0 p g m hq0
  ·
    rcases Bool.eq_false_or_eq_true (decide (p > (63000 : Int))) with hq1 | hq1
    ·
      have e0 : rSt_c0 p g m = ((0 : Int)) := ((bif_f hq0 _ _).trans ((bif_t hq1 _ _).trans rfl)); rw [e0]; have e1 : rSt_c1 p g m = ((0 : Int)) := ((bif_f hq0 _ _).trans ((bif_t hq1 _ _).trans rfl)); rw [e1]; have e3 : rSt_c3 p g m = ((0 : Int)) := ((bif_f hq0 _ _).trans ((bif_t hq1 _ _).trans rfl)); rw [e3]; have e4 : rSt_c4 p g m = ((2 : Int)) := ((bif_f hq0 _ _).trans ((bif_t hq1 _ _).trans rfl)); rw [e4]; exact rSt_p1 p g m hq0 hq1
    ·
      rcases Bool.eq_false_or_eq_true (decide (g < (0 : Int))) with hq2 | hq2
      ·
        have e0 : rSt_c0 p g m = ((0 : Int)) := ((bif_f hq0 _ _).trans ((bif_f hq1 _ _).trans ((bif_t hq2 _ _).trans rfl))); rw [e0]; have e1 : rSt_c1 p g m = ((0 : Int)) := ((bif_f hq0 _ _).trans ((bif_f hq1 _ _).trans ((bif_t hq2 _ _).trans rfl))); rw [e1]; have e3 : rSt_c3 p g m = ((0 : Int)) := ((bif_f hq0 _ _).trans ((bif_f hq1 _ _).trans ((bif_t hq2 _ _).trans rfl))); rw [e3]; have e4 : rSt_c4 p g m = ((2 : Int)) := ((bif_f hq0 _ _).trans ((bif_f hq1 _ _).trans ((bif_t hq2 _ _).trans rfl))); rw [e4]; exact rSt_p2 p g m hq0 hq1 hq2
      ·
        rcases Bool.eq_false_or_eq_true (decide (g > (63000 : Int))) with hq3 | hq3
        ·
          have e0 : rSt_c0 p g m = ((0 : Int)) := ((bif_f hq0 _ _).trans ((bif_f hq1 _ _).trans ((bif_f hq2 _ _).trans ((bif_t hq3 _ _).trans rfl)))); rw [e0]; have e1 : rSt_c1 p g m = ((0 : Int)) := ((bif_f hq0 _ _).trans ((bif_f hq1 _ _).trans ((bif_f hq2 _ _).trans ((bif_t hq3 _ _).trans rfl)))); rw [e1]; have e3 : rSt_c3 p g m = ((0 : Int)) := ((bif_f hq0 _ _).trans ((bif_f hq1 _ _).trans ((bif_f hq2 _ _).trans ((bif_t hq3 _ _).trans rfl)))); rw [e3]; have e4 : rSt_c4 p g m = ((2 : Int)) := ((bif_f hq0 _ _).trans ((bif_f hq1 _ _).trans ((bif_f hq2 _ _).trans ((bif_t hq3 _ _).trans rfl)))); rw [e4]; exact rSt_p3 p g m hq0 hq1 hq2 hq3
        ·
          rcases Bool.eq_false_or_eq_true (decide (m < (1 : Int))) with hq4 | hq4
          ·
            have e0 : rSt_c0 p g m = ((0 : Int)) := ((bif_f hq0 _ _).trans ((bif_f hq1 _ _).trans ((bif_f hq2 _ _).trans ((bif_f hq3 _ _).trans ((bif_t hq4 _ _).trans rfl))))); rw [e0]; have e1 : rSt_c1 p g m = ((0 : Int)) := ((bif_f hq0 _ _).trans ((bif_f hq1 _ _).trans ((bif_f hq2 _ _).trans ((bif_f hq3 _ _).trans ((bif_t hq4 _ _).trans rfl))))); rw [e1]; have e3 : rSt_c3 p g m = ((0 : Int)) := ((bif_f hq0 _ _).trans ((bif_f hq1 _ _).trans ((bif_f hq2 _ _).trans ((bif_f hq3 _ _).trans ((bif_t hq4 _ _).trans rfl))))); rw [e3]; have e4 : rSt_c4 p g m = ((2 : Int)) := ((bif_f hq0 _ _).trans ((bif_f hq1 _ _).trans ((bif_f hq2 _ _).trans ((bif_f hq3 _ _).trans ((bif_t hq4 _ _).trans rfl))))); rw [e4]; exact rSt_p4 p g m hq0 hq1 hq2 hq3 hq4
          ·
            rcases Bool.eq_false_or_eq_true (decide (m > (20 : Int))) with hq5 | hq5
            ·
              have e0 : rSt_c0 p g m = ((0 : Int)) := ((bif_f hq0 _ _).trans ((bif_f hq1 _ _).trans ((bif_f hq2 _ _).trans ((bif_f hq3 _ _).trans ((bif_f hq4 _ _).trans ((bif_t hq5 _ _).trans rfl)))))); rw [e0]; have e1 : rSt_c1 p g m = ((0 : Int)) := ((bif_f hq0 _ _).trans ((bif_f hq1 _ _).trans ((bif_f hq2 _ _).trans ((bif_f hq3 _ _).trans ((bif_f hq4 _ _).trans ((bif_t hq5 _ _).trans rfl)))))); rw [e1]; have e3 : rSt_c3 p g m = ((0 : Int)) := ((bif_f hq0 _ _).trans ((bif_f hq1 _ _).trans ((bif_f hq2 _ _).trans ((bif_f hq3 _ _).trans ((bif_f hq4 _ _).trans ((bif_t hq5 _ _).trans rfl)))))); rw [e3]; have e4 : rSt_c4 p g m = ((2 : Int)) := ((bif_f hq0 _ _).trans ((bif_f hq1 _ _).trans ((bif_f hq2 _ _).trans ((bif_f hq3 _ _).trans ((bif_f hq4 _ _).trans ((bif_t hq5 _ _).trans rfl)))))); rw [e4]; exact rSt_p5 p g m hq0 hq1 hq2 hq3 hq4 hq5
            ·
              have e0 : rSt_c0 p g m = (p) := ((bif_f hq0 _ _).trans ((bif_f hq1 _ _).trans ((bif_f hq2 _ _).trans ((bif_f hq3 _ _).trans ((bif_f hq4 _ _).trans ((bif_f hq5 _ _).trans rfl)))))); rw [e0]; have e1 : rSt_c1 p g m = (g) := ((bif_f hq0 _ _).trans ((bif_f hq1 _ _).trans ((bif_f hq2 _ _).trans ((bif_f hq3 _ _).trans ((bif_f hq4 _ _).trans ((bif_f hq5 _ _).trans rfl)))))); rw [e1]; have e3 : rSt_c3 p g m = (m) := ((bif_f hq0 _ _).trans ((bif_f hq1 _ _).trans ((bif_f hq2 _ _).trans ((bif_f hq3 _ _).trans ((bif_f hq4 _ _).trans ((bif_f hq5 _ _).trans rfl)))))); rw [e3]; have e4 : rSt_c4 p g m = ((0 : Int)) := ((bif_f hq0 _ _).trans ((bif_f hq1 _ _).trans ((bif_f hq2 _ _).trans ((bif_f hq3 _ _).trans ((bif_f hq4 _ _).trans ((bif_f hq5 _ _).trans rfl)))))); rw [e4]; exact rSt_p6 p g m hq0 hq1 hq2 hq3 hq4 hq5
noncomputable def rSt_k : List Value → Option Value
  | [.int .i64 p, .int .i64 g, .int .i64 m] => some (.tuple #[(.agg #[(.int .i64 (rSt_c0 p g m)), (.int .i64 (rSt_c1 p g m)), (.int .i64 ((0 : Int))), (.int .i64 (rSt_c3 p g m))]), (.int .i64 (rSt_c4 p g m))])
  | _ => none
theorem rSt_ok : ∀ args v, rSt_k args = some v → Known Try.prog [] 10 args v := by
  intro args v h
  unfold rSt_k at h
  split at h
  · injection h with h; subst h; exact rSt _ _ _
  · cases h

noncomputable def rSp_c0 (p g s m : Int) : Int := (bif (ckM p g s m != (0 : Int)) then ((0 : Int)) else (tkP p g s m))
noncomputable def rSp_c1 (p g s m : Int) : Int := (bif (ckM p g s m != (0 : Int)) then ((0 : Int)) else (g))
noncomputable def rSp_c2 (p g s m : Int) : Int := (bif (ckM p g s m != (0 : Int)) then ((0 : Int)) else (tkS p g s m))
noncomputable def rSp_c3 (p g s m : Int) : Int := (bif (ckM p g s m != (0 : Int)) then ((0 : Int)) else (m))
noncomputable def rSp_c4 (p g s m : Int) : Int := (bif (ckM p g s m != (0 : Int)) then (ckM p g s m) else ((0 : Int)))
theorem rSp_p0 (p g s m : Int)  (hq0 : (ckM p g s m != (0 : Int)) = true) : Known Try.prog [] 14 [.agg #[.int .i64 p, .int .i64 g, .int .i64 s, .int .i64 m]] (.tuple #[(.agg #[(.int .i64 ((0 : Int))), (.int .i64 ((0 : Int))), (.int .i64 ((0 : Int))), (.int .i64 ((0 : Int)))]), (.int .i64 (ckM p g s m))]) :=
  open_res mix tabM_ok (T := tabM) (fuel := 3000) (ans := [(1, .b 1)]) (log := [(ckM p g s m != (0 : Int)) = true]) (by kernel_rfl) ⟨hq0, trivial⟩ (by kernel_rfl)
theorem rSp_p1 (p g s m : Int)  (hq0 : (ckM p g s m != (0 : Int)) = false) (hq1 : (decide (ckM p g s m = (0 : Int))) = true) : Known Try.prog [] 14 [.agg #[.int .i64 p, .int .i64 g, .int .i64 s, .int .i64 m]] (.tuple #[(.agg #[(.int .i64 (tkP p g s m)), (.int .i64 (g)), (.int .i64 (tkS p g s m)), (.int .i64 (m))]), (.int .i64 ((0 : Int)))]) :=
  open_res mix tabM_ok (T := tabM) (fuel := 3000) (ans := [(1, .b 0), (2, .b 1)]) (log := [(decide (ckM p g s m = (0 : Int))) = true, (ckM p g s m != (0 : Int)) = false]) (by kernel_rfl) ⟨hq1, hq0, trivial⟩ (by kernel_rfl)
set_option maxHeartbeats 8000000 in
theorem rSp (p g s m : Int)  : Known Try.prog [] 14 [.agg #[.int .i64 p, .int .i64 g, .int .i64 s, .int .i64 m]] (.tuple #[(.agg #[(.int .i64 (rSp_c0 p g s m)), (.int .i64 (rSp_c1 p g s m)), (.int .i64 (rSp_c2 p g s m)), (.int .i64 (rSp_c3 p g s m))]), (.int .i64 (rSp_c4 p g s m))]) := by
  rcases Bool.eq_false_or_eq_true (ckM p g s m != (0 : Int)) with hq0 | hq0
  ·
    have e0 : rSp_c0 p g s m = ((0 : Int)) := ((bif_t hq0 _ _).trans rfl); rw [e0]; have e1 : rSp_c1 p g s m = ((0 : Int)) := ((bif_t hq0 _ _).trans rfl); rw [e1]; have e2 : rSp_c2 p g s m = ((0 : Int)) := ((bif_t hq0 _ _).trans rfl); rw [e2]; have e3 : rSp_c3 p g s m = ((0 : Int)) := ((bif_t hq0 _ _).trans rfl); rw [e3]; have e4 : rSp_c4 p g s m = (ckM p g s m) := ((bif_t hq0 _ _).trans rfl); rw [e4]; exact rSp_p0 p g s m hq0
  ·
    have hq1 : (decide (ckM p g s m = (0 : Int))) = true := by
      rcases Bool.eq_false_or_eq_true (decide (ckM p g s m = (0 : Int))) with h | h
      · exact h
      · exfalso; (first | (simp_all only [Bool.and_eq_true, Bool.not_eq_true', Bool.false_eq_true, Bool.true_eq_false, reduceCtorEq]; done) | (simp only [sx, sy, eq_self, ne_eq, IntKind.wrap_i64, wrapU64, Int.reduceLT] at * <;> first | contradiction | omega) | (simp_all; done))
    have e0 : rSp_c0 p g s m = (tkP p g s m) := ((bif_f hq0 _ _).trans rfl); rw [e0]; have e1 : rSp_c1 p g s m = (g) := ((bif_f hq0 _ _).trans rfl); rw [e1]; have e2 : rSp_c2 p g s m = (tkS p g s m) := ((bif_f hq0 _ _).trans rfl); rw [e2]; have e3 : rSp_c3 p g s m = (m) := ((bif_f hq0 _ _).trans rfl); rw [e3]; have e4 : rSp_c4 p g s m = ((0 : Int)) := ((bif_f hq0 _ _).trans rfl); rw [e4]; exact rSp_p1 p g s m hq0 hq1
noncomputable def rSp_k : List Value → Option Value
  | [.agg ⟨[.int .i64 p, .int .i64 g, .int .i64 s, .int .i64 m]⟩] => some (.tuple #[(.agg #[(.int .i64 (rSp_c0 p g s m)), (.int .i64 (rSp_c1 p g s m)), (.int .i64 (rSp_c2 p g s m)), (.int .i64 (rSp_c3 p g s m))]), (.int .i64 (rSp_c4 p g s m))])
  | _ => none
theorem rSp_ok : ∀ args v, rSp_k args = some v → Known Try.prog [] 14 args v := by
  intro args v h
  unfold rSp_k at h
  split at h
  · injection h with h; subst h; exact rSp _ _ _ _
  · cases h

noncomputable def rHl_c0 (p g s m : Int) : Int := (bif (ckM p g s m != (0 : Int)) then ((0 : Int)) else (p))
noncomputable def rHl_c1 (p g s m : Int) : Int := (bif (ckM p g s m != (0 : Int)) then ((0 : Int)) else (p))
noncomputable def rHl_c3 (p g s m : Int) : Int := (bif (ckM p g s m != (0 : Int)) then ((0 : Int)) else (m))
noncomputable def rHl_c4 (p g s m : Int) : Int := (bif (ckM p g s m != (0 : Int)) then (ckM p g s m) else ((0 : Int)))
theorem rHl_p0 (p g s m : Int)  (hq0 : (ckM p g s m != (0 : Int)) = true) : Known Try.prog [] 26 [.agg #[.int .i64 p, .int .i64 g, .int .i64 s, .int .i64 m]] (.tuple #[(.agg #[(.int .i64 ((0 : Int))), (.int .i64 ((0 : Int))), (.int .i64 ((0 : Int))), (.int .i64 ((0 : Int)))]), (.int .i64 (ckM p g s m))]) :=
  open_res mix tabM_ok (T := tabM) (fuel := 3000) (ans := [(1, .b 1)]) (log := [(ckM p g s m != (0 : Int)) = true]) (by kernel_rfl) ⟨hq0, trivial⟩ (by kernel_rfl)
theorem rHl_p1 (p g s m : Int)  (hq0 : (ckM p g s m != (0 : Int)) = false) : Known Try.prog [] 26 [.agg #[.int .i64 p, .int .i64 g, .int .i64 s, .int .i64 m]] (.tuple #[(.agg #[(.int .i64 (p)), (.int .i64 (p)), (.int .i64 ((0 : Int))), (.int .i64 (m))]), (.int .i64 ((0 : Int)))]) :=
  open_res mix tabM_ok (T := tabM) (fuel := 3000) (ans := [(1, .b 0)]) (log := [(ckM p g s m != (0 : Int)) = false]) (by kernel_rfl) ⟨hq0, trivial⟩ (by kernel_rfl)
set_option maxHeartbeats 8000000 in
theorem rHl (p g s m : Int)  : Known Try.prog [] 26 [.agg #[.int .i64 p, .int .i64 g, .int .i64 s, .int .i64 m]] (.tuple #[(.agg #[(.int .i64 (rHl_c0 p g s m)), (.int .i64 (rHl_c1 p g s m)), (.int .i64 ((0 : Int))), (.int .i64 (rHl_c3 p g s m))]), (.int .i64 (rHl_c4 p g s m))]) := by
  rcases Bool.eq_false_or_eq_true (ckM p g s m != (0 : Int)) with hq0 | hq0
  ·
    have e0 : rHl_c0 p g s m = ((0 : Int)) := ((bif_t hq0 _ _).trans rfl); rw [e0]; have e1 : rHl_c1 p g s m = ((0 : Int)) := ((bif_t hq0 _ _).trans rfl); rw [e1]; have e3 : rHl_c3 p g s m = ((0 : Int)) := ((bif_t hq0 _ _).trans rfl); rw [e3]; have e4 : rHl_c4 p g s m = (ckM p g s m) := ((bif_t hq0 _ _).trans rfl); rw [e4]; exact rHl_p0 p g s m hq0
  ·
    have e0 : rHl_c0 p g s m = (p) := ((bif_f hq0 _ _).trans rfl); rw [e0]; have e1 : rHl_c1 p g s m = (p) := ((bif_f hq0 _ _).trans rfl); rw [e1]; have e3 : rHl_c3 p g s m = (m) := ((bif_f hq0 _ _).trans rfl); rw [e3]; have e4 : rHl_c4 p g s m = ((0 : Int)) := ((bif_f hq0 _ _).trans rfl); rw [e4]; exact rHl_p1 p g s m hq0
noncomputable def rHl_k : List Value → Option Value
  | [.agg ⟨[.int .i64 p, .int .i64 g, .int .i64 s, .int .i64 m]⟩] => some (.tuple #[(.agg #[(.int .i64 (rHl_c0 p g s m)), (.int .i64 (rHl_c1 p g s m)), (.int .i64 ((0 : Int))), (.int .i64 (rHl_c3 p g s m))]), (.int .i64 (rHl_c4 p g s m))])
  | _ => none
theorem rHl_ok : ∀ args v, rHl_k args = some v → Known Try.prog [] 26 args v := by
  intro args v h
  unfold rHl_k at h
  split at h
  · injection h with h; subst h; exact rHl _ _ _ _
  · cases h

end Go.Proofs.Ytaohbffjfedcgaa
