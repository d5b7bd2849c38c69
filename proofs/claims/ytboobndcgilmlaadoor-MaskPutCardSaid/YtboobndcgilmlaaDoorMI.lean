/- Layer 2: MaskPut, out of its contract. -/
import Derived.Test.YtboobndcgilmlaaDoorOgH
namespace Go.Proofs.YtboobndcgilmlaaDoor
open Go Go.RowKit
set_option linter.unusedVariables false
def In64 (n : Int) : Prop := -9223372036854775808 ≤ n ∧ n ≤ 9223372036854775807
theorem fl_in (n : Int) : 0 ≤ flO n ∧ flO n < 64 := by unfold flO; exact ⟨Int.emod_nonneg _ (by decide), Int.emod_lt_of_pos _ (by decide)⟩
theorem hs_tb {v i : Int} (h : 0 ≤ i ∧ i < 64) : hs v i = tb v i.toNat := by unfold hs; rw [decide_eq_true h, Bool.true_and]
theorem mpA_go {m a b : Int} {c : Bool} (hw : isW m = true) : ∀ (k : Nat) (i : Int), i + k = 64 → 0 ≤ i →
    mpA_f m a b c (k + 1) ((bct i.toNat (puV m (if flO b < flO a then flO b else flO a) (if flO b > flO a then flO b else flO a) c).toNat : Nat) : Int) i = some (1, (((bct 64 (puV m (if flO b < flO a then flO b else flO a) (if flO b > flO a then flO b else flO a) c).toNat : Nat) : Int), 64)) := by
  have ha := fl_in a
  have hb := fl_in b
  obtain ⟨F, hF⟩ : ∃ F, (if flO b < flO a then flO b else flO a) = F := ⟨_, rfl⟩
  obtain ⟨T, hT⟩ : ∃ T, (if flO b > flO a then flO b else flO a) = T := ⟨_, rfl⟩
  have hr : 0 ≤ F ∧ F ≤ T ∧ T ≤ 63 := by rw [← hF, ← hT]; omega
  obtain ⟨p1, p2, p3⟩ := put_is (c := c) hw hr
  obtain ⟨q1, q2, q3⟩ := put_is (c := false) p1 hr
  intro k
  induction k with
  | zero =>
    intro i h h0
    have hc := bct_le 64 (puV m F T c).toNat
    have e : i = 64 := by omega
    subst e
    rw [mpA_f, hF, hT, show (64 : Int).toNat = 64 from rfl, decide_eq_true (by omega), cond_true, decide_eq_false (by omega), cond_false]
  | succ k ih =>
    intro i h h0
    have hc := bct_le i.toNat (puV m F T c).toNat
    have hs1 := bct_succ i.toNat (puV m F T c).toNat
    have hi := ih (i + 1) (by omega) (by omega)
    rw [hF, hT] at hi ⊢
    rw [show (i + 1).toNat = i.toNat + 1 by omega, hs1] at hi
    rw [mpA_f, hF, hT]
    rw [decide_eq_true (by omega), cond_true, decide_eq_true (by omega), cond_true, hs_tb (by omega), hs_tb (by omega), hs_tb (by omega)]
    have w1 : IntKind.i64.wrap (i + 1) = i + 1 := i64s (by omega)
    have w2 : IntKind.i64.wrap (((bct i.toNat (puV m F T c).toNat : Nat) : Int) + 1) = ((bct i.toNat (puV m F T c).toNat : Nat) : Int) + 1 := i64s (by omega)
    rw [w1, w2]
    have x3 := p3 i.toNat
    have z3 := q3 i.toNat
    rw [show ((puV m F T c).toNat.testBit i.toNat) = tb (puV m F T c) i.toNat from rfl] at hi
    by_cases c1 : i ≥ F
    · rw [decide_eq_true c1, cond_true]
      by_cases c2 : i ≤ T
      · rw [if_pos (by omega)] at x3 z3
        rw [decide_eq_true c2, cond_true, x3, z3]
        rw [x3] at hi
        cases c
        · exact hi
        · exact hi
      · rw [if_neg (by omega)] at x3 z3
        rw [decide_eq_false c2, cond_false, z3, x3]
        rw [x3] at hi
        cases e : tb m i.toNat
        · rw [e] at hi; exact hi
        · rw [e] at hi; exact hi
    · rw [if_neg (by omega)] at x3 z3
      rw [decide_eq_false c1, cond_false, z3, x3]
      rw [x3] at hi
      cases e : tb m i.toNat
      · rw [e] at hi; exact hi
      · rw [e] at hi; exact hi
theorem put_law {m : Int} (hw : isW m = true) (a b : Int) (c : Bool) : Known Tryd.prog knMaskKnownL 7 [.int .u64 m, .int .i64 a, .int .i64 b, .bool c] (.bool true) := by
  have ha := fl_in a
  have hb := fl_in b
  have hr : 0 ≤ (if flO b < flO a then flO b else flO a) ∧ (if flO b < flO a then flO b else flO a) ≤ (if flO b > flO a then flO b else flO a) ∧ (if flO b > flO a then flO b else flO a) ≤ 63 := by omega
  obtain ⟨p1, p2, p3⟩ := put_is (c := c) hw hr
  obtain ⟨q1, q2, q3⟩ := put_is (c := false) p1 hr
  have g := mpA_go (a := a) (b := b) (c := c) hw 64 0 (by omega) (by omega)
  rw [show ((bct (0 : Int).toNat (puV m (if flO b < flO a then flO b else flO a) (if flO b > flO a then flO b else flO a) c).toNat : Nat) : Int) = 0 from rfl] at g
  have ho := mpA_ok m a b c hw p1 q1 p2 q2 _ _ _ g
  have k := mp1 m a b c _ _ hw p1 q1 p2 q2 hw p1 (by rw [p2]; rfl) (by rw [q2]; rfl) ho
  unfold mp1_c0 bctI at k
  rw [show (((bct 64 (puV m (if flO b < flO a then flO b else flO a) (if flO b > flO a then flO b else flO a) c).toNat : Nat) : Int) == ((bct 64 (puV m (if flO b < flO a then flO b else flO a) (if flO b > flO a then flO b else flO a) c).toNat : Nat) : Int)) = true from beq_self_eq_true _] at k
  exact k
theorem maskPut_true (m a b : Int) (c : Bool) (w : World) (hm : (Lit.int .u64 m).wf = true) (_ : In64 a) (_ : In64 b) (hl : LaidL knMaskKnownL w) :
    Calls Tryd.prog 7 #[.int .u64 m, .int .i64 a, .int .i64 b, .bool c] w fun e w' => e = .returned (.bool true) ∧ Below w.heap.size w w' := by
  have hw : isW m = true := by
    simp [Lit.wf, IntKind.min, IntKind.max, IntKind.signed, IntKind.bits] at hm
    exact decide_eq_true (by omega)
  exact (put_law hw a b c).2.2 w hl
end Go.Proofs.YtboobndcgilmlaaDoor
