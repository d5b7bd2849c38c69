/- Layer 2: MaskNear, out of its contract. -/
import Derived.Test.YtboobndcgilmlaaDoorOgC
namespace Go.Proofs.YtboobndcgilmlaaDoor
open Go Go.RowKit
set_option linter.unusedVariables false
def In64 (n : Int) : Prop := -9223372036854775808 ≤ n ∧ n ≤ 9223372036854775807
theorem ifmax (a b : Int) : (if b > a then b else a) = max a b := by split <;> omega
theorem ifmin (a b : Int) : (if b < a then b else a) = min a b := by split <;> omega
theorem mnA_go {m n : Int} (hw : isW m = true) (he : neE m (flO n) = 0) (hb : 0 ≤ flO n ∧ flO n < 64) (hv : 0 ≤ neV m (flO n) ∧ neV m (flO n) < 64) : ∀ (k : Nat) (i : Int), i + k = 64 → 0 ≤ i → mnA_f m n (k + 1) i = some (0, 64) := by
  have N := (near_is hw hb).some he
  intro k
  induction k with
  | zero =>
    intro i h h0
    rw [mnA_f, decide_eq_true (by omega), cond_true, decide_eq_false (by omega), cond_false]
    rw [show i = 64 by omega]
  | succ k ih =>
    intro i h h0
    rw [mnA_f, decide_eq_true (by omega), cond_true, decide_eq_true (by omega), cond_true]
    have hi := ih (i + 1) (by omega) (by omega)
    have w1 : IntKind.i64.wrap (i + 1) = i + 1 := Go.IntWalk.i64_in _ ⟨by omega, by omega⟩
    rw [w1, hi]
    cases hh : hs m i with
    | false => rfl
    | true =>
      have hn := N.2 i hh
      rw [cond_true, ifmax, ifmin, ifmax, ifmin, Go.IntWalk.i64_in (max i (flO n) - min i (flO n)) ⟨by omega, by omega⟩, Go.IntWalk.i64_in (max (neV m (flO n)) (flO n) - min (neV m (flO n)) (flO n)) ⟨by omega, by omega⟩]
      by_cases c : (max i (flO n) - min i (flO n)) = (max (neV m (flO n)) (flO n) - min (neV m (flO n)) (flO n))
      · rw [show ((max i (flO n) - min i (flO n)) == (max (neV m (flO n)) (flO n) - min (neV m (flO n)) (flO n))) = true by simpa using c, cond_true]
      · rw [show ((max i (flO n) - min i (flO n)) == (max (neV m (flO n)) (flO n) - min (neV m (flO n)) (flO n))) = false by simpa using c, cond_false]
theorem mnB_go {m n : Int} (hw : isW m = true) (he : neE m (flO n) = 0) (hb : 0 ≤ flO n ∧ flO n < 64) (hv : 0 ≤ neV m (flO n) ∧ neV m (flO n) < 64) : ∀ (k : Nat) (i : Int), i + k = 64 → 0 ≤ i → mnB_f m n (k + 1) i = some (1, 64) := by
  have N := (near_is hw hb).some he
  intro k
  induction k with
  | zero =>
    intro i h h0
    rw [mnB_f, decide_eq_true (by omega), cond_true, decide_eq_false (by omega), cond_false]
    rw [show i = 64 by omega]
  | succ k ih =>
    intro i h h0
    rw [mnB_f, decide_eq_true (by omega), cond_true, decide_eq_true (by omega), cond_true]
    have hi := ih (i + 1) (by omega) (by omega)
    have w1 : IntKind.i64.wrap (i + 1) = i + 1 := Go.IntWalk.i64_in _ ⟨by omega, by omega⟩
    rw [w1, hi]
    cases hh : hs m i with
    | false => rfl
    | true =>
      have hn := N.2 i hh
      rw [cond_true, ifmax, ifmin, ifmax, ifmin, Go.IntWalk.i64_in (max i (flO n) - min i (flO n)) ⟨by omega, by omega⟩, Go.IntWalk.i64_in (max (neV m (flO n)) (flO n) - min (neV m (flO n)) (flO n)) ⟨by omega, by omega⟩]
      unfold ds at hn
      rw [decide_eq_false (by omega), cond_false]
      by_cases c : (max i (flO n) - min i (flO n)) = (max (neV m (flO n)) (flO n) - min (neV m (flO n)) (flO n))
      · rw [show ((max i (flO n) - min i (flO n)) == (max (neV m (flO n)) (flO n) - min (neV m (flO n)) (flO n))) = true by simpa using c, cond_true, decide_eq_false (by omega), cond_false]
      · rw [show ((max i (flO n) - min i (flO n)) == (max (neV m (flO n)) (flO n) - min (neV m (flO n)) (flO n))) = false by simpa using c, cond_false]
theorem fl_in (n : Int) : 0 ≤ flO n ∧ flO n < 64 := by unfold flO; exact ⟨Int.emod_nonneg _ (by decide), Int.emod_lt_of_pos _ (by decide)⟩
theorem near_law {m : Int} (hw : isW m = true) (n : Int) : Known Tryd.prog knMaskKnownL 9 [.int .u64 m, .int .i64 n] (.bool true) := by
  have hb := fl_in n
  have Z := near_zero hw hb
  by_cases h0 : m = 0
  · have k := mn0 m n hw (by simpa using h0) (Z.1 h0)
    unfold mn0_c0 at k
    rw [Z.1 h0] at k
    exact k
  · have he := Z.2 h0
    have N := near_is hw hb
    have hh := (N.some he).1
    have hv := hs_in hh
    cases e : hs m (flO n) with
    | true =>
      have h3 : (neV m (flO n) != flO n) = false := by rw [(N.self e).1]; simp
      have k := mn1 m n _ hw (by simpa using h0) he hh e h3 hb hv (by assumption) (by simpa using h0) (by rw [he]; rfl) hw (by rw [hh]; rfl) hw e h3 (mnA_ok m n hw (by simpa using h0) he hh e h3 hb hv _ _ _ (mnA_go hw he hb hv 64 0 (by omega) (by omega)))
      exact k
    | false =>
      have k := mn2 m n _ hw (by simpa using h0) he hh e hb hv (by assumption) (by simpa using h0) (by rw [he]; rfl) hw (by rw [hh]; rfl) hw e (mnB_ok m n hw (by simpa using h0) he hh e hb hv _ _ _ (mnB_go hw he hb hv 64 0 (by omega) (by omega)))
      exact k
theorem maskNear_true (m n : Int) (w : World) (hm : (Lit.int .u64 m).wf = true) (_ : In64 n) (hl : LaidL knMaskKnownL w) :
    Calls Tryd.prog 9 #[.int .u64 m, .int .i64 n] w fun e w' => e = .returned (.bool true) ∧ Below w.heap.size w w' := by
  have hw : isW m = true := by
    simp [Lit.wf, IntKind.min, IntKind.max, IntKind.signed, IntKind.bits] at hm
    exact decide_eq_true (by omega)
  exact (near_law hw n).2.2 w hl
end Go.Proofs.YtboobndcgilmlaaDoor
