/- Layer 12: SensorOrder, out of its contract. -/
import Derived.Test.YthjdoeeefighkaaOgZ
namespace Go.Proofs.Ythjdoeeefighkaa
open Go Go.RowKit
set_option linter.unusedVariables false
def In64 (n : Int) : Prop := -9223372036854775808 ≤ n ∧ n ≤ 9223372036854775807
theorem is_made (n : Int) : isR (mO n) (mF n) (mZ n) := ⟨cdN n, cdN_b n, rfl, rfl, rfl⟩
theorem cd_made (n : Int) : cdR (mO n) (mF n) (mZ n) = cdN n := cdR_rd (cdN_b n)
theorem w_of (a b c : Int) : wG (mO a) (mF a) (mZ a) (mO b) (mF b) (mZ b) (mO c) (mF c) (mZ c) = true := wG_iff.2 ⟨is_made a, is_made b, is_made c⟩
theorem wC_of (a b c : Int) : wC (mO a) (mF a) (mZ a) (mO b) (mF b) (mZ b) (mO c) (mF c) (mZ c) = vtC (cdN a) (cdN b) (cdN c) := by unfold wC; rw [cd_made, cd_made, cd_made]
theorem same_w {x y : Nat} (h : x = y) : (!(rdO x == rdO y && (rdF x == rdF y && rdZ x == rdZ y))) = false := by subst h; simp
theorem order_law (a b c : Int) : Known Try.prog [] 7 [.int .i64 a, .int .i64 b, .int .i64 c] (.bool true) := by
  obtain ⟨s1, s2, s3, s4, s5, s6⟩ := vt_sym (cdN_b a) (cdN_b b) (cdN_b c)
  refine ord a b c (w_of a b c) (w_of a c b) (w_of b a c) (w_of b c a) (w_of c a b) (w_of c b a) ?_ ?_ ?_ ?_ ?_ ?_
  · unfold ckG
    exact (@decide_eq_true_iff _ (Classical.propDecidable _)).2 ⟨vtC (cdN a) (cdN b) (cdN c), s6, by unfold wO; rw [wC_of], by unfold wF; rw [wC_of], by unfold wZ; rw [wC_of]⟩
  all_goals (unfold wO wF wZ; rw [wC_of, wC_of]; refine same_w ?_; assumption)
theorem sensorOrder_true (a b c : Int) (w : World) (_ : In64 a) (_ : In64 b) (_ : In64 c) :
    Calls Try.prog 7 #[.int .i64 a, .int .i64 b, .int .i64 c] w fun e w' => e = .returned (.bool true) ∧ Below w.heap.size w w' :=
  (order_law a b c).2.2 w (LaidL.nil w)
end Go.Proofs.Ythjdoeeefighkaa
