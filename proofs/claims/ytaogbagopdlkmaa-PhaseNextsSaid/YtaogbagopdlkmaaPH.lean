import Derived.Test.YtaogbagopdlkmaaOgO
set_option linter.unusedVariables false
namespace Go.Proofs.Ytaogbagopdlkmaa
open Go Go.RowKit
def deB (m d t s c x : Int) : Bool := decide (phE m d t s c x = 0 ∧ phB m d t s c x = 2 ∧ phF m d t s c x = 0)
theorem phE_in {m d t s c x : Int} (h : ckX m d t s c = 0) (hx : 0 ≤ x ∧ x ≤ 1099511627776) : phE m d t s c x = 0 := by unfold phE; rw [if_pos h, if_pos hx]
theorem pDecision (m d t s c x : Int) : KnownR Try.prog [] 20 [.val (.agg #[.int .i64 m, .int .i64 d, .int .i64 t, .int .i64 s, .int .i64 c]), .val (.int .i64 x)] (.tuple #[.bool (deB m d t s c x), .int .i64 (phE m d t s c x)]) [] := by
 have k := deP m d t s c x
 have e1 : deP_c1 m d t s c x = phE m d t s c x := by
  unfold deP_c1
  by_cases h : phE m d t s c x = 0
  ·rw [h]; rfl
  ·rw [show (phE m d t s c x != 0) = true by simpa using h]; rfl
 have e0 : deP_c0 m d t s c x = deB m d t s c x := by
  unfold deP_c0 deB
  by_cases h : phE m d t s c x = 0
  ·rw [show (phE m d t s c x != 0) = false by simpa using h, cond_false]
   simp only [beq_self_eq_true, Bool.true_and, h, true_and, Bool.decide_and]
   rfl
  ·rw [show (phE m d t s c x != 0) = true by simpa using h, cond_true, decide_eq_false (fun g => h g.1)]
 rw [e0, e1] at k
 exact k
end Go.Proofs.Ytaogbagopdlkmaa
