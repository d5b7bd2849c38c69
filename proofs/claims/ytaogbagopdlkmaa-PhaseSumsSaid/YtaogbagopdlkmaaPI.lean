import Derived.Test.YtaogbagopdlkmaaPE
import Derived.Test.YtaogbagopdlkmaaPF
set_option linter.unusedVariables false
namespace Go.Proofs.Ytaogbagopdlkmaa
open Go Go.RowKit
def tkG (n b p : Int) : Bool := if b = 2 ∨ b = 3 then decide (0 ≤ p ∧ p < n) else decide (p = 0)
def tkB (m d n b p : Int) : Int := if b = 1 then 0 else if b = 2 then m + p * (m + d) else if b = 3 then m + p * (m + d) + m else if b = 4 then m + n * (m + d) else m + n * (m + d) + m
def tkL (m d b : Int) : Int := if b = 3 ∨ b = 5 then d else m
theorem prt_of (m d : Int) (N j : Nat) (h : j < 2 * N + 3) : (1 ≤ (prt m d N j).1 ∧ (prt m d N j).1 ≤ 5) ∧ tkG N (prt m d N j).1 (prt m d N j).2.1 = true ∧ (prt m d N j).2.2.1 = tkB m d N (prt m d N j).1 (prt m d N j).2.1 ∧ (prt m d N j).2.2.2 = tkL m d (prt m d N j).1 := by
 rcases odd_even j with rfl | ⟨i, rfl⟩ | ⟨i, rfl⟩
 ·rw [prt_zero]; simp [tkG, tkB, tkL]
 ·by_cases hi : i = N
  ·subst hi; rw [prt_pmove]; simp [tkG, tkB, tkL]
  ·rw [prt_move m d N i hi]
   have : i < N := by omega
   simp [tkG, tkB, tkL]; omega
 ·by_cases hi : i = N
  ·subst hi; rw [prt_pdoor]; simp [tkG, tkB, tkL]
  ·rw [prt_door m d N i hi]
   have : i < N := by omega
   simp [tkG, tkB, tkL]; omega
end Go.Proofs.Ytaogbagopdlkmaa
