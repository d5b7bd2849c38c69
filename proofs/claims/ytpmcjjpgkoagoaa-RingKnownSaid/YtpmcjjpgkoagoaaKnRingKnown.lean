import Derived.ProofKit
import Derived.Test.YtpmcjjpgkoagoaaProg
import Derived.Test.YtpmcjjpgkoagoaaEvQ
namespace Go.Proofs.Ytpmcjjpgkoagoaa
open Go Go.RowKit
noncomputable section
theorem knRingKnown_mix : Try.prog.follows .mixedOrders = true := by kernel_rfl
theorem knRingKnown_r0 : resV Try.prog Tab.none 3000 9 [] (.bool true) = true := by kernel_rfl
def knRingKnownT0 : Tab := Tab.put 9 [] (.bool true) Tab.none
theorem knRingKnown_k0 : TabOk Try.prog knRingKnownT0 := TabOk.put (run_res knRingKnown_mix (TabOk.none) knRingKnown_r0) (TabOk.none)
theorem ringKnown_run : resV Try.prog knRingKnownT0 3000 5 [] (.bool true) = true := by kernel_rfl
theorem ringKnown_true (w : World) : Calls Try.prog 5 #[] w fun e w' => e = .returned (.bool true) ∧ Below w.heap.size w w' :=
  (run_res knRingKnown_mix (knRingKnown_k0) ringKnown_run).2.2 w
end
end Go.Proofs.Ytpmcjjpgkoagoaa
