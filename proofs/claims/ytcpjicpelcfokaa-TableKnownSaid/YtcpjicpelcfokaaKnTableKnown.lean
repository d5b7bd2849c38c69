import Derived.ProofKit
import Derived.Test.YtcpjicpelcfokaaProg
import Derived.Test.YtcpjicpelcfokaaEvQ
namespace Go.Proofs.Ytcpjicpelcfokaa
open Go Go.RowKit
noncomputable section
theorem knTableKnown_mix : Try.prog.follows .mixedOrders = true := by kernel_rfl
theorem knTableKnown_r0 : resV Try.prog Tab.none 3000 23 [] (.bool true) = true := by kernel_rfl
def knTableKnownT0 : Tab := Tab.put 23 [] (.bool true) Tab.none
theorem knTableKnown_k0 : TabOk Try.prog knTableKnownT0 := TabOk.put (run_res knTableKnown_mix (TabOk.none) knTableKnown_r0) (TabOk.none)
theorem tableKnown_run : resV Try.prog knTableKnownT0 3000 3 [] (.bool true) = true := by kernel_rfl
theorem tableKnown_true (w : World) : Calls Try.prog 3 #[] w fun e w' => e = .returned (.bool true) ∧ Below w.heap.size w w' :=
  (run_res knTableKnown_mix (knTableKnown_k0) tableKnown_run).2.2 w
end
end Go.Proofs.Ytcpjicpelcfokaa
