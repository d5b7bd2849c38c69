import Derived.ProofKit
import Derived.Test.YtdfphgmbldifpaaProg
import Derived.Test.YtdfphgmbldifpaaEvS
namespace Go.Proofs.Ytdfphgmbldifpaa
open Go Go.RowKit
noncomputable section
theorem knPurgeKnown_mix : Try.prog.follows .mixedOrders = true := by kernel_rfl
def knPurgeKnownL : Vars := []
theorem knPurgeKnown_r0 : resV Try.prog knPurgeKnownL Tab.none 3000 10 [] (.bool true) = true := by kernel_rfl
def knPurgeKnownT0 : Tab := Tab.put 10 [] (.bool true) Tab.none
theorem knPurgeKnown_e0 : Known Try.prog knPurgeKnownL 10 [] (.bool true) := run_res knPurgeKnown_mix (TabOk.none) knPurgeKnown_r0
theorem knPurgeKnown_k0 : TabOk Try.prog knPurgeKnownL knPurgeKnownT0 := TabOk.put knPurgeKnown_e0 (TabOk.none)
theorem purgeKnown_run : resV Try.prog knPurgeKnownL knPurgeKnownT0 3000 5 [] (.bool true) = true := by kernel_rfl
theorem purgeKnown_true (w : World) : Calls Try.prog 5 #[] w fun e w' => e = .returned (.bool true) ∧ Below w.heap.size w w' :=
  (run_res knPurgeKnown_mix (knPurgeKnown_k0) purgeKnown_run).2.2 w (LaidL.nil w)
end
end Go.Proofs.Ytdfphgmbldifpaa
