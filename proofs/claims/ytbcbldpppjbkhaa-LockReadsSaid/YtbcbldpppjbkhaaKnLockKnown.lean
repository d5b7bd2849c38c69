import Derived.ProofKit
import Derived.Test.YtbcbldpppjbkhaaProg
import Derived.Test.YtbcbldpppjbkhaaEvZ7
namespace Go.Proofs.Ytbcbldpppjbkhaa
open Go Go.RowKit
noncomputable section
theorem knLockKnown_mix : Try.prog.follows .mixedOrders = true := by kernel_rfl
def knLockKnownL : Vars := []
theorem knLockKnown_r0 : resV Try.prog knLockKnownL Tab.none 3000 21 [] (.bool true) = true := by kernel_rfl
def knLockKnownT0 : Tab := Tab.put 21 [] (.bool true) Tab.none
theorem knLockKnown_e0 : Known Try.prog knLockKnownL 21 [] (.bool true) := run_res knLockKnown_mix (TabOk.none) knLockKnown_r0
theorem knLockKnown_k0 : TabOk Try.prog knLockKnownL knLockKnownT0 := TabOk.put knLockKnown_e0 (TabOk.none)
theorem lockKnown_run : resV Try.prog knLockKnownL knLockKnownT0 3000 3 [] (.bool true) = true := by kernel_rfl
theorem lockKnown_true (w : World) : Calls Try.prog 3 #[] w fun e w' => e = .returned (.bool true) ∧ Below w.heap.size w w' :=
  (run_res knLockKnown_mix (knLockKnown_k0) lockKnown_run).2.2 w (LaidL.nil w)
end
end Go.Proofs.Ytbcbldpppjbkhaa
