import Derived.ProofKit
import Derived.Test.YthkjdhjfiofbpaaProg
import Derived.Test.YthkjdhjfiofbpaaEvZ7
namespace Go.Proofs.Ythkjdhjfiofbpaa
open Go Go.RowKit
noncomputable section
theorem knKeyKnown_mix : Try.prog.follows .mixedOrders = true := by kernel_rfl
def knKeyKnownL : Vars := []
theorem knKeyKnown_r0 : resV Try.prog knKeyKnownL Tab.none 3000 7 [] (.bool true) = true := by kernel_rfl
def knKeyKnownT0 : Tab := Tab.put 7 [] (.bool true) Tab.none
theorem knKeyKnown_e0 : Known Try.prog knKeyKnownL 7 [] (.bool true) := run_res knKeyKnown_mix (TabOk.none) knKeyKnown_r0
theorem knKeyKnown_k0 : TabOk Try.prog knKeyKnownL knKeyKnownT0 := TabOk.put knKeyKnown_e0 (TabOk.none)
theorem keyKnown_run : resV Try.prog knKeyKnownL knKeyKnownT0 3000 4 [] (.bool true) = true := by kernel_rfl
theorem keyKnown_true (w : World) : Calls Try.prog 4 #[] w fun e w' => e = .returned (.bool true) ∧ Below w.heap.size w w' :=
  (run_res knKeyKnown_mix (knKeyKnown_k0) keyKnown_run).2.2 w (LaidL.nil w)
end
end Go.Proofs.Ythkjdhjfiofbpaa
