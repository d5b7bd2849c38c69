import Derived.ProofKit
import Derived.Test.YtkmooakeilkdiaaProg
import Derived.Test.YtkmooakeilkdiaaEvZ7
namespace Go.Proofs.Ytkmooakeilkdiaa
open Go Go.RowKit
noncomputable section
theorem knDriveKnown_mix : Try.prog.follows .mixedOrders = true := by kernel_rfl
def knDriveKnownL : Vars := []
theorem knDriveKnown_r0 : resV Try.prog knDriveKnownL Tab.none 3000 9 [] (.bool true) = true := by kernel_rfl
def knDriveKnownT0 : Tab := Tab.put 9 [] (.bool true) Tab.none
theorem knDriveKnown_e0 : Known Try.prog knDriveKnownL 9 [] (.bool true) := run_res knDriveKnown_mix (TabOk.none) knDriveKnown_r0
theorem knDriveKnown_k0 : TabOk Try.prog knDriveKnownL knDriveKnownT0 := TabOk.put knDriveKnown_e0 (TabOk.none)
theorem driveKnown_run : resV Try.prog knDriveKnownL knDriveKnownT0 3000 4 [] (.bool true) = true := by kernel_rfl
theorem driveKnown_true (w : World) : Calls Try.prog 4 #[] w fun e w' => e = .returned (.bool true) ∧ Below w.heap.size w w' :=
  (run_res knDriveKnown_mix (knDriveKnown_k0) driveKnown_run).2.2 w (LaidL.nil w)
end
end Go.Proofs.Ytkmooakeilkdiaa
