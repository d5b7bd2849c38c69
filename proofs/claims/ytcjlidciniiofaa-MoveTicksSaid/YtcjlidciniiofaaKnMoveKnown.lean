import Derived.ProofKit
import Derived.Test.YtcjlidciniiofaaProg
import Derived.Test.YtcjlidciniiofaaEvZ7
namespace Go.Proofs.Ytcjlidciniiofaa
open Go Go.RowKit
noncomputable section
theorem knMoveKnown_mix : Try.prog.follows .mixedOrders = true := by kernel_rfl
def knMoveKnownL : Vars := []
theorem knMoveKnown_r0 : resV Try.prog knMoveKnownL Tab.none 3000 7 [] (.bool true) = true := by kernel_rfl
def knMoveKnownT0 : Tab := Tab.put 7 [] (.bool true) Tab.none
theorem knMoveKnown_e0 : Known Try.prog knMoveKnownL 7 [] (.bool true) := run_res knMoveKnown_mix (TabOk.none) knMoveKnown_r0
theorem knMoveKnown_k0 : TabOk Try.prog knMoveKnownL knMoveKnownT0 := TabOk.put knMoveKnown_e0 (TabOk.none)
theorem moveKnown_run : resV Try.prog knMoveKnownL knMoveKnownT0 3000 4 [] (.bool true) = true := by kernel_rfl
theorem moveKnown_true (w : World) : Calls Try.prog 4 #[] w fun e w' => e = .returned (.bool true) ∧ Below w.heap.size w w' :=
  (run_res knMoveKnown_mix (knMoveKnown_k0) moveKnown_run).2.2 w (LaidL.nil w)
end
end Go.Proofs.Ytcjlidciniiofaa
