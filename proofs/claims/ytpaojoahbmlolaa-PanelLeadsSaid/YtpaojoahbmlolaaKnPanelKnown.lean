import Derived.ProofKit
import Derived.Test.YtpaojoahbmlolaaProg
import Derived.Test.YtpaojoahbmlolaaEvZ7
namespace Go.Proofs.Ytpaojoahbmlolaa
open Go Go.RowKit
noncomputable section
theorem knPanelKnown_mix : Try.prog.follows .mixedOrders = true := by kernel_rfl
def knPanelKnownL : Vars := []
theorem knPanelKnown_r0 : resV Try.prog knPanelKnownL Tab.none 3000 21 [] (.bool true) = true := by kernel_rfl
def knPanelKnownT0 : Tab := Tab.put 21 [] (.bool true) Tab.none
theorem knPanelKnown_e0 : Known Try.prog knPanelKnownL 21 [] (.bool true) := run_res knPanelKnown_mix (TabOk.none) knPanelKnown_r0
theorem knPanelKnown_k0 : TabOk Try.prog knPanelKnownL knPanelKnownT0 := TabOk.put knPanelKnown_e0 (TabOk.none)
theorem panelKnown_run : resV Try.prog knPanelKnownL knPanelKnownT0 3000 5 [] (.bool true) = true := by kernel_rfl
theorem panelKnown_true (w : World) : Calls Try.prog 5 #[] w fun e w' => e = .returned (.bool true) ∧ Below w.heap.size w w' :=
  (run_res knPanelKnown_mix (knPanelKnown_k0) panelKnown_run).2.2 w (LaidL.nil w)
end
end Go.Proofs.Ytpaojoahbmlolaa
