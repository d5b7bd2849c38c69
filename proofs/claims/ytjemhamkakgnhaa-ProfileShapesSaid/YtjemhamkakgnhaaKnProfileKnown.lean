import Derived.ProofKit
import Derived.Test.YtjemhamkakgnhaaProg
import Derived.Test.YtjemhamkakgnhaaEvZ7
namespace Go.Proofs.Ytjemhamkakgnhaa
open Go Go.RowKit
noncomputable section
theorem knProfileKnown_mix : Try.prog.follows .mixedOrders = true := by kernel_rfl
def knProfileKnownL : Vars := []
theorem knProfileKnown_r0 : resV Try.prog knProfileKnownL Tab.none 3000 14 [] (.bool true) = true := by kernel_rfl
def knProfileKnownT0 : Tab := Tab.put 14 [] (.bool true) Tab.none
theorem knProfileKnown_e0 : Known Try.prog knProfileKnownL 14 [] (.bool true) := run_res knProfileKnown_mix (TabOk.none) knProfileKnown_r0
theorem knProfileKnown_k0 : TabOk Try.prog knProfileKnownL knProfileKnownT0 := TabOk.put knProfileKnown_e0 (TabOk.none)
theorem profileKnown_run : resV Try.prog knProfileKnownL knProfileKnownT0 3000 6 [] (.bool true) = true := by kernel_rfl
theorem profileKnown_true (w : World) : Calls Try.prog 6 #[] w fun e w' => e = .returned (.bool true) ∧ Below w.heap.size w w' :=
  (run_res knProfileKnown_mix (knProfileKnown_k0) profileKnown_run).2.2 w (LaidL.nil w)
end
end Go.Proofs.Ytjemhamkakgnhaa
