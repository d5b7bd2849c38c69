import Derived.ProofKit
import Derived.Test.YtkoopcjdpcpknaaProg
import Derived.Test.YtkoopcjdpcpknaaEvZ7
namespace Go.Proofs.Ytkoopcjdpcpknaa
open Go Go.RowKit
noncomputable section
theorem knScrubAwake_mix : Try.prog.follows .mixedOrders = true := by kernel_rfl
def knScrubAwakeL : Vars := []
theorem knScrubAwake_r0 : resV Try.prog knScrubAwakeL Tab.none 3000 7 [] (.bool true) = true := by kernel_rfl
def knScrubAwakeT0 : Tab := Tab.put 7 [] (.bool true) Tab.none
theorem knScrubAwake_e0 : Known Try.prog knScrubAwakeL 7 [] (.bool true) := run_res knScrubAwake_mix (TabOk.none) knScrubAwake_r0
theorem knScrubAwake_k0 : TabOk Try.prog knScrubAwakeL knScrubAwakeT0 := TabOk.put knScrubAwake_e0 (TabOk.none)
theorem scrubAwake_run : resV Try.prog knScrubAwakeL knScrubAwakeT0 3000 7 [] (.bool true) = true := by kernel_rfl
theorem scrubAwake_true (w : World) : Calls Try.prog 7 #[] w fun e w' => e = .returned (.bool true) ∧ Below w.heap.size w w' :=
  (run_res knScrubAwake_mix (knScrubAwake_k0) scrubAwake_run).2.2 w (LaidL.nil w)
end
end Go.Proofs.Ytkoopcjdpcpknaa
