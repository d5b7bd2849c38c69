import Derived.ProofKit
import Derived.Test.YtaohbffjfedcgaaProg
import Derived.Test.YtaohbffjfedcgaaEvZ7
namespace Go.Proofs.Ytaohbffjfedcgaa
open Go Go.RowKit
noncomputable section
theorem knMotionKnown_mix : Try.prog.follows .mixedOrders = true := by kernel_rfl
def knMotionKnownL : Vars := []
theorem knMotionKnown_r0 : resV Try.prog knMotionKnownL Tab.none 3000 21 [] (.bool true) = true := by kernel_rfl
def knMotionKnownT0 : Tab := Tab.put 21 [] (.bool true) Tab.none
theorem knMotionKnown_e0 : Known Try.prog knMotionKnownL 21 [] (.bool true) := run_res knMotionKnown_mix (TabOk.none) knMotionKnown_r0
theorem knMotionKnown_k0 : TabOk Try.prog knMotionKnownL knMotionKnownT0 := TabOk.put knMotionKnown_e0 (TabOk.none)
theorem motionKnown_run : resV Try.prog knMotionKnownL knMotionKnownT0 3000 5 [] (.bool true) = true := by kernel_rfl
theorem motionKnown_true (w : World) : Calls Try.prog 5 #[] w fun e w' => e = .returned (.bool true) ∧ Below w.heap.size w w' :=
  (run_res knMotionKnown_mix (knMotionKnown_k0) motionKnown_run).2.2 w (LaidL.nil w)
end
end Go.Proofs.Ytaohbffjfedcgaa
