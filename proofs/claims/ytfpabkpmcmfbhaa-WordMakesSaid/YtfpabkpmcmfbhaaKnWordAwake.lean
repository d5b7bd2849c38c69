import Derived.ProofKit
import Derived.Test.YtfpabkpmcmfbhaaProg
import Derived.Test.YtfpabkpmcmfbhaaEvZ7
namespace Go.Proofs.Ytfpabkpmcmfbhaa
open Go Go.RowKit
noncomputable section
theorem knWordAwake_mix : Try.prog.follows .mixedOrders = true := by kernel_rfl
def knWordAwakeL : Vars := []
theorem knWordAwake_r0 : resV Try.prog knWordAwakeL Tab.none 3000 9 [] (.bool true) = true := by kernel_rfl
def knWordAwakeT0 : Tab := Tab.put 9 [] (.bool true) Tab.none
theorem knWordAwake_e0 : Known Try.prog knWordAwakeL 9 [] (.bool true) := run_res knWordAwake_mix (TabOk.none) knWordAwake_r0
theorem knWordAwake_k0 : TabOk Try.prog knWordAwakeL knWordAwakeT0 := TabOk.put knWordAwake_e0 (TabOk.none)
theorem wordAwake_run : resV Try.prog knWordAwakeL knWordAwakeT0 3000 9 [] (.bool true) = true := by kernel_rfl
theorem wordAwake_true (w : World) : Calls Try.prog 9 #[] w fun e w' => e = .returned (.bool true) ∧ Below w.heap.size w w' :=
  (run_res knWordAwake_mix (knWordAwake_k0) wordAwake_run).2.2 w (LaidL.nil w)
end
end Go.Proofs.Ytfpabkpmcmfbhaa
