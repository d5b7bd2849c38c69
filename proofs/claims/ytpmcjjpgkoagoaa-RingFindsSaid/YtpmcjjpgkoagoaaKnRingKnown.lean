import Derived.ProofKit
import Derived.Test.YtpmcjjpgkoagoaaProg
import Derived.Test.YtpmcjjpgkoagoaaEvZ7
namespace Go.Proofs.Ytpmcjjpgkoagoaa
open Go Go.RowKit
noncomputable section
theorem knRingKnown_mix : Try.prog.follows .mixedOrders = true := by kernel_rfl
def knRingKnownL : Vars := []
theorem knRingKnown_r0 : resV Try.prog knRingKnownL Tab.none 3000 9 [] (.bool true) = true := by kernel_rfl
def knRingKnownT0 : Tab := Tab.put 9 [] (.bool true) Tab.none
theorem knRingKnown_e0 : Known Try.prog knRingKnownL 9 [] (.bool true) := run_res knRingKnown_mix (TabOk.none) knRingKnown_r0
theorem knRingKnown_k0 : TabOk Try.prog knRingKnownL knRingKnownT0 := TabOk.put knRingKnown_e0 (TabOk.none)
theorem knRingKnown_r1 : resV Try.prog knRingKnownL knRingKnownT0 3000 5 [] (.bool true) = true := by kernel_rfl
def knRingKnownT1 : Tab := Tab.put 5 [] (.bool true) knRingKnownT0
theorem knRingKnown_e1 : Known Try.prog knRingKnownL 5 [] (.bool true) := run_res knRingKnown_mix (knRingKnown_k0) knRingKnown_r1
theorem knRingKnown_k1 : TabOk Try.prog knRingKnownL knRingKnownT1 := TabOk.put knRingKnown_e1 (knRingKnown_k0)
theorem ringKnown_run : resV Try.prog knRingKnownL knRingKnownT1 3000 5 [] (.bool true) = true := by kernel_rfl
theorem ringKnown_true (w : World) : Calls Try.prog 5 #[] w fun e w' => e = .returned (.bool true) ∧ Below w.heap.size w w' :=
  (run_res knRingKnown_mix (knRingKnown_k1) ringKnown_run).2.2 w (LaidL.nil w)
end
end Go.Proofs.Ytpmcjjpgkoagoaa
