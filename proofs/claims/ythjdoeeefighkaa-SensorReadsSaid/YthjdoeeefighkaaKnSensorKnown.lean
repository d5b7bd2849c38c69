import Derived.ProofKit
import Derived.Test.YthjdoeeefighkaaProg
import Derived.Test.YthjdoeeefighkaaEvZ7
namespace Go.Proofs.Ythjdoeeefighkaa
open Go Go.RowKit
noncomputable section
theorem knSensorKnown_mix : Try.prog.follows .mixedOrders = true := by kernel_rfl
def knSensorKnownL : Vars := []
theorem knSensorKnown_r0 : resV Try.prog knSensorKnownL Tab.none 3000 10 [] (.bool true) = true := by kernel_rfl
def knSensorKnownT0 : Tab := Tab.put 10 [] (.bool true) Tab.none
theorem knSensorKnown_e0 : Known Try.prog knSensorKnownL 10 [] (.bool true) := run_res knSensorKnown_mix (TabOk.none) knSensorKnown_r0
theorem knSensorKnown_k0 : TabOk Try.prog knSensorKnownL knSensorKnownT0 := TabOk.put knSensorKnown_e0 (TabOk.none)
theorem sensorKnown_run : resV Try.prog knSensorKnownL knSensorKnownT0 3000 6 [] (.bool true) = true := by kernel_rfl
theorem sensorKnown_true (w : World) : Calls Try.prog 6 #[] w fun e w' => e = .returned (.bool true) ∧ Below w.heap.size w w' :=
  (run_res knSensorKnown_mix (knSensorKnown_k0) sensorKnown_run).2.2 w (LaidL.nil w)
end
end Go.Proofs.Ythjdoeeefighkaa
