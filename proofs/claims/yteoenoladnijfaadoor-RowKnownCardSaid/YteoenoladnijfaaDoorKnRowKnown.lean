import Derived.ProofKit
import Derived.Test.YteoenoladnijfaaDoorProg
import Derived.Test.YteoenoladnijfaaDoorEvS
namespace Go.Proofs.YteoenoladnijfaaDoor
open Go Go.RowKit
noncomputable section
theorem knRowKnown_mix : Tryd.prog.follows .mixedOrders = true := by kernel_rfl
def knRowKnownL : Vars := [none, some (#[], 0), some (#[.int .u8 128, .int .u8 191, .int .u8 160, .int .u8 191, .int .u8 128, .int .u8 159, .int .u8 144, .int .u8 191, .int .u8 128, .int .u8 143, .int .u8 0, .int .u8 0, .int .u8 0, .int .u8 0, .int .u8 0, .int .u8 0, .int .u8 0, .int .u8 0, .int .u8 0, .int .u8 0, .int .u8 0, .int .u8 0, .int .u8 0, .int .u8 0, .int .u8 0, .int .u8 0, .int .u8 0, .int .u8 0, .int .u8 0, .int .u8 0, .int .u8 0, .int .u8 0], 0)]
theorem knRowKnown_r0 : resV Tryd.prog knRowKnownL Tab.none 3000 16 [] (.bool true) = true := by kernel_rfl
def knRowKnownT0 : Tab := Tab.put 16 [] (.bool true) Tab.none
theorem knRowKnown_e0 : Known Tryd.prog knRowKnownL 16 [] (.bool true) := run_res knRowKnown_mix (TabOk.none) knRowKnown_r0
theorem knRowKnown_k0 : TabOk Tryd.prog knRowKnownL knRowKnownT0 := TabOk.put knRowKnown_e0 (TabOk.none)
theorem rowKnown_run : resV Tryd.prog knRowKnownL knRowKnownT0 3000 3 [] (.bool true) = true := by kernel_rfl
theorem rowKnown_true (w : World) (hl : LaidL knRowKnownL w) : Calls Tryd.prog 3 #[] w fun e w' => e = .returned (.bool true) ∧ Below w.heap.size w w' :=
  (run_res knRowKnown_mix (knRowKnown_k0) rowKnown_run).2.2 w hl
end
end Go.Proofs.YteoenoladnijfaaDoor
