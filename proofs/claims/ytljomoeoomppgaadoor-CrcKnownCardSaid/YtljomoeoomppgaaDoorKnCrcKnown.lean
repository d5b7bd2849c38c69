import Derived.ProofKit
import Derived.Test.YtljomoeoomppgaaDoorProg
import Derived.Test.YtljomoeoomppgaaDoorEvS
namespace Go.Proofs.YtljomoeoomppgaaDoor
open Go Go.RowKit
noncomputable section
theorem knCrcKnown_mix : Tryd.prog.follows .mixedOrders = true := by kernel_rfl
def knCrcKnownL : Vars := [some (#[.int .u8 0, .int .u8 7, .int .u8 14, .int .u8 9, .int .u8 28, .int .u8 27, .int .u8 18, .int .u8 21, .int .u8 56, .int .u8 63, .int .u8 54, .int .u8 49, .int .u8 36, .int .u8 35, .int .u8 42, .int .u8 45], 0)]
theorem knCrcKnown_r0 : resV Tryd.prog knCrcKnownL Tab.none 3000 10 [] (.bool true) = true := by kernel_rfl
def knCrcKnownT0 : Tab := Tab.put 10 [] (.bool true) Tab.none
theorem knCrcKnown_e0 : Known Tryd.prog knCrcKnownL 10 [] (.bool true) := run_res knCrcKnown_mix (TabOk.none) knCrcKnown_r0
theorem knCrcKnown_k0 : TabOk Tryd.prog knCrcKnownL knCrcKnownT0 := TabOk.put knCrcKnown_e0 (TabOk.none)
theorem crcKnown_run : resV Tryd.prog knCrcKnownL knCrcKnownT0 3000 6 [] (.bool true) = true := by kernel_rfl
theorem crcKnown_true (w : World) (hl : LaidL knCrcKnownL w) : Calls Tryd.prog 6 #[] w fun e w' => e = .returned (.bool true) ∧ Below w.heap.size w w' :=
  (run_res knCrcKnown_mix (knCrcKnown_k0) crcKnown_run).2.2 w hl
end
end Go.Proofs.YtljomoeoomppgaaDoor
