import Derived.ProofKit
import Derived.Test.YtfoijpkonjidiaaDoorProg
import Derived.Test.YtfoijpkonjidiaaDoorEvZ7
namespace Go.Proofs.YtfoijpkonjidiaaDoor
open Go Go.RowKit
noncomputable section
theorem knCallKnown_mix : Tryd.prog.follows .mixedOrders = true := by kernel_rfl
def knCallKnownL : Vars := [some (#[.int .u64 1, .int .u64 10, .int .u64 100, .int .u64 1000, .int .u64 10000, .int .u64 100000, .int .u64 1000000, .int .u64 10000000, .int .u64 100000000, .int .u64 1000000000, .int .u64 10000000000, .int .u64 100000000000, .int .u64 1000000000000, .int .u64 10000000000000, .int .u64 100000000000000, .int .u64 1000000000000000, .int .u64 10000000000000000, .int .u64 100000000000000000, .int .u64 1000000000000000000, .int .u64 10000000000000000000], 0), some (#[.int .u8 0, .int .u8 1, .int .u8 28, .int .u8 2, .int .u8 29, .int .u8 14, .int .u8 24, .int .u8 3, .int .u8 30, .int .u8 22, .int .u8 20, .int .u8 15, .int .u8 25, .int .u8 17, .int .u8 4, .int .u8 8, .int .u8 31, .int .u8 27, .int .u8 13, .int .u8 23, .int .u8 21, .int .u8 19, .int .u8 16, .int .u8 7, .int .u8 26, .int .u8 12, .int .u8 18, .int .u8 6, .int .u8 11, .int .u8 5, .int .u8 10, .int .u8 9], 0), some (#[.int .u8 0, .int .u8 1, .int .u8 56, .int .u8 2, .int .u8 57, .int .u8 49, .int .u8 28, .int .u8 3, .int .u8 61, .int .u8 58, .int .u8 42, .int .u8 50, .int .u8 38, .int .u8 29, .int .u8 17, .int .u8 4, .int .u8 62, .int .u8 47, .int .u8 59, .int .u8 36, .int .u8 45, .int .u8 43, .int .u8 51, .int .u8 22, .int .u8 53, .int .u8 39, .int .u8 33, .int .u8 30, .int .u8 24, .int .u8 18, .int .u8 12, .int .u8 5, .int .u8 63, .int .u8 55, .int .u8 48, .int .u8 27, .int .u8 60, .int .u8 41, .int .u8 37, .int .u8 16, .int .u8 46, .int .u8 35, .int .u8 44, .int .u8 21, .int .u8 52, .int .u8 32, .int .u8 23, .int .u8 11, .int .u8 54, .int .u8 26, .int .u8 40, .int .u8 15, .int .u8 34, .int .u8 20, .int .u8 31, .int .u8 10, .int .u8 25, .int .u8 14, .int .u8 19, .int .u8 9, .int .u8 13, .int .u8 8, .int .u8 7, .int .u8 6], 0)]
theorem knCallKnown_r0 : resV Tryd.prog knCallKnownL Tab.none 3000 22 [] (.bool true) = true := by kernel_rfl
def knCallKnownT0 : Tab := Tab.put 22 [] (.bool true) Tab.none
theorem knCallKnown_e0 : Known Tryd.prog knCallKnownL 22 [] (.bool true) := run_res knCallKnown_mix (TabOk.none) knCallKnown_r0
theorem knCallKnown_k0 : TabOk Tryd.prog knCallKnownL knCallKnownT0 := TabOk.put knCallKnown_e0 (TabOk.none)
theorem callKnown_run : resV Tryd.prog knCallKnownL knCallKnownT0 3000 6 [] (.bool true) = true := by kernel_rfl
theorem callKnown_true (w : World) (hl : LaidL knCallKnownL w) : Calls Tryd.prog 6 #[] w fun e w' => e = .returned (.bool true) ∧ Below w.heap.size w w' :=
  (run_res knCallKnown_mix (knCallKnown_k0) callKnown_run).2.2 w hl
end
end Go.Proofs.YtfoijpkonjidiaaDoor
