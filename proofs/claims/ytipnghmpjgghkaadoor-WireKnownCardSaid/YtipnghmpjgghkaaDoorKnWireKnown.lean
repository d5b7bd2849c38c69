import Derived.ProofKit
import Derived.Test.YtipnghmpjgghkaaDoorProg
import Derived.Test.YtipnghmpjgghkaaDoorEvZ7
namespace Go.Proofs.YtipnghmpjgghkaaDoor
open Go Go.RowKit
noncomputable section
theorem knWireKnown_mix : Tryd.prog.follows .mixedOrders = true := by kernel_rfl
def knWireKnownL : Vars := [some (#[.int .u8 0, .int .u8 7, .int .u8 14, .int .u8 9, .int .u8 28, .int .u8 27, .int .u8 18, .int .u8 21, .int .u8 56, .int .u8 63, .int .u8 54, .int .u8 49, .int .u8 36, .int .u8 35, .int .u8 42, .int .u8 45], 0), none, some (#[.int .u64 1, .int .u64 10, .int .u64 100, .int .u64 1000, .int .u64 10000, .int .u64 100000, .int .u64 1000000, .int .u64 10000000, .int .u64 100000000, .int .u64 1000000000, .int .u64 10000000000, .int .u64 100000000000, .int .u64 1000000000000, .int .u64 10000000000000, .int .u64 100000000000000, .int .u64 1000000000000000, .int .u64 10000000000000000, .int .u64 100000000000000000, .int .u64 1000000000000000000, .int .u64 10000000000000000000], 0), some (#[.int .u8 0, .int .u8 1, .int .u8 28, .int .u8 2, .int .u8 29, .int .u8 14, .int .u8 24, .int .u8 3, .int .u8 30, .int .u8 22, .int .u8 20, .int .u8 15, .int .u8 25, .int .u8 17, .int .u8 4, .int .u8 8, .int .u8 31, .int .u8 27, .int .u8 13, .int .u8 23, .int .u8 21, .int .u8 19, .int .u8 16, .int .u8 7, .int .u8 26, .int .u8 12, .int .u8 18, .int .u8 6, .int .u8 11, .int .u8 5, .int .u8 10, .int .u8 9], 0), some (#[.int .u8 0, .int .u8 1, .int .u8 56, .int .u8 2, .int .u8 57, .int .u8 49, .int .u8 28, .int .u8 3, .int .u8 61, .int .u8 58, .int .u8 42, .int .u8 50, .int .u8 38, .int .u8 29, .int .u8 17, .int .u8 4, .int .u8 62, .int .u8 47, .int .u8 59, .int .u8 36, .int .u8 45, .int .u8 43, .int .u8 51, .int .u8 22, .int .u8 53, .int .u8 39, .int .u8 33, .int .u8 30, .int .u8 24, .int .u8 18, .int .u8 12, .int .u8 5, .int .u8 63, .int .u8 55, .int .u8 48, .int .u8 27, .int .u8 60, .int .u8 41, .int .u8 37, .int .u8 16, .int .u8 46, .int .u8 35, .int .u8 44, .int .u8 21, .int .u8 52, .int .u8 32, .int .u8 23, .int .u8 11, .int .u8 54, .int .u8 26, .int .u8 40, .int .u8 15, .int .u8 34, .int .u8 20, .int .u8 31, .int .u8 10, .int .u8 25, .int .u8 14, .int .u8 19, .int .u8 9, .int .u8 13, .int .u8 8, .int .u8 7, .int .u8 6], 0)]
theorem knWireKnown_r0 : resV Tryd.prog knWireKnownL Tab.none 3000 18 [] (.bool true) = true := by kernel_rfl
def knWireKnownT0 : Tab := Tab.put 18 [] (.bool true) Tab.none
theorem knWireKnown_e0 : Known Tryd.prog knWireKnownL 18 [] (.bool true) := run_res knWireKnown_mix (TabOk.none) knWireKnown_r0
theorem knWireKnown_k0 : TabOk Tryd.prog knWireKnownL knWireKnownT0 := TabOk.put knWireKnown_e0 (TabOk.none)
theorem knWireKnown_r1 : resV Tryd.prog knWireKnownL knWireKnownT0 3000 11 [] (.tuple #[.string ⟨#[60, 80, 104, 51, 44, 49, 59, 51, 97, 62]⟩, .bool true]) = true := by kernel_rfl
def knWireKnownT1 : Tab := Tab.put 11 [] (.tuple #[.string ⟨#[60, 80, 104, 51, 44, 49, 59, 51, 97, 62]⟩, .bool true]) knWireKnownT0
theorem knWireKnown_e1 : Known Tryd.prog knWireKnownL 11 [] (.tuple #[.string ⟨#[60, 80, 104, 51, 44, 49, 59, 51, 97, 62]⟩, .bool true]) := run_res knWireKnown_mix (knWireKnown_k0) knWireKnown_r1
theorem knWireKnown_k1 : TabOk Tryd.prog knWireKnownL knWireKnownT1 := TabOk.put knWireKnown_e1 (knWireKnown_k0)
theorem knWireKnown_r2 : resV Tryd.prog knWireKnownL knWireKnownT1 3000 13 [.string ⟨#[60, 80, 104, 51, 44, 49, 59, 51, 97]⟩, .int .i64 3, .int .i64 9] (.bool true) = true := by kernel_rfl
def knWireKnownT2 : Tab := Tab.put 13 [.string ⟨#[60, 80, 104, 51, 44, 49, 59, 51, 97]⟩, .int .i64 3, .int .i64 9] (.bool true) knWireKnownT1
theorem knWireKnown_e2 : Known Tryd.prog knWireKnownL 13 [.string ⟨#[60, 80, 104, 51, 44, 49, 59, 51, 97]⟩, .int .i64 3, .int .i64 9] (.bool true) := run_res knWireKnown_mix (knWireKnown_k1) knWireKnown_r2
theorem knWireKnown_k2 : TabOk Tryd.prog knWireKnownL knWireKnownT2 := TabOk.put knWireKnown_e2 (knWireKnown_k1)
theorem knWireKnown_r3 : resV Tryd.prog knWireKnownL knWireKnownT2 3000 13 [.string ⟨#[60, 80, 104, 51, 44, 49, 59, 51, 97, 62, 32]⟩, .int .i64 3, .int .i64 10] (.bool true) = true := by kernel_rfl
def knWireKnownT3 : Tab := Tab.put 13 [.string ⟨#[60, 80, 104, 51, 44, 49, 59, 51, 97, 62, 32]⟩, .int .i64 3, .int .i64 10] (.bool true) knWireKnownT2
theorem knWireKnown_e3 : Known Tryd.prog knWireKnownL 13 [.string ⟨#[60, 80, 104, 51, 44, 49, 59, 51, 97, 62, 32]⟩, .int .i64 3, .int .i64 10] (.bool true) := run_res knWireKnown_mix (knWireKnown_k2) knWireKnown_r3
theorem knWireKnown_k3 : TabOk Tryd.prog knWireKnownL knWireKnownT3 := TabOk.put knWireKnown_e3 (knWireKnown_k2)
theorem knWireKnown_r4 : resV Tryd.prog knWireKnownL knWireKnownT3 3000 13 [.string ⟨#[]⟩, .int .i64 3, .int .i64 0] (.bool true) = true := by kernel_rfl
def knWireKnownT4 : Tab := Tab.put 13 [.string ⟨#[]⟩, .int .i64 3, .int .i64 0] (.bool true) knWireKnownT3
theorem knWireKnown_e4 : Known Tryd.prog knWireKnownL 13 [.string ⟨#[]⟩, .int .i64 3, .int .i64 0] (.bool true) := run_res knWireKnown_mix (knWireKnown_k3) knWireKnown_r4
theorem knWireKnown_k4 : TabOk Tryd.prog knWireKnownL knWireKnownT4 := TabOk.put knWireKnown_e4 (knWireKnown_k3)
theorem knWireKnown_r5 : resV Tryd.prog knWireKnownL knWireKnownT4 3000 13 [.string ⟨#[60, 80, 104, 48, 51, 44, 49, 59, 51, 97, 62]⟩, .int .i64 3, .int .i64 4] (.bool true) = true := by kernel_rfl
def knWireKnownT5 : Tab := Tab.put 13 [.string ⟨#[60, 80, 104, 48, 51, 44, 49, 59, 51, 97, 62]⟩, .int .i64 3, .int .i64 4] (.bool true) knWireKnownT4
theorem knWireKnown_e5 : Known Tryd.prog knWireKnownL 13 [.string ⟨#[60, 80, 104, 48, 51, 44, 49, 59, 51, 97, 62]⟩, .int .i64 3, .int .i64 4] (.bool true) := run_res knWireKnown_mix (knWireKnown_k4) knWireKnown_r5
theorem knWireKnown_k5 : TabOk Tryd.prog knWireKnownL knWireKnownT5 := TabOk.put knWireKnown_e5 (knWireKnown_k4)
theorem knWireKnown_r6 : resV Tryd.prog knWireKnownL knWireKnownT5 3000 13 [.string ⟨#[60, 88, 104, 51, 44, 49, 59, 51, 97, 62]⟩, .int .i64 3, .int .i64 1] (.bool true) = true := by kernel_rfl
def knWireKnownT6 : Tab := Tab.put 13 [.string ⟨#[60, 88, 104, 51, 44, 49, 59, 51, 97, 62]⟩, .int .i64 3, .int .i64 1] (.bool true) knWireKnownT5
theorem knWireKnown_e6 : Known Tryd.prog knWireKnownL 13 [.string ⟨#[60, 88, 104, 51, 44, 49, 59, 51, 97, 62]⟩, .int .i64 3, .int .i64 1] (.bool true) := run_res knWireKnown_mix (knWireKnown_k5) knWireKnown_r6
theorem knWireKnown_k6 : TabOk Tryd.prog knWireKnownL knWireKnownT6 := TabOk.put knWireKnown_e6 (knWireKnown_k5)
theorem knWireKnown_r7 : resV Tryd.prog knWireKnownL knWireKnownT6 3000 13 [.string ⟨#[49, 50, 51, 52, 53, 54, 55, 56, 57, 48, 49, 50, 51, 52, 53, 54, 55]⟩, .int .i64 4, .int .i64 16] (.bool true) = true := by kernel_rfl
def knWireKnownT7 : Tab := Tab.put 13 [.string ⟨#[49, 50, 51, 52, 53, 54, 55, 56, 57, 48, 49, 50, 51, 52, 53, 54, 55]⟩, .int .i64 4, .int .i64 16] (.bool true) knWireKnownT6
theorem knWireKnown_e7 : Known Tryd.prog knWireKnownL 13 [.string ⟨#[49, 50, 51, 52, 53, 54, 55, 56, 57, 48, 49, 50, 51, 52, 53, 54, 55]⟩, .int .i64 4, .int .i64 16] (.bool true) := run_res knWireKnown_mix (knWireKnown_k6) knWireKnown_r7
theorem knWireKnown_k7 : TabOk Tryd.prog knWireKnownL knWireKnownT7 := TabOk.put knWireKnown_e7 (knWireKnown_k6)
theorem knWireKnown_r8 : resV Tryd.prog knWireKnownL knWireKnownT7 3000 51 [.string ⟨#[60, 80, 104, 51, 44, 49, 59, 51, 97, 62, 60, 60, 80, 104, 51, 44, 49, 59, 51, 97, 62, 62]⟩] (.tuple #[.agg #[.int .i64 1, .int .i64 1, .int .i64 3, .int .i64 1], .int .i64 10]) = true := by kernel_rfl
def knWireKnownT8 : Tab := Tab.put 51 [.string ⟨#[60, 80, 104, 51, 44, 49, 59, 51, 97, 62, 60, 60, 80, 104, 51, 44, 49, 59, 51, 97, 62, 62]⟩] (.tuple #[.agg #[.int .i64 1, .int .i64 1, .int .i64 3, .int .i64 1], .int .i64 10]) knWireKnownT7
theorem knWireKnown_e8 : Known Tryd.prog knWireKnownL 51 [.string ⟨#[60, 80, 104, 51, 44, 49, 59, 51, 97, 62, 60, 60, 80, 104, 51, 44, 49, 59, 51, 97, 62, 62]⟩] (.tuple #[.agg #[.int .i64 1, .int .i64 1, .int .i64 3, .int .i64 1], .int .i64 10]) := run_res knWireKnown_mix (knWireKnown_k7) knWireKnown_r8
theorem knWireKnown_k8 : TabOk Tryd.prog knWireKnownL knWireKnownT8 := TabOk.put knWireKnown_e8 (knWireKnown_k7)
theorem knWireKnown_r9 : resV Tryd.prog knWireKnownL knWireKnownT8 3000 51 [.string ⟨#[60, 80, 104, 51, 44, 49, 59, 51, 97, 62, 62]⟩] (.tuple #[.agg #[.int .i64 1, .int .i64 1, .int .i64 3, .int .i64 1], .int .i64 10]) = true := by kernel_rfl
def knWireKnownT9 : Tab := Tab.put 51 [.string ⟨#[60, 80, 104, 51, 44, 49, 59, 51, 97, 62, 62]⟩] (.tuple #[.agg #[.int .i64 1, .int .i64 1, .int .i64 3, .int .i64 1], .int .i64 10]) knWireKnownT8
theorem knWireKnown_e9 : Known Tryd.prog knWireKnownL 51 [.string ⟨#[60, 80, 104, 51, 44, 49, 59, 51, 97, 62, 62]⟩] (.tuple #[.agg #[.int .i64 1, .int .i64 1, .int .i64 3, .int .i64 1], .int .i64 10]) := run_res knWireKnown_mix (knWireKnown_k8) knWireKnown_r9
theorem knWireKnown_k9 : TabOk Tryd.prog knWireKnownL knWireKnownT9 := TabOk.put knWireKnown_e9 (knWireKnown_k8)
theorem wireKnown_run : resV Tryd.prog knWireKnownL knWireKnownT9 3000 3 [] (.bool true) = true := by kernel_rfl
theorem wireKnown_true (w : World) (hl : LaidL knWireKnownL w) : Calls Tryd.prog 3 #[] w fun e w' => e = .returned (.bool true) ∧ Below w.heap.size w w' :=
  (run_res knWireKnown_mix (knWireKnown_k9) wireKnown_run).2.2 w hl
end
end Go.Proofs.YtipnghmpjgghkaaDoor
