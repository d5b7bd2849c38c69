import Derived.ProofKit
import Derived.Test.YtbldbooojocmgaaProg
import Derived.Test.YtbldbooojocmgaaEvQ
namespace Go.Proofs.Ytbldbooojocmgaa
open Go Go.RowKit
noncomputable section
theorem knPickKnown_mix : Try.prog.follows .mixedOrders = true := by kernel_rfl
theorem knPickKnown_r0 : resV Try.prog Tab.none 3000 61 [.agg #[.int .i64 1, .int .i64 3, .int .i64 0, .int .i64 5]] (.int .i64 0) = true := by kernel_rfl
def knPickKnownT0 : Tab := Tab.put 61 [.agg #[.int .i64 1, .int .i64 3, .int .i64 0, .int .i64 5]] (.int .i64 0) Tab.none
theorem knPickKnown_k0 : TabOk Try.prog knPickKnownT0 := TabOk.put (run_res knPickKnown_mix (TabOk.none) knPickKnown_r0) (TabOk.none)
theorem knPickKnown_r1 : resV Try.prog knPickKnownT0 3000 62 [.agg #[.int .i64 1, .int .i64 3, .int .i64 0, .int .i64 5]] (.agg #[.int .i64 1, .int .i64 3, .int .i64 0]) = true := by kernel_rfl
def knPickKnownT1 : Tab := Tab.put 62 [.agg #[.int .i64 1, .int .i64 3, .int .i64 0, .int .i64 5]] (.agg #[.int .i64 1, .int .i64 3, .int .i64 0]) knPickKnownT0
theorem knPickKnown_k1 : TabOk Try.prog knPickKnownT1 := TabOk.put (run_res knPickKnown_mix (knPickKnown_k0) knPickKnown_r1) (knPickKnown_k0)
theorem knPickKnown_r2 : resV Try.prog knPickKnownT1 3000 63 [.agg #[.int .i64 1, .int .i64 3, .int .i64 0, .int .i64 5]] (.agg #[.int .i64 1, .int .i64 3, .int .i64 0]) = true := by kernel_rfl
def knPickKnownT2 : Tab := Tab.put 63 [.agg #[.int .i64 1, .int .i64 3, .int .i64 0, .int .i64 5]] (.agg #[.int .i64 1, .int .i64 3, .int .i64 0]) knPickKnownT1
theorem knPickKnown_k2 : TabOk Try.prog knPickKnownT2 := TabOk.put (run_res knPickKnown_mix (knPickKnown_k1) knPickKnown_r2) (knPickKnown_k1)
theorem knPickKnown_r3 : resV Try.prog knPickKnownT2 3000 61 [.agg #[.int .i64 2, .int .i64 1, .int .i64 0, .int .i64 6]] (.int .i64 0) = true := by kernel_rfl
def knPickKnownT3 : Tab := Tab.put 61 [.agg #[.int .i64 2, .int .i64 1, .int .i64 0, .int .i64 6]] (.int .i64 0) knPickKnownT2
theorem knPickKnown_k3 : TabOk Try.prog knPickKnownT3 := TabOk.put (run_res knPickKnown_mix (knPickKnown_k2) knPickKnown_r3) (knPickKnown_k2)
theorem knPickKnown_r4 : resV Try.prog knPickKnownT3 3000 62 [.agg #[.int .i64 2, .int .i64 1, .int .i64 0, .int .i64 6]] (.agg #[.int .i64 2, .int .i64 1, .int .i64 0]) = true := by kernel_rfl
def knPickKnownT4 : Tab := Tab.put 62 [.agg #[.int .i64 2, .int .i64 1, .int .i64 0, .int .i64 6]] (.agg #[.int .i64 2, .int .i64 1, .int .i64 0]) knPickKnownT3
theorem knPickKnown_k4 : TabOk Try.prog knPickKnownT4 := TabOk.put (run_res knPickKnown_mix (knPickKnown_k3) knPickKnown_r4) (knPickKnown_k3)
theorem knPickKnown_r5 : resV Try.prog knPickKnownT4 3000 63 [.agg #[.int .i64 2, .int .i64 1, .int .i64 0, .int .i64 6]] (.agg #[.int .i64 2, .int .i64 1, .int .i64 0]) = true := by kernel_rfl
def knPickKnownT5 : Tab := Tab.put 63 [.agg #[.int .i64 2, .int .i64 1, .int .i64 0, .int .i64 6]] (.agg #[.int .i64 2, .int .i64 1, .int .i64 0]) knPickKnownT4
theorem knPickKnown_k5 : TabOk Try.prog knPickKnownT5 := TabOk.put (run_res knPickKnown_mix (knPickKnown_k4) knPickKnown_r5) (knPickKnown_k4)
theorem knPickKnown_r6 : resV Try.prog knPickKnownT5 3000 61 [.agg #[.int .i64 3, .int .i64 7, .int .i64 2, .int .i64 6]] (.int .i64 0) = true := by kernel_rfl
def knPickKnownT6 : Tab := Tab.put 61 [.agg #[.int .i64 3, .int .i64 7, .int .i64 2, .int .i64 6]] (.int .i64 0) knPickKnownT5
theorem knPickKnown_k6 : TabOk Try.prog knPickKnownT6 := TabOk.put (run_res knPickKnown_mix (knPickKnown_k5) knPickKnown_r6) (knPickKnown_k5)
theorem knPickKnown_r7 : resV Try.prog knPickKnownT6 3000 62 [.agg #[.int .i64 3, .int .i64 7, .int .i64 2, .int .i64 6]] (.agg #[.int .i64 3, .int .i64 7, .int .i64 2]) = true := by kernel_rfl
def knPickKnownT7 : Tab := Tab.put 62 [.agg #[.int .i64 3, .int .i64 7, .int .i64 2, .int .i64 6]] (.agg #[.int .i64 3, .int .i64 7, .int .i64 2]) knPickKnownT6
theorem knPickKnown_k7 : TabOk Try.prog knPickKnownT7 := TabOk.put (run_res knPickKnown_mix (knPickKnown_k6) knPickKnown_r7) (knPickKnown_k6)
theorem knPickKnown_r8 : resV Try.prog knPickKnownT7 3000 63 [.agg #[.int .i64 3, .int .i64 7, .int .i64 2, .int .i64 6]] (.agg #[.int .i64 3, .int .i64 7, .int .i64 2]) = true := by kernel_rfl
def knPickKnownT8 : Tab := Tab.put 63 [.agg #[.int .i64 3, .int .i64 7, .int .i64 2, .int .i64 6]] (.agg #[.int .i64 3, .int .i64 7, .int .i64 2]) knPickKnownT7
theorem knPickKnown_k8 : TabOk Try.prog knPickKnownT8 := TabOk.put (run_res knPickKnown_mix (knPickKnown_k7) knPickKnown_r8) (knPickKnown_k7)
theorem knPickKnown_r9 : resV Try.prog knPickKnownT8 3000 61 [.agg #[.int .i64 3, .int .i64 0, .int .i64 1, .int .i64 7]] (.int .i64 0) = true := by kernel_rfl
def knPickKnownT9 : Tab := Tab.put 61 [.agg #[.int .i64 3, .int .i64 0, .int .i64 1, .int .i64 7]] (.int .i64 0) knPickKnownT8
theorem knPickKnown_k9 : TabOk Try.prog knPickKnownT9 := TabOk.put (run_res knPickKnown_mix (knPickKnown_k8) knPickKnown_r9) (knPickKnown_k8)
theorem knPickKnown_r10 : resV Try.prog knPickKnownT9 3000 62 [.agg #[.int .i64 3, .int .i64 0, .int .i64 1, .int .i64 7]] (.agg #[.int .i64 3, .int .i64 0, .int .i64 1]) = true := by kernel_rfl
def knPickKnownT10 : Tab := Tab.put 62 [.agg #[.int .i64 3, .int .i64 0, .int .i64 1, .int .i64 7]] (.agg #[.int .i64 3, .int .i64 0, .int .i64 1]) knPickKnownT9
theorem knPickKnown_k10 : TabOk Try.prog knPickKnownT10 := TabOk.put (run_res knPickKnown_mix (knPickKnown_k9) knPickKnown_r10) (knPickKnown_k9)
theorem knPickKnown_r11 : resV Try.prog knPickKnownT10 3000 63 [.agg #[.int .i64 3, .int .i64 0, .int .i64 1, .int .i64 7]] (.agg #[.int .i64 3, .int .i64 0, .int .i64 1]) = true := by kernel_rfl
def knPickKnownT11 : Tab := Tab.put 63 [.agg #[.int .i64 3, .int .i64 0, .int .i64 1, .int .i64 7]] (.agg #[.int .i64 3, .int .i64 0, .int .i64 1]) knPickKnownT10
theorem knPickKnown_k11 : TabOk Try.prog knPickKnownT11 := TabOk.put (run_res knPickKnown_mix (knPickKnown_k10) knPickKnown_r11) (knPickKnown_k10)
theorem knPickKnown_r12 : resV Try.prog knPickKnownT11 3000 44 [.int .i64 9, .int .i64 10] (.bool true) = true := by kernel_rfl
def knPickKnownT12 : Tab := Tab.put 44 [.int .i64 9, .int .i64 10] (.bool true) knPickKnownT11
theorem knPickKnown_k12 : TabOk Try.prog knPickKnownT12 := TabOk.put (run_res knPickKnown_mix (knPickKnown_k11) knPickKnown_r12) (knPickKnown_k11)
theorem knPickKnown_r13 : resV Try.prog knPickKnownT12 3000 44 [.int .i64 16, .int .i64 10] (.bool true) = true := by kernel_rfl
def knPickKnownT13 : Tab := Tab.put 44 [.int .i64 16, .int .i64 10] (.bool true) knPickKnownT12
theorem knPickKnown_k13 : TabOk Try.prog knPickKnownT13 := TabOk.put (run_res knPickKnown_mix (knPickKnown_k12) knPickKnown_r13) (knPickKnown_k12)
theorem knPickKnown_r14 : resV Try.prog knPickKnownT13 3000 43 [.int .i64 1, .int .i64 1, .int .i64 8] (.bool true) = true := by kernel_rfl
def knPickKnownT14 : Tab := Tab.put 43 [.int .i64 1, .int .i64 1, .int .i64 8] (.bool true) knPickKnownT13
theorem knPickKnown_k14 : TabOk Try.prog knPickKnownT14 := TabOk.put (run_res knPickKnown_mix (knPickKnown_k13) knPickKnown_r14) (knPickKnown_k13)
theorem knPickKnown_r15 : resV Try.prog knPickKnownT14 3000 21 [] (.bool true) = true := by kernel_rfl
def knPickKnownT15 : Tab := Tab.put 21 [] (.bool true) knPickKnownT14
theorem knPickKnown_k15 : TabOk Try.prog knPickKnownT15 := TabOk.put (run_res knPickKnown_mix (knPickKnown_k14) knPickKnown_r15) (knPickKnown_k14)
theorem pickKnown_run : resV Try.prog knPickKnownT15 3000 3 [] (.bool true) = true := by kernel_rfl
theorem pickKnown_true (w : World) : Calls Try.prog 3 #[] w fun e w' => e = .returned (.bool true) ∧ Below w.heap.size w w' :=
  (run_res knPickKnown_mix (knPickKnown_k15) pickKnown_run).2.2 w
end
end Go.Proofs.Ytbldbooojocmgaa
