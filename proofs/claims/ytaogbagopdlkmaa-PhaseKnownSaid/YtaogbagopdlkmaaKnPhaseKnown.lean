import Derived.ProofKit
import Derived.Test.YtaogbagopdlkmaaProg
import Derived.Test.YtaogbagopdlkmaaEvQ
namespace Go.Proofs.Ytaogbagopdlkmaa
open Go Go.RowKit
noncomputable section
theorem knPhaseKnown_mix : Try.prog.follows .mixedOrders = true := by kernel_rfl
theorem knPhaseKnown_r0 : resV Try.prog ([] : Tab) 3000 32 [.int .i64 0, .int .i64 0, .int .i64 1, .int .i64 0, .int .i64 0] (.bool true) = true := by kernel_rfl
def knPhaseKnownT0 : Tab := (32, [.int .i64 0, .int .i64 0, .int .i64 1, .int .i64 0, .int .i64 0], .bool true) :: ([] : Tab)
theorem knPhaseKnown_k0 : TabOk Try.prog knPhaseKnownT0 := TabOk.cons (run_res knPhaseKnown_mix (TabOk.nil) knPhaseKnown_r0) (TabOk.nil)
theorem knPhaseKnown_r1 : resV Try.prog knPhaseKnownT0 3000 32 [.int .i64 20, .int .i64 0, .int .i64 3, .int .i64 1, .int .i64 2] (.bool true) = true := by kernel_rfl
def knPhaseKnownT1 : Tab := (32, [.int .i64 20, .int .i64 0, .int .i64 3, .int .i64 1, .int .i64 2], .bool true) :: knPhaseKnownT0
theorem knPhaseKnown_k1 : TabOk Try.prog knPhaseKnownT1 := TabOk.cons (run_res knPhaseKnown_mix (knPhaseKnown_k0) knPhaseKnown_r1) (knPhaseKnown_k0)
theorem knPhaseKnown_r2 : resV Try.prog knPhaseKnownT1 3000 32 [.int .i64 28, .int .i64 0, .int .i64 5, .int .i64 0, .int .i64 2] (.bool true) = true := by kernel_rfl
def knPhaseKnownT2 : Tab := (32, [.int .i64 28, .int .i64 0, .int .i64 5, .int .i64 0, .int .i64 2], .bool true) :: knPhaseKnownT1
theorem knPhaseKnown_k2 : TabOk Try.prog knPhaseKnownT2 := TabOk.cons (run_res knPhaseKnown_mix (knPhaseKnown_k1) knPhaseKnown_r2) (knPhaseKnown_k1)
theorem knPhaseKnown_r3 : resV Try.prog knPhaseKnownT2 3000 32 [.int .i64 29, .int .i64 1, .int .i64 1, .int .i64 0, .int .i64 0] (.bool true) = true := by kernel_rfl
def knPhaseKnownT3 : Tab := (32, [.int .i64 29, .int .i64 1, .int .i64 1, .int .i64 0, .int .i64 0], .bool true) :: knPhaseKnownT2
theorem knPhaseKnown_k3 : TabOk Try.prog knPhaseKnownT3 := TabOk.cons (run_res knPhaseKnown_mix (knPhaseKnown_k2) knPhaseKnown_r3) (knPhaseKnown_k2)
theorem knPhaseKnown_r4 : resV Try.prog knPhaseKnownT3 3000 22 [] (.bool true) = true := by kernel_rfl
def knPhaseKnownT4 : Tab := (22, [], .bool true) :: knPhaseKnownT3
theorem knPhaseKnown_k4 : TabOk Try.prog knPhaseKnownT4 := TabOk.cons (run_res knPhaseKnown_mix (knPhaseKnown_k3) knPhaseKnown_r4) (knPhaseKnown_k3)
theorem knPhaseKnown_r5 : resV Try.prog knPhaseKnownT4 3000 32 [.int .i64 5, .int .i64 0, .int .i64 2, .int .i64 0, .int .i64 0] (.bool true) = true := by kernel_rfl
def knPhaseKnownT5 : Tab := (32, [.int .i64 5, .int .i64 0, .int .i64 2, .int .i64 0, .int .i64 0], .bool true) :: knPhaseKnownT4
theorem knPhaseKnown_k5 : TabOk Try.prog knPhaseKnownT5 := TabOk.cons (run_res knPhaseKnown_mix (knPhaseKnown_k4) knPhaseKnown_r5) (knPhaseKnown_k4)
theorem knPhaseKnown_r6 : resV Try.prog knPhaseKnownT5 3000 32 [.int .i64 10, .int .i64 0, .int .i64 3, .int .i64 0, .int .i64 0] (.bool true) = true := by kernel_rfl
def knPhaseKnownT6 : Tab := (32, [.int .i64 10, .int .i64 0, .int .i64 3, .int .i64 0, .int .i64 0], .bool true) :: knPhaseKnownT5
theorem knPhaseKnown_k6 : TabOk Try.prog knPhaseKnownT6 := TabOk.cons (run_res knPhaseKnown_mix (knPhaseKnown_k5) knPhaseKnown_r6) (knPhaseKnown_k5)
theorem knPhaseKnown_r7 : resV Try.prog knPhaseKnownT6 3000 32 [.int .i64 13, .int .i64 0, .int .i64 2, .int .i64 1, .int .i64 0] (.bool true) = true := by kernel_rfl
def knPhaseKnownT7 : Tab := (32, [.int .i64 13, .int .i64 0, .int .i64 2, .int .i64 1, .int .i64 0], .bool true) :: knPhaseKnownT6
theorem knPhaseKnown_k7 : TabOk Try.prog knPhaseKnownT7 := TabOk.cons (run_res knPhaseKnown_mix (knPhaseKnown_k6) knPhaseKnown_r7) (knPhaseKnown_k6)
theorem knPhaseKnown_r8 : resV Try.prog knPhaseKnownT7 3000 32 [.int .i64 21, .int .i64 0, .int .i64 4, .int .i64 0, .int .i64 0] (.bool true) = true := by kernel_rfl
def knPhaseKnownT8 : Tab := (32, [.int .i64 21, .int .i64 0, .int .i64 4, .int .i64 0, .int .i64 0], .bool true) :: knPhaseKnownT7
theorem knPhaseKnown_k8 : TabOk Try.prog knPhaseKnownT8 := TabOk.cons (run_res knPhaseKnown_mix (knPhaseKnown_k7) knPhaseKnown_r8) (knPhaseKnown_k7)
theorem knPhaseKnown_r9 : resV Try.prog knPhaseKnownT8 3000 32 [.int .i64 26, .int .i64 0, .int .i64 5, .int .i64 0, .int .i64 0] (.bool true) = true := by kernel_rfl
def knPhaseKnownT9 : Tab := (32, [.int .i64 26, .int .i64 0, .int .i64 5, .int .i64 0, .int .i64 0], .bool true) :: knPhaseKnownT8
theorem knPhaseKnown_k9 : TabOk Try.prog knPhaseKnownT9 := TabOk.cons (run_res knPhaseKnown_mix (knPhaseKnown_k8) knPhaseKnown_r9) (knPhaseKnown_k8)
theorem knPhaseKnown_r10 : resV Try.prog knPhaseKnownT9 3000 34 [.int .i64 13, .int .i64 2, .int .i64 34] (.bool true) = true := by kernel_rfl
def knPhaseKnownT10 : Tab := (34, [.int .i64 13, .int .i64 2, .int .i64 34], .bool true) :: knPhaseKnownT9
theorem knPhaseKnown_k10 : TabOk Try.prog knPhaseKnownT10 := TabOk.cons (run_res knPhaseKnown_mix (knPhaseKnown_k9) knPhaseKnown_r10) (knPhaseKnown_k9)
theorem knPhaseKnown_r11 : resV Try.prog knPhaseKnownT10 3000 34 [.int .i64 12, .int .i64 2, .int .i64 13] (.bool true) = true := by kernel_rfl
def knPhaseKnownT11 : Tab := (34, [.int .i64 12, .int .i64 2, .int .i64 13], .bool true) :: knPhaseKnownT10
theorem knPhaseKnown_k11 : TabOk Try.prog knPhaseKnownT11 := TabOk.cons (run_res knPhaseKnown_mix (knPhaseKnown_k10) knPhaseKnown_r11) (knPhaseKnown_k10)
theorem knPhaseKnown_r12 : resV Try.prog knPhaseKnownT11 3000 34 [.int .i64 0, .int .i64 1, .int .i64 29] (.bool true) = true := by kernel_rfl
def knPhaseKnownT12 : Tab := (34, [.int .i64 0, .int .i64 1, .int .i64 29], .bool true) :: knPhaseKnownT11
theorem knPhaseKnown_k12 : TabOk Try.prog knPhaseKnownT12 := TabOk.cons (run_res knPhaseKnown_mix (knPhaseKnown_k11) knPhaseKnown_r12) (knPhaseKnown_k11)
theorem phaseKnown_run : resV Try.prog knPhaseKnownT12 3000 6 [] (.bool true) = true := by kernel_rfl
theorem phaseKnown_true (w : World) : Calls Try.prog 6 #[] w fun e w' => e = .returned (.bool true) ∧ Below w.heap.size w w' :=
  (run_res knPhaseKnown_mix (knPhaseKnown_k12) phaseKnown_run).2.2 w
end
end Go.Proofs.Ytaogbagopdlkmaa
