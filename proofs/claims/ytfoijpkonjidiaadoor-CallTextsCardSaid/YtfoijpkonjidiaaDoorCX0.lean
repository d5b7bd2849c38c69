/- Layer 20: all texts of calls, part 0. -/
import Derived.Test.YtfoijpkonjidiaaDoorCX
namespace Go.Proofs.YtfoijpkonjidiaaDoor
open Go Go.RowKit
theorem cq0 : cqG 0 = true := by kernel_rfl
theorem cq1 : cqG 1 = true := by kernel_rfl
theorem cq2 : cqG 2 = true := by kernel_rfl
theorem cq3 : cqG 3 = true := by kernel_rfl
theorem cq4 : cqG 4 = true := by kernel_rfl
theorem cq5 : cqG 5 = true := by kernel_rfl
theorem cq6 : cqG 6 = true := by kernel_rfl
theorem cq7 : cqG 7 = true := by kernel_rfl
theorem cq8 : cqG 8 = true := by kernel_rfl
theorem cq9 : cqG 9 = true := by kernel_rfl
theorem cq10 : cqG 10 = true := by kernel_rfl
theorem cq11 : cqG 11 = true := by kernel_rfl
theorem cq12 : cqG 12 = true := by kernel_rfl
theorem cq13 : cqG 13 = true := by kernel_rfl
theorem cq14 : cqG 14 = true := by kernel_rfl
end Go.Proofs.YtfoijpkonjidiaaDoor
