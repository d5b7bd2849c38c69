/- Layer 20: all texts of calls, part 6. -/
import Derived.Test.YtfoijpkonjidiaaDoorCX
namespace Go.Proofs.YtfoijpkonjidiaaDoor
open Go Go.RowKit
theorem cq90 : cqG 90 = true := by kernel_rfl
theorem cq91 : cqG 91 = true := by kernel_rfl
theorem cq92 : cqG 92 = true := by kernel_rfl
theorem cq93 : cqG 93 = true := by kernel_rfl
theorem cq94 : cqG 94 = true := by kernel_rfl
theorem cq95 : cqG 95 = true := by kernel_rfl
theorem cq96 : cqG 96 = true := by kernel_rfl
theorem cq97 : cqG 97 = true := by kernel_rfl
theorem cq98 : cqG 98 = true := by kernel_rfl
theorem cq99 : cqG 99 = true := by kernel_rfl
theorem cq100 : cqG 100 = true := by kernel_rfl
theorem cq101 : cqG 101 = true := by kernel_rfl
theorem cq102 : cqG 102 = true := by kernel_rfl
theorem cq103 : cqG 103 = true := by kernel_rfl
theorem cq104 : cqG 104 = true := by kernel_rfl
end Go.Proofs.YtfoijpkonjidiaaDoor
