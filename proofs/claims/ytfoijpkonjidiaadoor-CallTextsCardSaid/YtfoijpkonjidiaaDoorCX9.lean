/- Layer 20: all texts of calls, part 9. -/
import Derived.Test.YtfoijpkonjidiaaDoorCX
namespace Go.Proofs.YtfoijpkonjidiaaDoor
open Go Go.RowKit
theorem cq135 : cqG 135 = true := by kernel_rfl
theorem cq136 : cqG 136 = true := by kernel_rfl
theorem cq137 : cqG 137 = true := by kernel_rfl
theorem cq138 : cqG 138 = true := by kernel_rfl
theorem cq139 : cqG 139 = true := by kernel_rfl
theorem cq140 : cqG 140 = true := by kernel_rfl
theorem cq141 : cqG 141 = true := by kernel_rfl
theorem cq142 : cqG 142 = true := by kernel_rfl
theorem cq143 : cqG 143 = true := by kernel_rfl
theorem cq144 : cqG 144 = true := by kernel_rfl
theorem cq145 : cqG 145 = true := by kernel_rfl
theorem cq146 : cqG 146 = true := by kernel_rfl
theorem cq147 : cqG 147 = true := by kernel_rfl
theorem cq148 : cqG 148 = true := by kernel_rfl
theorem cq149 : cqG 149 = true := by kernel_rfl
end Go.Proofs.YtfoijpkonjidiaaDoor
