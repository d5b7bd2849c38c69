/- Layer 20: all texts of calls, part 8. -/
import Derived.Test.YtfoijpkonjidiaaDoorCX
namespace Go.Proofs.YtfoijpkonjidiaaDoor
open Go Go.RowKit
theorem cq120 : cqG 120 = true := by kernel_rfl
theorem cq121 : cqG 121 = true := by kernel_rfl
theorem cq122 : cqG 122 = true := by kernel_rfl
theorem cq123 : cqG 123 = true := by kernel_rfl
theorem cq124 : cqG 124 = true := by kernel_rfl
theorem cq125 : cqG 125 = true := by kernel_rfl
theorem cq126 : cqG 126 = true := by kernel_rfl
theorem cq127 : cqG 127 = true := by kernel_rfl
theorem cq128 : cqG 128 = true := by kernel_rfl
theorem cq129 : cqG 129 = true := by kernel_rfl
theorem cq130 : cqG 130 = true := by kernel_rfl
theorem cq131 : cqG 131 = true := by kernel_rfl
theorem cq132 : cqG 132 = true := by kernel_rfl
theorem cq133 : cqG 133 = true := by kernel_rfl
theorem cq134 : cqG 134 = true := by kernel_rfl
end Go.Proofs.YtfoijpkonjidiaaDoor
