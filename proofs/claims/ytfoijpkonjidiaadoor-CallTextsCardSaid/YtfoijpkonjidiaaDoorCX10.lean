/- Layer 20: all texts of calls, part 10. -/
import Derived.Test.YtfoijpkonjidiaaDoorCX
namespace Go.Proofs.YtfoijpkonjidiaaDoor
open Go Go.RowKit
theorem cq150 : cqG 150 = true := by kernel_rfl
theorem cq151 : cqG 151 = true := by kernel_rfl
theorem cq152 : cqG 152 = true := by kernel_rfl
theorem cq153 : cqG 153 = true := by kernel_rfl
theorem cq154 : cqG 154 = true := by kernel_rfl
theorem cq155 : cqG 155 = true := by kernel_rfl
theorem cq156 : cqG 156 = true := by kernel_rfl
theorem cq157 : cqG 157 = true := by kernel_rfl
theorem cq158 : cqG 158 = true := by kernel_rfl
theorem cq159 : cqG 159 = true := by kernel_rfl
theorem cq160 : cqG 160 = true := by kernel_rfl
theorem cq161 : cqG 161 = true := by kernel_rfl
theorem cq162 : cqG 162 = true := by kernel_rfl
theorem cq163 : cqG 163 = true := by kernel_rfl
theorem cq164 : cqG 164 = true := by kernel_rfl
end Go.Proofs.YtfoijpkonjidiaaDoor
