/- Layer 20: all texts of calls, part 11. -/
import Derived.Test.YtfoijpkonjidiaaDoorCX
namespace Go.Proofs.YtfoijpkonjidiaaDoor
open Go Go.RowKit
theorem cq165 : cqG 165 = true := by kernel_rfl
theorem cq166 : cqG 166 = true := by kernel_rfl
theorem cq167 : cqG 167 = true := by kernel_rfl
theorem cq168 : cqG 168 = true := by kernel_rfl
theorem cq169 : cqG 169 = true := by kernel_rfl
theorem cq170 : cqG 170 = true := by kernel_rfl
theorem cq171 : cqG 171 = true := by kernel_rfl
theorem cq172 : cqG 172 = true := by kernel_rfl
theorem cq173 : cqG 173 = true := by kernel_rfl
theorem cq174 : cqG 174 = true := by kernel_rfl
theorem cq175 : cqG 175 = true := by kernel_rfl
theorem cq176 : cqG 176 = true := by kernel_rfl
theorem cq177 : cqG 177 = true := by kernel_rfl
theorem cq178 : cqG 178 = true := by kernel_rfl
theorem cq179 : cqG 179 = true := by kernel_rfl
end Go.Proofs.YtfoijpkonjidiaaDoor
