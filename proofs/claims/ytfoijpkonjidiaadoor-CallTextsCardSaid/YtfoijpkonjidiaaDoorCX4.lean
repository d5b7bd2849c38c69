/- Layer 20: all texts of calls, part 4. -/
import Derived.Test.YtfoijpkonjidiaaDoorCX
namespace Go.Proofs.YtfoijpkonjidiaaDoor
open Go Go.RowKit
theorem cq60 : cqG 60 = true := by kernel_rfl
theorem cq61 : cqG 61 = true := by kernel_rfl
theorem cq62 : cqG 62 = true := by kernel_rfl
theorem cq63 : cqG 63 = true := by kernel_rfl
theorem cq64 : cqG 64 = true := by kernel_rfl
theorem cq65 : cqG 65 = true := by kernel_rfl
theorem cq66 : cqG 66 = true := by kernel_rfl
theorem cq67 : cqG 67 = true := by kernel_rfl
theorem cq68 : cqG 68 = true := by kernel_rfl
theorem cq69 : cqG 69 = true := by kernel_rfl
theorem cq70 : cqG 70 = true := by kernel_rfl
theorem cq71 : cqG 71 = true := by kernel_rfl
theorem cq72 : cqG 72 = true := by kernel_rfl
theorem cq73 : cqG 73 = true := by kernel_rfl
theorem cq74 : cqG 74 = true := by kernel_rfl
end Go.Proofs.YtfoijpkonjidiaaDoor
