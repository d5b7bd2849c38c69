/- Layer 20: all texts of calls, part 5. -/
import Derived.Test.YtfoijpkonjidiaaDoorCX
namespace Go.Proofs.YtfoijpkonjidiaaDoor
open Go Go.RowKit
theorem cq75 : cqG 75 = true := by kernel_rfl
theorem cq76 : cqG 76 = true := by kernel_rfl
theorem cq77 : cqG 77 = true := by kernel_rfl
theorem cq78 : cqG 78 = true := by kernel_rfl
theorem cq79 : cqG 79 = true := by kernel_rfl
theorem cq80 : cqG 80 = true := by kernel_rfl
theorem cq81 : cqG 81 = true := by kernel_rfl
theorem cq82 : cqG 82 = true := by kernel_rfl
theorem cq83 : cqG 83 = true := by kernel_rfl
theorem cq84 : cqG 84 = true := by kernel_rfl
theorem cq85 : cqG 85 = true := by kernel_rfl
theorem cq86 : cqG 86 = true := by kernel_rfl
theorem cq87 : cqG 87 = true := by kernel_rfl
theorem cq88 : cqG 88 = true := by kernel_rfl
theorem cq89 : cqG 89 = true := by kernel_rfl
end Go.Proofs.YtfoijpkonjidiaaDoor
