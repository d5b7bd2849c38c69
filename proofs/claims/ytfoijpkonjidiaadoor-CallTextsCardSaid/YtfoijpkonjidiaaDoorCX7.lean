/- Layer 20: all texts of calls, part 7. -/
import Derived.Test.YtfoijpkonjidiaaDoorCX
namespace Go.Proofs.YtfoijpkonjidiaaDoor
open Go Go.RowKit
theorem cq105 : cqG 105 = true := by kernel_rfl
theorem cq106 : cqG 106 = true := by kernel_rfl
theorem cq107 : cqG 107 = true := by kernel_rfl
theorem cq108 : cqG 108 = true := by kernel_rfl
theorem cq109 : cqG 109 = true := by kernel_rfl
theorem cq110 : cqG 110 = true := by kernel_rfl
theorem cq111 : cqG 111 = true := by kernel_rfl
theorem cq112 : cqG 112 = true := by kernel_rfl
theorem cq113 : cqG 113 = true := by kernel_rfl
theorem cq114 : cqG 114 = true := by kernel_rfl
theorem cq115 : cqG 115 = true := by kernel_rfl
theorem cq116 : cqG 116 = true := by kernel_rfl
theorem cq117 : cqG 117 = true := by kernel_rfl
theorem cq118 : cqG 118 = true := by kernel_rfl
theorem cq119 : cqG 119 = true := by kernel_rfl
end Go.Proofs.YtfoijpkonjidiaaDoor
