/- Layer 20: all texts of calls, part 2. -/
import Derived.Test.YtfoijpkonjidiaaDoorCX
namespace Go.Proofs.YtfoijpkonjidiaaDoor
open Go Go.RowKit
theorem cq30 : cqG 30 = true := by kernel_rfl
theorem cq31 : cqG 31 = true := by kernel_rfl
theorem cq32 : cqG 32 = true := by kernel_rfl
theorem cq33 : cqG 33 = true := by kernel_rfl
theorem cq34 : cqG 34 = true := by kernel_rfl
theorem cq35 : cqG 35 = true := by kernel_rfl
theorem cq36 : cqG 36 = true := by kernel_rfl
theorem cq37 : cqG 37 = true := by kernel_rfl
theorem cq38 : cqG 38 = true := by kernel_rfl
theorem cq39 : cqG 39 = true := by kernel_rfl
theorem cq40 : cqG 40 = true := by kernel_rfl
theorem cq41 : cqG 41 = true := by kernel_rfl
theorem cq42 : cqG 42 = true := by kernel_rfl
theorem cq43 : cqG 43 = true := by kernel_rfl
theorem cq44 : cqG 44 = true := by kernel_rfl
end Go.Proofs.YtfoijpkonjidiaaDoor
