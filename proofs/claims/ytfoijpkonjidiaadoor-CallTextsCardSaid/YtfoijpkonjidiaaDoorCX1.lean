/- Layer 20: all texts of calls, part 1. -/
import Derived.Test.YtfoijpkonjidiaaDoorCX
namespace Go.Proofs.YtfoijpkonjidiaaDoor
open Go Go.RowKit
theorem cq15 : cqG 15 = true := by kernel_rfl
theorem cq16 : cqG 16 = true := by kernel_rfl
theorem cq17 : cqG 17 = true := by kernel_rfl
theorem cq18 : cqG 18 = true := by kernel_rfl
theorem cq19 : cqG 19 = true := by kernel_rfl
theorem cq20 : cqG 20 = true := by kernel_rfl
theorem cq21 : cqG 21 = true := by kernel_rfl
theorem cq22 : cqG 22 = true := by kernel_rfl
theorem cq23 : cqG 23 = true := by kernel_rfl
theorem cq24 : cqG 24 = true := by kernel_rfl
theorem cq25 : cqG 25 = true := by kernel_rfl
theorem cq26 : cqG 26 = true := by kernel_rfl
theorem cq27 : cqG 27 = true := by kernel_rfl
theorem cq28 : cqG 28 = true := by kernel_rfl
theorem cq29 : cqG 29 = true := by kernel_rfl
end Go.Proofs.YtfoijpkonjidiaaDoor
