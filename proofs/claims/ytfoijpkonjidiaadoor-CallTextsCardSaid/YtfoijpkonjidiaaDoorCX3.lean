/- Layer 20: all texts of calls, part 3. -/
import Derived.Test.YtfoijpkonjidiaaDoorCX
namespace Go.Proofs.YtfoijpkonjidiaaDoor
open Go Go.RowKit
theorem cq45 : cqG 45 = true := by kernel_rfl
theorem cq46 : cqG 46 = true := by kernel_rfl
theorem cq47 : cqG 47 = true := by kernel_rfl
theorem cq48 : cqG 48 = true := by kernel_rfl
theorem cq49 : cqG 49 = true := by kernel_rfl
theorem cq50 : cqG 50 = true := by kernel_rfl
theorem cq51 : cqG 51 = true := by kernel_rfl
theorem cq52 : cqG 52 = true := by kernel_rfl
theorem cq53 : cqG 53 = true := by kernel_rfl
theorem cq54 : cqG 54 = true := by kernel_rfl
theorem cq55 : cqG 55 = true := by kernel_rfl
theorem cq56 : cqG 56 = true := by kernel_rfl
theorem cq57 : cqG 57 = true := by kernel_rfl
theorem cq58 : cqG 58 = true := by kernel_rfl
theorem cq59 : cqG 59 = true := by kernel_rfl
end Go.Proofs.YtfoijpkonjidiaaDoor
