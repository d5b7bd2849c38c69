/- Layer 33: all texts of words, part 7. -/
import Derived.Test.YtfpabkpmcmfbhaaDoorWX
namespace Go.Proofs.YtfpabkpmcmfbhaaDoor
open Go Go.RowKit
theorem tx5_0 : txG 5 0 = true := by kernel_rfl
theorem tx5_1 : txG 5 1 = true := by kernel_rfl
theorem tx5_2 : txG 5 2 = true := by kernel_rfl
theorem tx5_3 : txG 5 3 = true := by kernel_rfl
theorem tx5_4 : txG 5 4 = true := by kernel_rfl
theorem tx5_5 : txG 5 5 = true := by kernel_rfl
theorem tx5_6 : txG 5 6 = true := by kernel_rfl
theorem tx5_7 : txG 5 7 = true := by kernel_rfl
theorem tx4_0 : txG 4 0 = true := by kernel_rfl
theorem tx4_1 : txG 4 1 = true := by kernel_rfl
theorem tx4_2 : txG 4 2 = true := by kernel_rfl
theorem tx4_3 : txG 4 3 = true := by kernel_rfl
theorem tx3_0 : txG 3 0 = true := by kernel_rfl
theorem tx3_1 : txG 3 1 = true := by kernel_rfl
theorem tx2_0 : txG 2 0 = true := by kernel_rfl
theorem tx1_0 : [0, 1].all (txB 1) = true := by kernel_rfl
end Go.Proofs.YtfpabkpmcmfbhaaDoor
