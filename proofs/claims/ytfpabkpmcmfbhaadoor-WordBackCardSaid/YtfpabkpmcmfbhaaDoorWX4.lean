/- Layer 33: all texts of words, part 4. -/
import Derived.Test.YtfpabkpmcmfbhaaDoorWX
namespace Go.Proofs.YtfpabkpmcmfbhaaDoor
open Go Go.RowKit
theorem tx7_0 : txG 7 0 = true := by kernel_rfl
theorem tx7_1 : txG 7 1 = true := by kernel_rfl
theorem tx7_2 : txG 7 2 = true := by kernel_rfl
theorem tx7_3 : txG 7 3 = true := by kernel_rfl
theorem tx7_4 : txG 7 4 = true := by kernel_rfl
theorem tx7_5 : txG 7 5 = true := by kernel_rfl
theorem tx7_6 : txG 7 6 = true := by kernel_rfl
theorem tx7_7 : txG 7 7 = true := by kernel_rfl
theorem tx7_8 : txG 7 8 = true := by kernel_rfl
theorem tx7_9 : txG 7 9 = true := by kernel_rfl
theorem tx7_10 : txG 7 10 = true := by kernel_rfl
theorem tx7_11 : txG 7 11 = true := by kernel_rfl
theorem tx7_12 : txG 7 12 = true := by kernel_rfl
theorem tx7_13 : txG 7 13 = true := by kernel_rfl
theorem tx7_14 : txG 7 14 = true := by kernel_rfl
theorem tx7_15 : txG 7 15 = true := by kernel_rfl
end Go.Proofs.YtfpabkpmcmfbhaaDoor
