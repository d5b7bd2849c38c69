/- Layer 33: all texts of words, part 0. -/
import Derived.Test.YtfpabkpmcmfbhaaDoorWX
namespace Go.Proofs.YtfpabkpmcmfbhaaDoor
open Go Go.RowKit
theorem tx8_0 : txG 8 0 = true := by kernel_rfl
theorem tx8_1 : txG 8 1 = true := by kernel_rfl
theorem tx8_2 : txG 8 2 = true := by kernel_rfl
theorem tx8_3 : txG 8 3 = true := by kernel_rfl
theorem tx8_4 : txG 8 4 = true := by kernel_rfl
theorem tx8_5 : txG 8 5 = true := by kernel_rfl
theorem tx8_6 : txG 8 6 = true := by kernel_rfl
theorem tx8_7 : txG 8 7 = true := by kernel_rfl
theorem tx8_8 : txG 8 8 = true := by kernel_rfl
theorem tx8_9 : txG 8 9 = true := by kernel_rfl
theorem tx8_10 : txG 8 10 = true := by kernel_rfl
theorem tx8_11 : txG 8 11 = true := by kernel_rfl
theorem tx8_12 : txG 8 12 = true := by kernel_rfl
theorem tx8_13 : txG 8 13 = true := by kernel_rfl
theorem tx8_14 : txG 8 14 = true := by kernel_rfl
theorem tx8_15 : txG 8 15 = true := by kernel_rfl
end Go.Proofs.YtfpabkpmcmfbhaaDoor
