/- Layer 33: all texts of words, part 6. -/
import Derived.Test.YtfpabkpmcmfbhaaDoorWX
namespace Go.Proofs.YtfpabkpmcmfbhaaDoor
open Go Go.RowKit
theorem tx6_0 : txG 6 0 = true := by kernel_rfl
theorem tx6_1 : txG 6 1 = true := by kernel_rfl
theorem tx6_2 : txG 6 2 = true := by kernel_rfl
theorem tx6_3 : txG 6 3 = true := by kernel_rfl
theorem tx6_4 : txG 6 4 = true := by kernel_rfl
theorem tx6_5 : txG 6 5 = true := by kernel_rfl
theorem tx6_6 : txG 6 6 = true := by kernel_rfl
theorem tx6_7 : txG 6 7 = true := by kernel_rfl
theorem tx6_8 : txG 6 8 = true := by kernel_rfl
theorem tx6_9 : txG 6 9 = true := by kernel_rfl
theorem tx6_10 : txG 6 10 = true := by kernel_rfl
theorem tx6_11 : txG 6 11 = true := by kernel_rfl
theorem tx6_12 : txG 6 12 = true := by kernel_rfl
theorem tx6_13 : txG 6 13 = true := by kernel_rfl
theorem tx6_14 : txG 6 14 = true := by kernel_rfl
theorem tx6_15 : txG 6 15 = true := by kernel_rfl
end Go.Proofs.YtfpabkpmcmfbhaaDoor
