/- Layer 33: all texts of words, part 1. -/
import Derived.Test.YtfpabkpmcmfbhaaDoorWX
namespace Go.Proofs.YtfpabkpmcmfbhaaDoor
open Go Go.RowKit
theorem tx8_16 : txG 8 16 = true := by kernel_rfl
theorem tx8_17 : txG 8 17 = true := by kernel_rfl
theorem tx8_18 : txG 8 18 = true := by kernel_rfl
theorem tx8_19 : txG 8 19 = true := by kernel_rfl
theorem tx8_20 : txG 8 20 = true := by kernel_rfl
theorem tx8_21 : txG 8 21 = true := by kernel_rfl
theorem tx8_22 : txG 8 22 = true := by kernel_rfl
theorem tx8_23 : txG 8 23 = true := by kernel_rfl
theorem tx8_24 : txG 8 24 = true := by kernel_rfl
theorem tx8_25 : txG 8 25 = true := by kernel_rfl
theorem tx8_26 : txG 8 26 = true := by kernel_rfl
theorem tx8_27 : txG 8 27 = true := by kernel_rfl
theorem tx8_28 : txG 8 28 = true := by kernel_rfl
theorem tx8_29 : txG 8 29 = true := by kernel_rfl
theorem tx8_30 : txG 8 30 = true := by kernel_rfl
theorem tx8_31 : txG 8 31 = true := by kernel_rfl
end Go.Proofs.YtfpabkpmcmfbhaaDoor
