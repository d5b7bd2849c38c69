/- Layer 33: all texts of words, part 5. -/
import Derived.Test.YtfpabkpmcmfbhaaDoorWX
namespace Go.Proofs.YtfpabkpmcmfbhaaDoor
open Go Go.RowKit
theorem tx7_16 : txG 7 16 = true := by kernel_rfl
theorem tx7_17 : txG 7 17 = true := by kernel_rfl
theorem tx7_18 : txG 7 18 = true := by kernel_rfl
theorem tx7_19 : txG 7 19 = true := by kernel_rfl
theorem tx7_20 : txG 7 20 = true := by kernel_rfl
theorem tx7_21 : txG 7 21 = true := by kernel_rfl
theorem tx7_22 : txG 7 22 = true := by kernel_rfl
theorem tx7_23 : txG 7 23 = true := by kernel_rfl
theorem tx7_24 : txG 7 24 = true := by kernel_rfl
theorem tx7_25 : txG 7 25 = true := by kernel_rfl
theorem tx7_26 : txG 7 26 = true := by kernel_rfl
theorem tx7_27 : txG 7 27 = true := by kernel_rfl
theorem tx7_28 : txG 7 28 = true := by kernel_rfl
theorem tx7_29 : txG 7 29 = true := by kernel_rfl
theorem tx7_30 : txG 7 30 = true := by kernel_rfl
theorem tx7_31 : txG 7 31 = true := by kernel_rfl
end Go.Proofs.YtfpabkpmcmfbhaaDoor
