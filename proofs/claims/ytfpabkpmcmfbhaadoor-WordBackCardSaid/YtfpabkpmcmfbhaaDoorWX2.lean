/- Layer 33: all texts of words, part 2. -/
import Derived.Test.YtfpabkpmcmfbhaaDoorWX
namespace Go.Proofs.YtfpabkpmcmfbhaaDoor
open Go Go.RowKit
theorem tx8_32 : txG 8 32 = true := by kernel_rfl
theorem tx8_33 : txG 8 33 = true := by kernel_rfl
theorem tx8_34 : txG 8 34 = true := by kernel_rfl
theorem tx8_35 : txG 8 35 = true := by kernel_rfl
theorem tx8_36 : txG 8 36 = true := by kernel_rfl
theorem tx8_37 : txG 8 37 = true := by kernel_rfl
theorem tx8_38 : txG 8 38 = true := by kernel_rfl
theorem tx8_39 : txG 8 39 = true := by kernel_rfl
theorem tx8_40 : txG 8 40 = true := by kernel_rfl
theorem tx8_41 : txG 8 41 = true := by kernel_rfl
theorem tx8_42 : txG 8 42 = true := by kernel_rfl
theorem tx8_43 : txG 8 43 = true := by kernel_rfl
theorem tx8_44 : txG 8 44 = true := by kernel_rfl
theorem tx8_45 : txG 8 45 = true := by kernel_rfl
theorem tx8_46 : txG 8 46 = true := by kernel_rfl
theorem tx8_47 : txG 8 47 = true := by kernel_rfl
end Go.Proofs.YtfpabkpmcmfbhaaDoor
