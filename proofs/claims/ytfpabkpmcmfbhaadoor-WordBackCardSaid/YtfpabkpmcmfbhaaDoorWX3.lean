/- Layer 33: all texts of words, part 3. -/
import Derived.Test.YtfpabkpmcmfbhaaDoorWX
namespace Go.Proofs.YtfpabkpmcmfbhaaDoor
open Go Go.RowKit
theorem tx8_48 : txG 8 48 = true := by kernel_rfl
theorem tx8_49 : txG 8 49 = true := by kernel_rfl
theorem tx8_50 : txG 8 50 = true := by kernel_rfl
theorem tx8_51 : txG 8 51 = true := by kernel_rfl
theorem tx8_52 : txG 8 52 = true := by kernel_rfl
theorem tx8_53 : txG 8 53 = true := by kernel_rfl
theorem tx8_54 : txG 8 54 = true := by kernel_rfl
theorem tx8_55 : txG 8 55 = true := by kernel_rfl
theorem tx8_56 : txG 8 56 = true := by kernel_rfl
theorem tx8_57 : txG 8 57 = true := by kernel_rfl
theorem tx8_58 : txG 8 58 = true := by kernel_rfl
theorem tx8_59 : txG 8 59 = true := by kernel_rfl
theorem tx8_60 : txG 8 60 = true := by kernel_rfl
theorem tx8_61 : txG 8 61 = true := by kernel_rfl
theorem tx8_62 : txG 8 62 = true := by kernel_rfl
theorem tx8_63 : txG 8 63 = true := by kernel_rfl
end Go.Proofs.YtfpabkpmcmfbhaaDoor
