/- Layer 12: all votes of nine readings; the first one. -/
import Derived.Test.YthjdoeeefighkaaNF
namespace Go.Proofs.Ythjdoeeefighkaa
open Go Go.RowKit
theorem vb4_0 : [0, 1, 2, 3, 4, 5, 6, 7, 8].all (vtB 4) = true := by kernel_rfl
theorem vb4_1 : [9, 10, 11, 12, 13, 14, 15, 16, 17].all (vtB 4) = true := by kernel_rfl
theorem vb4_2 : [18, 19, 20, 21, 22, 23, 24, 25, 26].all (vtB 4) = true := by kernel_rfl
theorem vb4_3 : [27, 28, 29, 30, 31, 32, 33, 34, 35].all (vtB 4) = true := by kernel_rfl
theorem vb4_4 : [36, 37, 38, 39, 40, 41, 42, 43, 44].all (vtB 4) = true := by kernel_rfl
theorem vb4_5 : [45, 46, 47, 48, 49, 50, 51, 52, 53].all (vtB 4) = true := by kernel_rfl
theorem vb4_6 : [54, 55, 56, 57, 58, 59, 60, 61, 62].all (vtB 4) = true := by kernel_rfl
theorem vb4_7 : [63, 64, 65, 66, 67, 68, 69, 70, 71].all (vtB 4) = true := by kernel_rfl
theorem vb4_8 : [72, 73, 74, 75, 76, 77, 78, 79, 80].all (vtB 4) = true := by kernel_rfl
end Go.Proofs.Ythjdoeeefighkaa
