/- Layer 12: votes of two equal readings and any other: all of them run; one floor. -/
import Derived.Test.YthjdoeeefighkaaNB
namespace Go.Proofs.Ythjdoeeefighkaa
open Go Go.RowKit
theorem od01 : (List.range 9).all (od0 1) = true := by kernel_rfl
theorem vt01 : (List.range 9).all (vt0 1) = true := by kernel_rfl
theorem od11 : (List.range 9).all (od1 1) = true := by kernel_rfl
theorem vt11 : (List.range 9).all (vt1 1) = true := by kernel_rfl
theorem od21 : (List.range 9).all (od2 1) = true := by kernel_rfl
theorem vt21 : (List.range 9).all (vt2 1) = true := by kernel_rfl
end Go.Proofs.Ythjdoeeefighkaa
