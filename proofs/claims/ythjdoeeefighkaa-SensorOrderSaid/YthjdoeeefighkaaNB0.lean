/- Layer 12: votes of two equal readings and any other: all of them run; one floor. -/
import Derived.Test.YthjdoeeefighkaaNB
namespace Go.Proofs.Ythjdoeeefighkaa
open Go Go.RowKit
theorem od00 : (List.range 9).all (od0 0) = true := by kernel_rfl
theorem vt00 : (List.range 9).all (vt0 0) = true := by kernel_rfl
theorem od10 : (List.range 9).all (od1 0) = true := by kernel_rfl
theorem vt10 : (List.range 9).all (vt1 0) = true := by kernel_rfl
theorem od20 : (List.range 9).all (od2 0) = true := by kernel_rfl
theorem vt20 : (List.range 9).all (vt2 0) = true := by kernel_rfl
end Go.Proofs.Ythjdoeeefighkaa
