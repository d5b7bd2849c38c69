/- Layer 12: votes of two equal readings and any other: all of them run; one floor. -/
import Derived.Test.YthjdoeeefighkaaNB
namespace Go.Proofs.Ythjdoeeefighkaa
open Go Go.RowKit
theorem od02 : (List.range 9).all (od0 2) = true := by kernel_rfl
theorem vt02 : (List.range 9).all (vt0 2) = true := by kernel_rfl
theorem od12 : (List.range 9).all (od1 2) = true := by kernel_rfl
theorem vt12 : (List.range 9).all (vt1 2) = true := by kernel_rfl
theorem od22 : (List.range 9).all (od2 2) = true := by kernel_rfl
theorem vt22 : (List.range 9).all (vt2 2) = true := by kernel_rfl
end Go.Proofs.Ythjdoeeefighkaa
