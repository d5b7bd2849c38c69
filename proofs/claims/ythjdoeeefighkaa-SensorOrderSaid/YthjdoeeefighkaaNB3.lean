/- Layer 12: votes of two equal readings and any other: all of them run; one floor. -/
import Derived.Test.YthjdoeeefighkaaNB
namespace Go.Proofs.Ythjdoeeefighkaa
open Go Go.RowKit
theorem od03 : (List.range 9).all (od0 3) = true := by kernel_rfl
theorem vt03 : (List.range 9).all (vt0 3) = true := by kernel_rfl
theorem od13 : (List.range 9).all (od1 3) = true := by kernel_rfl
theorem vt13 : (List.range 9).all (vt1 3) = true := by kernel_rfl
theorem od23 : (List.range 9).all (od2 3) = true := by kernel_rfl
theorem vt23 : (List.range 9).all (vt2 3) = true := by kernel_rfl
end Go.Proofs.Ythjdoeeefighkaa
