import Derived.ProofKit
import Derived.Test.YtcjlidciniiofaaProg
import Derived.Test.YtcjlidciniiofaaEvZ7
namespace Go.Proofs.Ytcjlidciniiofaa
open Go Go.RowKit
noncomputable section
theorem knMoveKnown_mix : Try.prog.follows .mixedOrders = true := by kernel_rfl
def knMoveKnownL : Vars := []
theorem knMoveKnown_r0 : resV Try.prog knMoveKnownL Tab.none 3000 7 [] (.bool true) = true := by kernel_rfl
theorem knMoveKnown_e0 : Known Try.prog knMoveKnownL 7 [] (.bool true) := run_res knMoveKnown_mix (TabOk.none) knMoveKnown_r0
end
end Go.Proofs.Ytcjlidciniiofaa
