import Derived.ProofKit
import Derived.Test.YthkjdhjfiofbpaaProg
import Derived.Test.YthkjdhjfiofbpaaEvZ7
namespace Go.Proofs.Ythkjdhjfiofbpaa
open Go Go.RowKit
noncomputable section
theorem knKeyKnown_mix : Try.prog.follows .mixedOrders = true := by kernel_rfl
def knKeyKnownL : Vars := []
theorem knKeyKnown_r0 : resV Try.prog knKeyKnownL Tab.none 3000 7 [] (.bool true) = true := by kernel_rfl
theorem knKeyKnown_e0 : Known Try.prog knKeyKnownL 7 [] (.bool true) := run_res knKeyKnown_mix (TabOk.none) knKeyKnown_r0
end
end Go.Proofs.Ythkjdhjfiofbpaa
