import Derived.ProofKit
import Derived.Test.YtbhmgchkgbenmaaProg
import Derived.Test.YtbhmgchkgbenmaaEvZ7
namespace Go.Proofs.Ytbhmgchkgbenmaa
open Go Go.RowKit
noncomputable section
theorem knLimitKnown_mix : Try.prog.follows .mixedOrders = true := by kernel_rfl
def knLimitKnownL : Vars := []
theorem knLimitKnown_r0 : resV Try.prog knLimitKnownL Tab.none 3000 11 [] (.bool true) = true := by kernel_rfl
def knLimitKnownT0 : Tab := Tab.put 11 [] (.bool true) Tab.none
theorem knLimitKnown_e0 : Known Try.prog knLimitKnownL 11 [] (.bool true) := run_res knLimitKnown_mix (TabOk.none) knLimitKnown_r0
theorem knLimitKnown_k0 : TabOk Try.prog knLimitKnownL knLimitKnownT0 := TabOk.put knLimitKnown_e0 (TabOk.none)
theorem limitKnown_run : resV Try.prog knLimitKnownL knLimitKnownT0 3000 6 [] (.bool true) = true := by kernel_rfl
end
end Go.Proofs.Ytbhmgchkgbenmaa
