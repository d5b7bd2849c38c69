import Derived.ProofKit
import Derived.Test.YtokpimghaladjaaProg
import Derived.Test.YtokpimghaladjaaEvZ7
namespace Go.Proofs.Ytokpimghaladjaa
open Go Go.RowKit
noncomputable section
theorem knModeKnown_mix:Try.prog.follows .mixedOrders=true:=by kernel_rfl
def knModeKnownL:Vars:=[]
theorem knModeKnown_r0:resV Try.prog knModeKnownL Tab.none 3000 11 [] (.bool true)=true:=by kernel_rfl
def knModeKnownT0:Tab:=Tab.put 11 [] (.bool true) Tab.none
theorem knModeKnown_e0:Known Try.prog knModeKnownL 11 [] (.bool true):=run_res knModeKnown_mix (TabOk.none) knModeKnown_r0
theorem knModeKnown_k0:TabOk Try.prog knModeKnownL knModeKnownT0:=TabOk.put knModeKnown_e0 (TabOk.none)
theorem modeKnown_run:resV Try.prog knModeKnownL knModeKnownT0 3000 6 [] (.bool true)=true:=by kernel_rfl
end
end Go.Proofs.Ytokpimghaladjaa
