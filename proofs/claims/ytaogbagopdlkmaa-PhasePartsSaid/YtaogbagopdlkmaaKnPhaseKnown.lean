import Derived.ProofKit
import Derived.Test.YtaogbagopdlkmaaProg
import Derived.Test.YtaogbagopdlkmaaEvZ7
namespace Go.Proofs.Ytaogbagopdlkmaa
open Go Go.RowKit
noncomputable section
theorem knPhaseKnown_mix:Try.prog.follows .mixedOrders=true:=by kernel_rfl
def knPhaseKnownL:Vars:=[]
theorem knPhaseKnown_r0:resV Try.prog knPhaseKnownL Tab.none 3000 22 [] (.bool true)=true:=by kernel_rfl
theorem knPhaseKnown_e0:Known Try.prog knPhaseKnownL 22 [] (.bool true):=run_res knPhaseKnown_mix (TabOk.none) knPhaseKnown_r0
end
end Go.Proofs.Ytaogbagopdlkmaa
