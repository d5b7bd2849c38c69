import Derived.ProofKit
import Derived.Test.YtfpabkpmcmfbhaaProg
import Derived.Test.YtfpabkpmcmfbhaaEvZ7
namespace Go.Proofs.Ytfpabkpmcmfbhaa
open Go Go.RowKit
noncomputable section
theorem knWordAwake_mix:Try.prog.follows .mixedOrders=true:=by kernel_rfl
def knWordAwakeL:Vars:=[]
theorem knWordAwake_r0:resV Try.prog knWordAwakeL Tab.none 3000 9 [] (.bool true)=true:=by kernel_rfl
theorem knWordAwake_e0:Known Try.prog knWordAwakeL 9 [] (.bool true):=run_res knWordAwake_mix (TabOk.none) knWordAwake_r0
end
end Go.Proofs.Ytfpabkpmcmfbhaa
