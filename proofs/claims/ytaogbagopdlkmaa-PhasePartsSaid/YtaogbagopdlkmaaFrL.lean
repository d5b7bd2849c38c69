import Derived.Test.YtaogbagopdlkmaaEvZ7
import Derived.ChangeArms
import Derived.ChangeSlices
import Derived.OpenShut
set_option linter.unusedVariables false
namespace Go.Proofs.Ytaogbagopdlkmaa
open Go Go.RowKit Go.ChangeShapes Go.WideShapes
theorem knownR_law {P:Program}{L:Vars}{f:FuncId}{ds:List D}(h:KnownR P L f ds (.bool true) []){w:World}(hl:LaidL L w){args:List Value}(hd:DIns w ds args):Calls P f args.toArray w fun e w'=>e = .returned (.bool true)∧Below w.heap.size w w' :=
 (h w args hl hd).mono fun e w' hx=>by
  obtain ⟨v',τ,rfl,hb,hv,_⟩:=hx
  cases hv
  exact ⟨rfl,hb⟩
end Go.Proofs.Ytaogbagopdlkmaa
