import Derived.Test.YtaogbagopdlkmaaOgJ
import Derived.ProofKit
import Derived.IntWalk
set_option linter.unnecessarySimpa false
set_option linter.unusedSimpArgs false
set_option linter.unusedVariables false
namespace Go.Proofs.Ytaogbagopdlkmaa
open Go Go.RowKit
set_option maxHeartbeats 8000000
set_option maxRecDepth 100000
attribute [local irreducible] ckX trN slN
end Go.Proofs.Ytaogbagopdlkmaa
