/- Layer 33: of the given program: its second loop. -/
import Derived.Test.YtfpabkpmcmfbhaaOgC
import Derived.ProofKit
import Derived.IntWalk
namespace Go.Proofs.Ytfpabkpmcmfbhaa
open Go Go.RowKit
set_option linter.unusedVariables false
set_option linter.unusedSimpArgs false
set_option linter.unnecessarySimpa false
set_option maxHeartbeats 8000000
set_option maxRecDepth 100000
end Go.Proofs.Ytfpabkpmcmfbhaa
