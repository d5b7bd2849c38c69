import Derived.Test.YtaogbagopdlkmaaOgM
import Derived.Test.YtaogbagopdlkmaaPD
set_option linter.unusedVariables false
namespace Go.Proofs.Ytaogbagopdlkmaa
open Go Go.RowKit
end Go.Proofs.Ytaogbagopdlkmaa
