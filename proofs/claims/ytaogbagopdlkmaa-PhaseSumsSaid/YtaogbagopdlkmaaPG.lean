import Derived.Test.YtaogbagopdlkmaaOgN
import Derived.Test.YtaogbagopdlkmaaPD
import Derived.Test.YtaogbagopdlkmaaPF
set_option linter.unusedVariables false
namespace Go.Proofs.Ytaogbagopdlkmaa
open Go Go.RowKit
end Go.Proofs.Ytaogbagopdlkmaa
