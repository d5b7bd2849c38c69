import Derived.Test.YtaogbagopdlkmaaOgO
set_option linter.unusedVariables false
namespace Go.Proofs.Ytaogbagopdlkmaa
open Go Go.RowKit
end Go.Proofs.Ytaogbagopdlkmaa
