import Derived.Test.YtbhmgchkgbenmaaLW
import Derived.Test.YtbhmgchkgbenmaaOgX
set_option linter.unusedVariables false
namespace Go.Proofs.Ytbhmgchkgbenmaa
open Go Go.RowKit
end Go.Proofs.Ytbhmgchkgbenmaa
