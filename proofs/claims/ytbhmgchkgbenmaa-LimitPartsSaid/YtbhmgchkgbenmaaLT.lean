import Derived.Test.YtbhmgchkgbenmaaLS
import Derived.Test.YtbhmgchkgbenmaaOgT
set_option linter.unusedVariables false
namespace Go.Proofs.Ytbhmgchkgbenmaa
open Go Go.RowKit
end Go.Proofs.Ytbhmgchkgbenmaa
