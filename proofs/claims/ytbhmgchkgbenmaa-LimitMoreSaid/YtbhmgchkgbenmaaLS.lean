import Derived.Test.YtbhmgchkgbenmaaLR
import Derived.Test.YtbhmgchkgbenmaaOgR
set_option linter.unusedVariables false
namespace Go.Proofs.Ytbhmgchkgbenmaa
open Go Go.RowKit
end Go.Proofs.Ytbhmgchkgbenmaa
