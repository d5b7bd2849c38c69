import Derived.Test.YtbhmgchkgbenmaaLV
set_option linter.unusedVariables false
namespace Go.Proofs.Ytbhmgchkgbenmaa
open Go Go.RowKit
end Go.Proofs.Ytbhmgchkgbenmaa
