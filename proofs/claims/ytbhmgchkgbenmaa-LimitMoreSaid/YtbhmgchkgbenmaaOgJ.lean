import Derived.Test.YtbhmgchkgbenmaaOgI
set_option linter.unnecessarySimpa false
set_option linter.unusedSimpArgs false
set_option linter.unusedVariables false
namespace Go.Proofs.Ytbhmgchkgbenmaa
open Go Go.RowKit
end Go.Proofs.Ytbhmgchkgbenmaa
