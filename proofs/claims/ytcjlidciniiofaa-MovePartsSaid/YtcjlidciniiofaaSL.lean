import Derived.Test.YtcjlidciniiofaaSK
set_option linter.unusedVariables false
namespace Go.Proofs.Ytcjlidciniiofaa
open Go.RowKit
end Go.Proofs.Ytcjlidciniiofaa
