import Derived.Test.YtcjlidciniiofaaSJ
set_option linter.unusedVariables false
namespace Go.Proofs.Ytcjlidciniiofaa
open Go.RowKit
end Go.Proofs.Ytcjlidciniiofaa
