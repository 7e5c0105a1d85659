/- Valid rivers: both sides as the law asks. -/
import Derived.Test.YtckmacnmmloemaaValRI
import Derived.Test.YtckmacnmmloemaaRivS
namespace Go.Proofs.Ytckmacnmmloemaa
open Go.RowKit
set_option linter.unusedVariables false
set_option maxRecDepth 100000
attribute [local irreducible] wpV wpList Code.wp
end Go.Proofs.Ytckmacnmmloemaa
