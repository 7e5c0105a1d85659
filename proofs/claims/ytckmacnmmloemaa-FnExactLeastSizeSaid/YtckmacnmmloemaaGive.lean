/- A river, if it is valid. -/
import Derived.Test.YtckmacnmmloemaaOwnS
import Derived.Test.YtckmacnmmloemaaRivS
import Derived.Test.YtckmacnmmloemaaValRI
namespace Go.Proofs.Ytckmacnmmloemaa
open Go.RowKit
set_option linter.unusedVariables false
set_option linter.unusedSimpArgs false
set_option maxRecDepth 100000
attribute [local irreducible] wpV wpList Code.wp

end Go.Proofs.Ytckmacnmmloemaa
