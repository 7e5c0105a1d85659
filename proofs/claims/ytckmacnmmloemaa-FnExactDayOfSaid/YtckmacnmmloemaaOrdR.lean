/- The order of a river's nodes: both sides. -/
import Derived.Test.YtckmacnmmloemaaOrdS
namespace Go.Proofs.Ytckmacnmmloemaa
open Go.RowKit
set_option linter.unusedVariables false
set_option linter.unusedSimpArgs false
set_option maxRecDepth 100000
attribute [local irreducible] wpV wpList Code.wp

def ordR (D M V : List Int) (n : Nat) : List Int × Bool := if rivB D M V n then (ints (kahn D n), true) else ([], false)
theorem ordR_len (D M V : List Int) (n : Nat) : (ordR D M V n).1.length ≤ 1048576 := by
  unfold ordR
  cases h : rivB D M V n
  · exact Nat.zero_le _
  · have h1 := (rivB_true h).1
    have h2 := kahn_le D n
    show (ints (kahn D n)).length ≤ 1048576
    rw [ints_length]; omega
end Go.Proofs.Ytckmacnmmloemaa
