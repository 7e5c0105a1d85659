/- The nodes that lead to the sea. -/
import Derived.Test.YtckmacnmmloemaaNodI
import Derived.Test.YtckmacnmmloemaaRivS
namespace Go.Proofs.Ytckmacnmmloemaa
open Go.RowKit
set_option linter.unusedVariables false
set_option linter.unusedSimpArgs false
set_option maxRecDepth 100000
attribute [local irreducible] wpV wpList Code.wp

def outQ (D : List Int) (k : Nat) : Bool := decide (D.getD k 0 < 0)
def outR (D M V : List Int) (n : Nat) : List Int × Bool := if rivB D M V n then (ints (pickN (outQ D) n), true) else ([], false)
theorem outR_len (D M V : List Int) (n : Nat) : (outR D M V n).1.length ≤ 1048576 := by
  unfold outR
  cases h : rivB D M V n
  · exact Nat.zero_le _
  · have h1 := (rivB_true h).1
    have h2 := pickN_le (outQ D) n
    show (ints (pickN (outQ D) n)).length ≤ 1048576
    rw [ints_length]; omega
end Go.Proofs.Ytckmacnmmloemaa
