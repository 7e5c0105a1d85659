/- The nodes for which something is so. -/
import Derived.Test.YtckmacnmmloemaaOrdI
import Derived.Test.YtckmacnmmloemaaRvQ
import Derived.Deep.Cut
namespace Go.Proofs.Ytckmacnmmloemaa
open Go.RowKit
set_option linter.unusedVariables false
set_option linter.unusedSimpArgs false
set_option maxRecDepth 100000
attribute [local irreducible] wpV wpList Code.wp
def pickN (q : Nat → Bool) (k : Nat) : List Nat := (List.range k).filter q
theorem pickN_hit {q : Nat → Bool} {k : Nat} (h : q k = true) : pickN q (k + 1) = pickN q k ++ [k] := by
  unfold pickN; rw [List.range_succ, List.filter_append]; simp [h]
theorem pickN_miss {q : Nat → Bool} {k : Nat} (h : q k = false) : pickN q (k + 1) = pickN q k := by
  unfold pickN; rw [List.range_succ, List.filter_append]; simp [h]
theorem pickN_le (q : Nat → Bool) (k : Nat) : (pickN q k).length ≤ k := by
  have h : (pickN q k).length ≤ (List.range k).length := List.length_filter_le _ _
  rwa [List.length_range] at h
def OwnL (w : World) (B : Nat) (a : Option Addr) (c : Nat) (zs : List Int) (w' : World) : Prop := w'.ownsRow B 2 1 (.slice a zs.length c) zs.length (ic zs)
end Go.Proofs.Ytckmacnmmloemaa
