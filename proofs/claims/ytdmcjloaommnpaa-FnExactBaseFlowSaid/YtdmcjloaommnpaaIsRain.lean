/- When a list is rain: the program and its model alike. -/
import Derived.Test.YtdmcjloaommnpaaAllOf
namespace Go.Proofs.Ytdmcjloaommnpaa
open Go.RowKit Go.Proofs
set_option linter.unusedVariables false

def amtB (z : Nat) : Bool := amtO (some z)
def rainB (zs : List Nat) : Bool := decide (zs.length ≤ 128) && zs.all amtB
theorem all_take_b (zs : List Nat) (q : Nat → Bool) (k : Nat) (h : k < zs.length) (hk : (zs.take k).all q = true) (hf : q (zs.getD k 0) = true) : (zs.take (k + 1)).all q = true := by
  rw [List.take_succ_eq_append_getElem h, List.all_append, hk]
  rw [List.getD_eq_getElem?_getD, List.getElem?_eq_getElem h] at hf
  simpa using hf
theorem all_no (zs : List Nat) (q : Nat → Bool) (k : Nat) (h : k < zs.length) (hf : q (zs.getD k 0) = false) : zs.all q = false := by
  rw [List.all_eq_false]
  refine ⟨zs[k], List.getElem_mem h, ?_⟩
  rw [List.getD_eq_getElem?_getD, List.getElem?_eq_getElem h] at hf
  simpa using hf



end Go.Proofs.Ytdmcjloaommnpaa
