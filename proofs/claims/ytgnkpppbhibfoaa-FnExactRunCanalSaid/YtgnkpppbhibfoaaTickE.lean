/- A canal a tick later: the words of its rows. -/
import Derived.Test.YtgnkpppbhibfoaaTickD
namespace Go.Proofs.Ytgnkpppbhibfoaa
open Go.RowKit
set_option linter.unusedVariables false
set_option linter.unusedSimpArgs false
set_option maxRecDepth 100000
attribute [local irreducible] wpV wpList Code.wp

theorem getD_get {Z : List Nat} {i : Nat} (h : i < Z.length) : Z.getD i 0 = Z[i] := by rw [List.getD_eq_getElem?_getD, List.getElem?_eq_getElem h]; rfl
def wordsO (f : Nat → Option Nat) (n : Nat) : List Nat := (List.range n).map fun j => (f j).getD 0
def allO (f : Nat → Option Nat) (n : Nat) : Bool := (List.range n).all fun j => fin32o (f j)
theorem Upto.all {f : Nat → Option Nat} {n : Nat} {O Z : List Nat} (h : Upto f n O Z) (hn : n = O.length) : Z.all fin32 = allO f n := by
  have hl : Z.length = n := h.1.trans hn.symm
  unfold allO
  rw [Bool.eq_iff_iff, List.all_eq_true, List.all_eq_true]
  constructor
  · intro hz j hj
    have hj' : j < n := List.mem_range.1 hj
    rw [← fin_o (h.2.1 j hj'), getD_get (by omega)]
    exact hz _ (List.getElem_mem _)
  · intro hz z hzm
    obtain ⟨i, hi, rfl⟩ := List.getElem_of_mem hzm
    have h9 := fin_o (h.2.1 i (by omega))
    rw [getD_get hi] at h9
    rw [h9]
    exact hz i (List.mem_range.2 (by omega))
theorem Upto.words {f : Nat → Option Nat} {n : Nat} {O Z : List Nat} (h : Upto f n O Z) (hn : n = O.length) (ha : allO f n = true) : Z = wordsO f n := by
  have hl : Z.length = n := h.1.trans hn.symm
  refine List.ext_getElem (by simp [wordsO, hl]) fun i h1 h2 => ?_
  have hf : fin32o (f i) = true := (List.all_eq_true.1 ha) i (List.mem_range.2 (by omega))
  have h9 := h.2.1 i (by omega)
  rw [getD_get h1] at h9
  simp only [wordsO, List.getElem_map, List.getElem_range]
  cases hx : f i with
  | none => rw [hx] at hf; cases hf
  | some v => rw [hx] at h9; exact h9.eq

end Go.Proofs.Ytgnkpppbhibfoaa
