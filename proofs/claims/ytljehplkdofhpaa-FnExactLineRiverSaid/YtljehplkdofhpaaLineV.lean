/- Rivers in a line: values. -/
import Derived.Test.YtljehplkdofhpaaRegMk
namespace Go.Proofs.Ytljehplkdofhpaa
open Go.RowKit
set_option linter.unusedVariables false
set_option linter.unusedSimpArgs false
set_option maxRecDepth 100000
attribute [local irreducible] wpV wpList Code.wp

/-- Where the nodes of a line lead to. -/
def lineD (m : Nat) : List Int := (List.range m).map fun i => if i + 1 = m then (-1 : Int) else ((i + 1 : Nat) : Int)
def lineTo (m k : Nat) : List Int := (List.range k).map (fun i => ((i + 1 : Nat) : Int)) ++ List.replicate (m - k) 0
theorem lineTo_length {m k : Nat} (h : k ≤ m) : (lineTo m k).length = m := by simp [lineTo]; omega
theorem lineTo_zero (m : Nat) : lineTo m 0 = List.replicate m 0 := by simp [lineTo]
theorem lineTo_set {m k : Nat} (h : k < m) : (lineTo m k).set k ((k + 1 : Nat) : Int) = lineTo m (k + 1) := by
  unfold lineTo
  rw [List.set_append_right _ _ (by simp), List.length_map, List.length_range, Nat.sub_self, show m - k = (m - (k + 1)) + 1 by omega, List.replicate_succ, List.set_cons_zero, List.range_succ, List.map_append]
  simp
theorem lineTo_last (q : Nat) : (lineTo (q + 1) (q + 1)).set q (-1) = lineD (q + 1) := by
  apply List.ext_getElem?
  intro i
  unfold lineTo lineD
  rw [Nat.sub_self, List.replicate_zero, List.append_nil]
  by_cases hi : i < q + 1
  · by_cases e : i = q
    · subst e
      rw [List.getElem?_set_self (by simp), List.getElem?_map, List.getElem?_range hi]
      simp
    · rw [List.getElem?_set_ne (fun h => e h.symm), List.getElem?_map, List.getElem?_range hi, List.getElem?_map, List.getElem?_range hi]
      simp only [Option.map_some]
      rw [if_neg (by omega)]
  · rw [List.getElem?_eq_none (by simp; omega), List.getElem?_eq_none (by simp; omega)]
/-- Nodes so far, by append. -/
def lineP (k : Nat) : List Int := (List.range k).map fun i => ((i + 1 : Nat) : Int)
theorem lineP_zero : lineP 0 = [] := rfl
theorem lineP_succ (k : Nat) : lineP k ++ [((k + 1 : Nat) : Int)] = lineP (k + 1) := by unfold lineP; rw [List.range_succ, List.map_append]; rfl
theorem lineP_succ2 (k : Nat) : lineP k ++ [(k : Int) + 1] = lineP (k + 1) := lineP_succ k
theorem lineP_last (q : Nat) : lineP q ++ [(-1 : Int)] = lineD (q + 1) := by
  unfold lineP lineD
  rw [List.range_succ, List.map_append]
  congr 1
  · apply List.map_congr_left
    intro i hi
    rw [List.mem_range] at hi
    rw [if_neg (by omega)]
  · simp
theorem ic_replicate (n : Nat) (z : Int) : ic (List.replicate n z) = List.replicate n (.int .i64 z) := by simp [ic]
def lineR (n : Int) : RvR := if decide (1 ≤ n) && decide (n ≤ 12) then ⟨n.toNat, lineD n.toNat, List.replicate (n.toNat * 4) 0, List.replicate n.toNat 0, true⟩ else failR
theorem lineR_len (n : Int) : (lineR n).D.length ≤ 1048576 ∧ (lineR n).n ≤ 1048576 ∧ (lineR n).V.length ≤ 1048576 := by
  unfold lineR
  cases h : decide (1 ≤ n) && decide (n ≤ 12)
  · rw [if_neg (by decide)]; exact ⟨by decide, by decide, by decide⟩
  · rw [Bool.and_eq_true, decide_eq_true_eq, decide_eq_true_eq] at h
    rw [if_pos rfl]
    refine ⟨?_, ?_, ?_⟩
    · show (lineD n.toNat).length ≤ _; simp [lineD]; omega
    · show n.toNat ≤ _; omega
    · show (List.replicate n.toNat (0 : Int)).length ≤ _; simp; omega
end Go.Proofs.Ytljehplkdofhpaa
