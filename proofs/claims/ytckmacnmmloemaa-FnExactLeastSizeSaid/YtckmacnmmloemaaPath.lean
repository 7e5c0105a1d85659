/- Ways to the sea, and the nodes on them. -/
import Derived.Test.YtckmacnmmloemaaNodI
import Derived.Test.YtckmacnmmloemaaOrdW
namespace Go.Proofs.Ytckmacnmmloemaa
open Go.RowKit
set_option linter.unusedVariables false
set_option linter.unusedSimpArgs false
set_option maxRecDepth 100000
attribute [local irreducible] wpV wpList Code.wp
/-- How many nodes lie on the way from a node to the sea, itself among them. -/
def wayLen (D : List Int) (i : Nat) : Nat := (List.range (D.length + 2)).findIdx fun k => decide (walkD D k (i : Int) < 0)
structure IsWay (D : List Int) (i m : Nat) : Prop where
  out : walkD D m (i : Int) < 0
  on : ∀ k, k < m → 0 ≤ walkD D k (i : Int)
  le : m ≤ D.length + 1
  pos : 1 ≤ m
theorem wayLen_is {D : List Int} {i : Nat} (h : walkD D (D.length + 1) (i : Int) < 0) : IsWay D i (wayLen D i) := by
  have hlt : wayLen D i < (List.range (D.length + 2)).length := by
    unfold wayLen
    exact List.findIdx_lt_length_of_exists ⟨D.length + 1, List.mem_range.2 (by omega), decide_eq_true h⟩
  have hout : walkD D (wayLen D i) (i : Int) < 0 := by
    have h1 := List.findIdx_getElem (xs := List.range (D.length + 2)) (p := fun k => decide (walkD D k (i : Int) < 0)) (w := hlt)
    have e : (List.range (D.length + 2))[wayLen D i]'hlt = wayLen D i := List.getElem_range _
    have h2 : decide (walkD D (((List.range (D.length + 2))[wayLen D i]'hlt : Nat)) (i : Int) < 0) = true := h1
    rw [e] at h2
    exact of_decide_eq_true h2
  have hon : ∀ k, k < wayLen D i → 0 ≤ walkD D k (i : Int) := fun k hk => by
    have h1 := List.not_of_lt_findIdx (xs := List.range (D.length + 2)) (p := fun k => decide (walkD D k (i : Int) < 0)) hk
    simp only [List.getElem_range, decide_eq_true_eq, Bool.not_eq_true, decide_eq_false_iff_not] at h1
    omega
  refine ⟨hout, hon, ?_, ?_⟩
  · by_cases h9 : wayLen D i ≤ D.length + 1
    · exact h9
    · have := hon (D.length + 1) (by omega); omega
  · by_cases h9 : 1 ≤ wayLen D i
    · exact h9
    · have h0 : wayLen D i = 0 := by omega
      rw [h0] at hout
      have : (i : Int) < 0 := hout
      omega
def pathP (D : List Int) (m i : Nat) : List Int := (List.range m).map fun k => walkD D k (i : Int)
theorem pathP_length (D : List Int) (m i : Nat) : (pathP D m i).length = m := by simp [pathP]
theorem pathP_succ (D : List Int) (m i : Nat) : pathP D (m + 1) i = pathP D m i ++ [walkD D m (i : Int)] := by unfold pathP; rw [List.range_succ, List.map_append]; rfl
theorem pathP_getD {D : List Int} {m i j : Nat} (h : j < m) : (pathP D m i).getD j 0 = walkD D j (i : Int) := by
  rw [List.getD_eq_getElem?_getD]; unfold pathP; rw [List.getElem?_map, List.getElem?_range h]; rfl
end Go.Proofs.Ytckmacnmmloemaa
