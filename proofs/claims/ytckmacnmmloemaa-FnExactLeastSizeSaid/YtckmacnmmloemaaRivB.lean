/- When rivers are valid: values. -/
import Derived.Test.YtckmacnmmloemaaRivV
import Derived.Test.YtckmacnmmloemaaRegMk
import Derived.Test.YtckmacnmmloemaaBoxG
namespace Go.Proofs.Ytckmacnmmloemaa
open Go.RowKit
set_option linter.unusedVariables false
set_option linter.unusedSimpArgs false
set_option maxRecDepth 100000
attribute [local irreducible] wpV wpList Code.wp

def unitB (z : Int) : Bool := decide (0 ≤ z) && decide (z ≤ 1000000000)
def downB (n : Nat) (z : Int) : Bool := decide (-1 ≤ z) && decide (z ≤ (n : Int) - 1)
def inB (z lo hi : Int) : Bool := decide (lo ≤ z) && decide (z ≤ hi)
def damB (s d l nw : Int) : Bool := unitB s && inB d 0 s && unitB l && inB nw 0 s
def rowB (D M V : List Int) (i : Nat) : Bool := downB D.length (D.getD i 0) && damB (M.getD (i * 4) 0) (M.getD (i * 4 + 1) 0) (M.getD (i * 4 + 2) 0) (M.getD (i * 4 + 3) 0) && unitB (V.getD i 0)
def rivB (D M V : List Int) (n : Nat) : Bool := (decide (1 ≤ D.length) && decide (D.length ≤ 12)) && decide (n = D.length) && decide (V.length = D.length) && (List.range D.length).all (rowB D M V) && acycB D
theorem rivB_len {D M V : List Int} {n : Nat} (h : ¬ (1 ≤ D.length ∧ D.length ≤ 12 ∧ n = D.length ∧ V.length = D.length)) : rivB D M V n = false := by
  have e : ((decide (1 ≤ D.length) && decide (D.length ≤ 12)) && decide (n = D.length) && decide (V.length = D.length)) = false := by
    rw [← Bool.not_eq_true]
    intro h9
    simp only [Bool.and_eq_true, decide_eq_true_eq] at h9
    exact h ⟨h9.1.1.1, h9.1.1.2, h9.1.2, h9.2⟩
  unfold rivB
  rw [e, Bool.false_and, Bool.false_and]
theorem rivB_row {D M V : List Int} {n k : Nat} (hk : k < D.length) (h : rowB D M V k = false) : rivB D M V n = false := by
  unfold rivB
  have : (List.range D.length).all (rowB D M V) = false := by
    rw [List.all_eq_false]
    exact ⟨k, List.mem_range.2 hk, by rw [h]; decide⟩
  rw [this, Bool.and_false, Bool.false_and]
theorem rivB_way {D M V : List Int} {n k : Nat} (hk : k < D.length) (h : ¬ walkD D (D.length + 1) (k : Int) < 0) : rivB D M V n = false := by
  unfold rivB
  have : acycB D = false := by
    unfold acycB
    rw [List.all_eq_false]
    exact ⟨k, List.mem_range.2 hk, by rw [decide_eq_false h]; decide⟩
  rw [this, Bool.and_false]
theorem rivB_yes {D M V : List Int} {n : Nat} (h : 1 ≤ D.length ∧ D.length ≤ 12 ∧ n = D.length ∧ V.length = D.length) (h1 : ∀ j, j < D.length → rowB D M V j = true) (h2 : ∀ j, j < D.length → walkD D (D.length + 1) (j : Int) < 0) : rivB D M V n = true := by
  unfold rivB
  have e1 : (List.range D.length).all (rowB D M V) = true := by rw [List.all_eq_true]; exact fun j hj => h1 j (List.mem_range.1 hj)
  have e2 : acycB D = true := by unfold acycB; rw [List.all_eq_true]; exact fun j hj => decide_eq_true (h2 j (List.mem_range.1 hj))
  rw [e1, e2, decide_eq_true h.1, decide_eq_true h.2.1, decide_eq_true h.2.2.1, decide_eq_true h.2.2.2]
  rfl
theorem rowB_range {D M V : List Int} {j : Nat} (h : rowB D M V j = true) : -1 ≤ D.getD j 0 ∧ D.getD j 0 ≤ (D.length : Int) - 1 := by
  unfold rowB downB at h
  simp only [Bool.and_eq_true, decide_eq_true_eq] at h
  exact h.1.1
theorem walkD_neg {D : List Int} {z : Int} : ∀ (m k : Nat), walkD D m z < 0 → walkD D (m + k) z < 0
  | m, 0, h => h
  | m, k + 1, h => by
    have h1 := walkD_neg m k h
    rw [← Nat.add_assoc, walkD_succ]
    unfold nxt
    rw [if_pos h1]
    exact h1
theorem walkD_le {D : List Int} {z : Int} {m k : Nat} (h : walkD D m z < 0) (hk : m ≤ k) : walkD D k z < 0 := by
  have := walkD_neg m (k - m) h
  rwa [show m + (k - m) = k by omega] at this
/-- All places on a way are nodes, or the sea. -/
theorem walkD_in {D : List Int} (hr : ∀ j, j < D.length → -1 ≤ D.getD j 0 ∧ D.getD j 0 ≤ (D.length : Int) - 1) {i : Nat} (hi : i < D.length) : ∀ m, -1 ≤ walkD D m (i : Int) ∧ walkD D m (i : Int) ≤ (D.length : Int) - 1
  | 0 => by show -1 ≤ (i : Int) ∧ (i : Int) ≤ _; omega
  | m + 1 => by
    have ih := walkD_in hr hi m
    rw [walkD_succ]
    unfold nxt
    by_cases hz : walkD D m (i : Int) < 0
    · rw [if_pos hz]; exact ih
    · rw [if_neg hz]; exact hr _ (by omega)
end Go.Proofs.Ytckmacnmmloemaa
