/- Rivers: results of numbers and lists; what valid rivers are. -/
import Derived.Test.YtckmacnmmloemaaValR
import Derived.Test.YtckmacnmmloemaaRivH
namespace Go.Proofs.Ytckmacnmmloemaa
open Go.RowKit
set_option linter.unusedVariables false
set_option maxRecDepth 100000
def SayZB (R : Int × Bool) (w : World) (e : Ending) (w' : World) : Prop := e = .returned (.tuple #[.int .i64 R.1, .bool R.2]) ∧ Below w.heap.size w w'
def ListZB (R : List Int × Bool) (w : World) (e : Ending) (w' : World) : Prop :=
  ∃ lo hi a c, e = .returned (.tuple #[.slice a R.1.length c, .bool R.2]) ∧ Below w.heap.size w w' ∧ HRow w' 2 1 lo hi (.slice a R.1.length c) R.1.length (ic R.1) ∧ w.heap.size ≤ lo
theorem ListZB.no {w w' : World} (hb : Below w.heap.size w w') : ListZB ([], false) w (.returned (.tuple #[.slice none 0 0, .bool false])) w' :=
  ⟨w.heap.size, w'.heap.size, none, 0, rfl, hb, HRow.nil _ _ _ _, Nat.le_refl _⟩
theorem ListZB.yes {w w' : World} {zs : List Int} {a : Option Addr} {n c lo : Nat} (h : w'.ownsRow lo 2 1 (.slice a n c) n (ic zs)) (hlo : w.heap.size ≤ lo) (hb : Below w.heap.size w w') :
    ListZB (zs, true) w (.returned (.tuple #[.slice a n c, .bool true])) w' := by
  have e : n = zs.length := by have := h.1; rw [ic_length] at this; omega
  subst e
  exact ⟨lo, w'.heap.size, a, c, rfl, hb, HRow.mk' h, hlo⟩
theorem rivB_true {D M V : List Int} {n : Nat} (h : rivB D M V n = true) : (1 ≤ D.length ∧ D.length ≤ 12 ∧ n = D.length ∧ V.length = D.length) ∧ (∀ j, j < D.length → rowB D M V j = true) ∧ (∀ j : Nat, j < D.length → walkD D (D.length + 1) (j : Int) < 0) := by
  unfold rivB acycB at h
  simp only [Bool.and_eq_true, decide_eq_true_eq, List.all_eq_true, List.mem_range] at h
  obtain ⟨⟨⟨⟨h1, h2⟩, h3⟩, h4⟩, h5⟩ := h
  exact ⟨⟨h1.1, h1.2, h2, h3⟩, h4, h5⟩
theorem rivB_range {D M V : List Int} {n : Nat} (h : rivB D M V n = true) : ∀ j, j < D.length → -1 ≤ D.getD j 0 ∧ D.getD j 0 ≤ (D.length : Int) - 1 :=
  fun j hj => rowB_range ((rivB_true h).2.1 j hj)
theorem rivB_dam {D M V : List Int} {n : Nat} (h : rivB D M V n = true) {j : Nat} (hj : j < n) : (0 ≤ M.getD (j * 4) 0 ∧ M.getD (j * 4) 0 ≤ 1000000000) ∧ (0 ≤ M.getD (j * 4 + 1) 0 ∧ M.getD (j * 4 + 1) 0 ≤ M.getD (j * 4) 0) ∧ (0 ≤ M.getD (j * 4 + 2) 0 ∧ M.getD (j * 4 + 2) 0 ≤ 1000000000) ∧ (0 ≤ M.getD (j * 4 + 3) 0 ∧ M.getD (j * 4 + 3) 0 ≤ M.getD (j * 4) 0) ∧ (0 ≤ V.getD j 0 ∧ V.getD j 0 ≤ 1000000000) := by
  obtain ⟨⟨_, _, h3, _⟩, h1, _⟩ := rivB_true h
  have := h1 j (by omega)
  unfold rowB damB unitB inB at this
  simp only [Bool.and_eq_true, decide_eq_true_eq] at this
  obtain ⟨⟨_, ⟨⟨h4, h5⟩, h6⟩, h7⟩, h8⟩ := this
  exact ⟨h4, h5, h6, h7, h8⟩
def lenOf : Value → Nat
  | .slice _ k _ => k
  | _ => 0
/-- The cells of a row of integers that is not empty. -/
theorem RowC.cells {w : World} {a : Option Addr} {zs : List Int} (h : RowC w a (ic zs)) (hz : zs ≠ []) : ∃ b off, a = some ⟨b, off, none⟩ ∧ b < w.heap.size ∧ ∀ i, i < zs.length → w.cell? ⟨b, off + i, none⟩ = some (.int .i64 (zs.getD i 0)) := by
  rcases h.ints with h9 | h9
  · exact absurd h9 hz
  · exact h9
end Go.Proofs.Ytckmacnmmloemaa
