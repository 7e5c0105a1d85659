/- Valid rivers: the program's parts. -/
import Derived.Test.YtckmacnmmloemaaOrdI
import Derived.Test.YtckmacnmmloemaaAllZ
import Derived.Test.YtckmacnmmloemaaAllD
import Derived.Test.YtckmacnmmloemaaRivB
namespace Go.Proofs.Ytckmacnmmloemaa
open Go.RowKit
set_option linter.unusedVariables false
set_option linter.unusedSimpArgs false
set_option maxRecDepth 100000
attribute [local irreducible] wpV wpList Code.wp

theorem isUnits_any (z : Int) (w : World) : Calls Try.prog 75 #[.int .i64 z] w (SayS (unitB z) w) := by
  unfold unitB
  by_cases h1 : 0 ≤ z
  · by_cases h2 : z ≤ 1000000000
    · go_enter Try.func75, Try.ntmps75
      go_wp2
      go_ret
      exact ⟨_, by simp [h1, h2], rfl, rfl⟩
    · go_enter Try.func75, Try.ntmps75
      go_wp2
      go_ret
      exact ⟨_, by simp [h1, h2], rfl, rfl⟩
  · go_enter Try.func75, Try.ntmps75
    go_wp2
    go_ret
    exact ⟨_, by rw [decide_eq_false (by omega : ¬ 0 ≤ z), Bool.false_and], rfl, rfl⟩
theorem downClo (n : Nat) (z : Int) (pc : Nat) (w : World) (hc : w.cell? ⟨pc, 0, none⟩ = some (.int .i64 (n : Int))) : Calls Try.prog 100 #[.int .i64 z, .pointer (some ⟨pc, 0, none⟩)] w (SayS (downB n z) w) := by
  unfold downB
  by_cases h1 : -1 ≤ z
  · by_cases h2 : z < (n : Int)
    · go_enter Try.func100, Try.ntmps100
      go_wp2
      go_ret
      exact ⟨_, by first | (rw [decide_eq_true h1, decide_eq_true (by omega : z ≤ (n : Int) - 1)]; rfl) | exact decide_eq_true (by omega), rfl, rfl⟩
    · go_enter Try.func100, Try.ntmps100
      go_wp2
      go_ret
      exact ⟨_, by first | (rw [decide_eq_true h1, decide_eq_false (by omega : ¬ z ≤ (n : Int) - 1)]; rfl) | exact decide_eq_false (by omega), rfl, rfl⟩
  · go_enter Try.func100, Try.ntmps100
    go_wp2
    go_ret
    exact ⟨_, by rw [decide_eq_false (by omega : ¬ -1 ≤ z), Bool.false_and], rfl, rfl⟩
set_option maxHeartbeats 2000000 in
theorem isDam_any (z0 z1 z2 z3 : Int) (w : World) : Calls Try.prog 102 #[.agg #[.int .i64 z0, .int .i64 z1, .int .i64 z2, .int .i64 z3]] w (SayB (damB z0 z1 z2 z3) w) := by
  obtain ⟨v, hv⟩ : ∃ v, damB z0 z1 z2 z3 = v := ⟨_, rfl⟩
  rw [hv]
  have HV := Lib.hid hv
  clear hv
  go_enter Try.func102, Try.ntmps102
  go_wp2_with fail
  refine (isUnits_any z0 _).mono ?_
  rintro e w' ⟨b1, h1, rfl, rfl⟩
  cases b1
  · have hv : v = false := by rw [← HV.out]; unfold damB inB; simp [h1]
    subst hv
    go_wp2_with fail
    go_ret
    refine ⟨_, ?_, rfl, bel1 _ _⟩
    first | rfl | (simp; done) | (simp; omega) | (symm; simp; omega)
  go_wp2_with fail
  refine (isUnits_any z2 _).mono ?_
  rintro e w' ⟨b2, h2, rfl, rfl⟩
  cases b2
  · have hv : v = false := by rw [← HV.out]; unfold damB inB; simp [h2]
    subst hv
    go_wp2_with fail
    go_ret
    refine ⟨_, ?_, rfl, bel1 _ _⟩
    first | rfl | (simp; done) | (simp; omega) | (symm; simp; omega)
  by_cases h3 : 0 ≤ z1
  rotate_left
  · have hv : v = false := by rw [← HV.out]; unfold damB inB; simp [h3]
    subst hv
    go_wp2_with fail
    go_ret
    refine ⟨_, ?_, rfl, bel1 _ _⟩
    first | rfl | (simp; done) | (simp; omega) | (symm; simp; omega)
  by_cases h4 : z1 ≤ z0
  rotate_left
  · have hv : v = false := by rw [← HV.out]; unfold damB inB; simp [h4]
    subst hv
    go_wp2_with fail
    go_ret
    refine ⟨_, ?_, rfl, bel1 _ _⟩
    first | rfl | (simp; done) | (simp; omega) | (symm; simp; omega)
  by_cases h5 : 0 ≤ z3
  rotate_left
  · have hv : v = false := by rw [← HV.out]; unfold damB inB; simp [h5]
    subst hv
    go_wp2_with fail
    go_ret
    refine ⟨_, ?_, rfl, bel1 _ _⟩
    first | rfl | (simp; done) | (simp; omega) | (symm; simp; omega)
  by_cases h6 : z3 ≤ z0
  rotate_left
  · have hv : v = false := by rw [← HV.out]; unfold damB inB; simp [h6]
    subst hv
    go_wp2_with fail
    go_ret
    refine ⟨_, ?_, rfl, bel1 _ _⟩
    first | rfl | (simp; done) | (simp; omega) | (symm; simp; omega)
  have hv : v = true := by rw [← HV.out]; unfold damB inB; simp [h1, h2, h3, h4, h5, h6]
  subst hv
  go_wp2_with fail
  go_ret
  refine ⟨_, ?_, rfl, bel1 _ _⟩
  first | rfl | (simp; done) | (simp; omega) | (symm; simp; omega)

theorem all_three (n : Nat) (p q r : Nat → Bool) : (List.range n).all (fun k => p k && q k && r k) = ((List.range n).all p && (List.range n).all q && (List.range n).all r) := by
  rw [Bool.eq_iff_iff]
  simp only [Bool.and_eq_true, List.all_eq_true]
  constructor
  · intro h; exact ⟨⟨fun x hx => (h x hx).1.1, fun x hx => (h x hx).1.2⟩, fun x hx => (h x hx).2⟩
  · intro h x hx; exact ⟨⟨h.1.1 x hx, h.1.2 x hx⟩, h.2 x hx⟩
def allDn (D : List Int) (n : Nat) : Bool := (List.range n).all fun k => downB n (D.getD k 0)
def allDm (M : List Int) (n : Nat) : Bool := (List.range n).all fun k => damB (M.getD (k * 4) 0) (M.getD (k * 4 + 1) 0) (M.getD (k * 4 + 2) 0) (M.getD (k * 4 + 3) 0)
def allWn (V : List Int) (n : Nat) : Bool := (List.range n).all fun k => unitB (V.getD k 0)
theorem allDn_range {D : List Int} (h : allDn D D.length = true) : ∀ j, j < D.length → -1 ≤ D.getD j 0 ∧ D.getD j 0 ≤ (D.length : Int) - 1 := by
  intro j hj
  unfold allDn at h
  rw [List.all_eq_true] at h
  have := h j (List.mem_range.2 hj)
  unfold downB at this
  simpa only [Bool.and_eq_true, decide_eq_true_eq] using this
theorem kstep {B : Nat} {w2 W w' : World} (hK : Below B w2 W) (hs : B ≤ w2.heap.size) (hb : Below W.heap.size W w') : Below B w2 w' := hK.trans (hb.mono (Nat.le_trans hs hK.size))
/-- What the program asks is what the document asks. -/
theorem rivB_prog {D M V : List Int} (h1 : 1 ≤ D.length) (h2 : D.length ≤ 12) (h3 : V.length = D.length) : rivB D M V D.length = (allDn D D.length && allDm M D.length && allWn V D.length && decide ((kahn D D.length).length = D.length)) := by
  have e : (List.range D.length).all (rowB D M V) = (allDn D D.length && allDm M D.length && allWn V D.length) := all_three _ _ _ _
  unfold rivB
  rw [decide_eq_true h1, decide_eq_true h2, decide_eq_true h3, e]
  simp only [decide_true, Bool.true_and]
  cases hd : allDn D D.length
  · simp
  · rw [kahn_iff fun j hj => by have := (allDn_range hd j hj).2; omega]
end Go.Proofs.Ytckmacnmmloemaa
