/- Whether a river has a node, and what lies on a way. -/
import Derived.Test.YtckmacnmmloemaaPath
import Derived.Test.YtckmacnmmloemaaRivS
import Derived.Test.YtckmacnmmloemaaValRI
import Derived.Deep.QuietTactic
namespace Go.Proofs.Ytckmacnmmloemaa
open Go.RowKit
set_option linter.unusedVariables false
set_option linter.unusedSimpArgs false
set_option maxRecDepth 100000
attribute [local irreducible] wpV wpList Code.wp
def nodeB (D M V : List Int) (n : Nat) (i : Int) : Bool := rivB D M V n && (decide (0 ≤ i) && decide (i ≤ (n : Int) - 1))
theorem nodeB_true {D M V : List Int} {n : Nat} {i : Int} (h : nodeB D M V n i = true) : rivB D M V n = true ∧ 0 ≤ i ∧ i ≤ (n : Int) - 1 := by
  unfold nodeB at h
  simpa [Bool.and_eq_true, decide_eq_true_eq] using h
theorem nodeB_no {D M V : List Int} {n : Nat} {i : Int} (h : rivB D M V n = false) : nodeB D M V n i = false := by unfold nodeB; rw [h, Bool.false_and]
set_option maxHeartbeats 4000000 in
theorem hasNode_i (a0 a1 a2 : Option Addr) (l0 n l2 c0 c1 c2 : Nat) (D M V : List Int) (i : Int) (w : World) (h0 : RowC w a0 (ic D)) (h1 : RowC w a1 (ic M)) (h2 : RowC w a2 (ic V)) (hD : D.length = l0) (hM : M.length = n * 4) (hV : V.length = l2) (hl : l0 ≤ 1048576 ∧ n ≤ 1048576 ∧ l2 ≤ 1048576) (hw : (Lit.int .i64 i).wf = true) :
    Calls Try.prog 74 #[.agg #[.slice a0 l0 c0, .slice a1 n c1, .slice a2 l2 c2], .int .i64 i] w (SayB (nodeB D M V n i) w) := by
  have hbl := bel1 w (.cells #[.slice a0 l0 c0, .slice a1 n c1, .slice a2 l2 c2] 29)
  have HC := Lib.hid (validRiver_i a0 a1 a2 l0 n l2 c0 c1 c2 D M V (w.alloc (.cells #[.slice a0 l0 c0, .slice a1 n c1, .slice a2 l2 c2] 29)) (h0.below hbl (Nat.le_refl _)) (h1.below hbl (Nat.le_refl _)) (h2.below hbl (Nat.le_refl _)) hD hM hV hl)
  have HX := Lib.hid (Bx.new w [.slice a0 l0 c0, .slice a1 n c1, .slice a2 l2 c2] 29)
  have HL := Lib.hid hbl
  have HD := Lib.hid hD
  obtain ⟨bb, hbb⟩ : ∃ b, rivB D M V n = b := ⟨_, rfl⟩
  rw [hbb] at HC
  have HBB := Lib.hid hbb
  obtain ⟨R, hR⟩ : ∃ R, nodeB D M V n i = R := ⟨_, rfl⟩
  rw [hR]
  have HR := Lib.hid hR
  obtain ⟨hl0, hl1, hl2⟩ := hl
  clear h0 h1 h2 hD hM hV hbb hbl hR
  go_enter Try.func74, Try.ntmps74
  go_wp2_with fail
  refine HC.out.mono ?_
  rintro e w1 ⟨b9, hb9, rfl, hb⟩
  subst hb9
  have HX1 := Lib.hid (HX.out.below hb HX.out.1)
  have HB1 : Hid (Below w.heap.size w w1) := Lib.hid (HL.out.trans (hb.mono (by simp)))
  clear HC HX hb HL
  have x0 := HX1.out.c 0 rfl
  cases bb
  · have HV : Hid (R = false) := Lib.hid (by rw [← HR.out]; exact nodeB_no HBB.out)
    go_wp2_with fail
    go_ret
    exact ⟨_, HV.out, rfl, HB1.out⟩
  · have HN : Hid (l0 = n) := Lib.hid (by have h9 := (rivB_true HBB.out).1; have h8 := HD.out; omega)
    have hRv : R = (decide (0 ≤ i) && decide (i < (l0 : Int))) := by
      rw [← HR.out]; unfold nodeB
      rw [HBB.out, Bool.true_and, HN.out]
      congr 1
      exact decide_eq_decide.2 (by omega)
    have HRv := Lib.hid hRv
    clear hRv
    by_cases h1 : 0 ≤ i
    · by_cases h2 : i < (l0 : Int)
      · go_wp2_with fail
        go_ret
        exact ⟨_, by rw [HRv.out]; simp [h1, h2], rfl, HB1.out⟩
      · go_wp2_with fail
        go_ret
        exact ⟨_, by rw [HRv.out]; simp [h1, h2], rfl, HB1.out⟩
    · go_wp2_with fail
      go_ret
      exact ⟨_, by rw [HRv.out, decide_eq_false (by omega), Bool.false_and], rfl, HB1.out⟩
set_option maxHeartbeats 4000000 in
theorem l06Has_any (pa : Nat) (a0 a1 a2 : Option Addr) (l0 n l2 c0 c1 c2 : Nat) (D M V : List Int) (i : Int) (w : World) (hpa : Bx w pa [.slice a0 l0 c0, .slice a1 n c1, .slice a2 l2 c2]) (h0 : RowC w a0 (ic D)) (h1 : RowC w a1 (ic M)) (h2 : RowC w a2 (ic V)) (hD : D.length = l0) (hM : M.length = n * 4) (hV : V.length = l2) (hl : l0 ≤ 1048576 ∧ n ≤ 1048576 ∧ l2 ≤ 1048576) (hw : (Lit.int .i64 i).wf = true) :
    Calls Try.prog 71 #[.pointer (some ⟨pa, 0, none⟩), .int .i64 i] w fun e w' => e = .returned (.bool (nodeB D M V n i)) ∧ ∃ m, w' = w.drewN m := by
  have HC := Lib.hid (l06Is_any pa a0 a1 a2 l0 n l2 c0 c1 c2 D M V w hpa h0 h1 h2 hD hM hV hl)
  have HX := Lib.hid hpa
  have HD := Lib.hid hD
  obtain ⟨bb, hbb⟩ : ∃ b, rivB D M V n = b := ⟨_, rfl⟩
  rw [hbb] at HC
  have HBB := Lib.hid hbb
  obtain ⟨R, hR⟩ : ∃ R, nodeB D M V n i = R := ⟨_, rfl⟩
  rw [hR]
  have HR := Lib.hid hR
  obtain ⟨hl0, hl1, hl2⟩ := hl
  clear h0 h1 h2 hD hM hV hbb hR hpa
  go_enter Try.func71, Try.ntmps71
  go_wp2_with fail
  refine HC.out.mono ?_
  rintro e w1 ⟨rfl, m, hw1⟩
  have HX1 : Hid (Bx w1 pa [.slice a0 l0 c0, .slice a1 n c1, .slice a2 l2 c2]) := Lib.hid (by rw [hw1]; exact HX.out.drewN m)
  have HW1 := Lib.hid hw1
  clear HC HX hw1
  have x0 := HX1.out.c 0 rfl
  cases bb
  · have HV : Hid (R = false) := Lib.hid (by rw [← HR.out]; exact nodeB_no HBB.out)
    go_wp2_with fail
    go_ret
    rw [HV.out]
    exact ⟨rfl, m, HW1.out⟩
  · have HN : Hid (l0 = n) := Lib.hid (by have h9 := (rivB_true HBB.out).1; have h8 := HD.out; omega)
    have HRv : Hid ((decide (0 ≤ i) && decide (i ≤ (l0 : Int) - 1)) = R) := Lib.hid (by rw [← HR.out]; unfold nodeB; rw [HBB.out, Bool.true_and, HN.out])
    have hl12 : 1 ≤ l0 := by have h9 := (rivB_true HBB.out).1; have h8 := HD.out; omega
    have hl9 : (0 : Int) ≤ (l0 : Int) - 1 := by omega
    go_wp2_with fail
    refine (inZ_any i 0 _ _).mono ?_
    rintro e w' ⟨b2, hb2, rfl, rfl⟩
    rw [HRv.out] at hb2
    subst hb2
    go_wp2_with fail
    go_ret
    exact ⟨by cases R <;> rfl, m, HW1.out⟩
theorem walkD_add (D : List Int) : ∀ (k j : Nat) (z : Int), walkD D k (walkD D j z) = walkD D (j + k) z
  | 0, j, z => rfl
  | k + 1, j, z => by rw [walkD_succ, walkD_add D k j z, ← walkD_succ]; rfl
theorem IsWay.same {D : List Int} {i m q : Nat} (h : IsWay D i m) (g : IsWay D i q) : m = q := by
  rcases Nat.lt_trichotomy m q with h9 | h9 | h9
  · have h1 := g.on m h9; have h2 := h.out; omega
  · exact h9
  · have h1 := h.on q h9; have h2 := g.out; omega
/-- How many nodes are left on a way. -/
def restL (D : List Int) (z : Int) : Nat := if z < 0 then 0 else wayLen D z.toNat
theorem restL_eq {D : List Int} {i m j : Nat} (h : IsWay D i m) (hj : j ≤ m) : restL D (walkD D j (i : Int)) = m - j := by
  unfold restL
  by_cases hjm : j < m
  · have hz := h.on j hjm
    rw [if_neg (by omega)]
    obtain ⟨x, hx⟩ : ∃ x : Nat, walkD D j (i : Int) = (x : Int) := ⟨(walkD D j (i : Int)).toNat, by omega⟩
    rw [hx, Int.toNat_natCast]
    have hw : IsWay D x (m - j) := by
      refine ⟨?_, fun k hk => ?_, by have := h.le; omega, by omega⟩
      · rw [← hx, walkD_add, show j + (m - j) = m by omega]; exact h.out
      · rw [← hx, walkD_add]; exact h.on _ (by omega)
    exact (wayLen_is (walkD_le hw.out hw.le)).same hw
  · obtain rfl : j = m := by omega
    rw [if_pos h.out]; omega
def zOf : Value → Int
  | .int _ z => z
  | _ => 0
theorem pathP_contains {D : List Int} {m i j : Nat} {v : Int} (hj : j < m) (h : walkD D j (i : Int) = v) : (pathP D m i).contains v = true := by
  rw [List.contains_iff_mem]
  unfold pathP
  rw [List.mem_map]
  exact ⟨j, List.mem_range.2 hj, h⟩
theorem pathP_contains_no {D : List Int} {m i : Nat} {v : Int} (h : ∀ j, j < m → walkD D j (i : Int) ≠ v) : (pathP D m i).contains v = false := by
  rw [← Bool.not_eq_true, List.contains_iff_mem]
  unfold pathP
  rw [List.mem_map]
  rintro ⟨j, hj, hv⟩
  exact h j (List.mem_range.1 hj) hv
end Go.Proofs.Ytckmacnmmloemaa
