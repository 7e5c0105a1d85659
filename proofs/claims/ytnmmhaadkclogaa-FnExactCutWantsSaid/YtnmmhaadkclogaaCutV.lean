/- Cut wants: values. -/
import Derived.Test.YtnmmhaadkclogaaSetV
import Derived.Test.YtnmmhaadkclogaaOrdW
namespace Go.Proofs.Ytnmmhaadkclogaa
open Go.RowKit
set_option linter.unusedVariables false
set_option linter.unusedSimpArgs false
set_option maxRecDepth 100000
attribute [local irreducible] wpV wpList Code.wp

def cutC (x y : Int) : Bool := (decide (1 ≤ y) && decide (y ≤ 1000000000)) && (decide (0 ≤ x) && decide (x ≤ y))
def cutV (V : List Int) (x y : Int) (k n : Nat) : List Int := (List.range n).map fun j => if j < k then V.getD j 0 * x / y else V.getD j 0
def cutR (D M V : List Int) (n : Nat) (x y : Int) : RvR := if rivB D M V n && cutC x y then ⟨n, D, M, cutV V x y n n, true⟩ else failR
theorem cutV_length (V : List Int) (x y : Int) (k n : Nat) : (cutV V x y k n).length = n := by simp [cutV]
theorem cutV_zero {V : List Int} {n : Nat} (x y : Int) (h : V.length = n) : cutV V x y 0 n = V := by
  apply List.ext_getElem?
  intro i
  unfold cutV
  by_cases hi : i < n
  · rw [List.getElem?_map, List.getElem?_range hi, List.getElem?_eq_getElem (by omega)]
    simp only [Option.map_some, Nat.not_lt_zero, if_false, Option.some.injEq]
    rw [List.getD_eq_getElem?_getD, List.getElem?_eq_getElem (by omega)]; rfl
  · rw [List.getElem?_eq_none (by simp; omega), List.getElem?_eq_none (by omega)]
theorem cutV_at {V : List Int} {x y : Int} {k n : Nat} (h : k < n) : (cutV V x y k n).getD k 0 = V.getD k 0 := by
  rw [List.getD_eq_getElem?_getD]; unfold cutV; rw [List.getElem?_map, List.getElem?_range h]; simp
theorem cutV_set {V : List Int} {x y : Int} {k n : Nat} (h : k < n) : (cutV V x y k n).set k (V.getD k 0 * x / y) = cutV V x y (k + 1) n := by
  unfold cutV
  refine map_set_eq h ?_ fun j hj hne => ?_
  · rw [if_pos (Nat.lt_succ_self k)]
  · by_cases h9 : j < k
    · rw [if_pos h9, if_pos (by omega)]
    · rw [if_neg h9, if_neg (by omega)]
theorem cutR_len (D M V : List Int) (n : Nat) (x y : Int) : (cutR D M V n x y).D.length ≤ 1048576 ∧ (cutR D M V n x y).n ≤ 1048576 ∧ (cutR D M V n x y).V.length ≤ 1048576 := by
  unfold cutR
  cases h : rivB D M V n && cutC x y
  · exact failR_len
  · have h2 := riv_len (by rw [Bool.and_eq_true] at h; exact h.1)
    refine ⟨h2.1, h2.2.1, ?_⟩
    show (cutV V x y n n).length ≤ 1048576
    rw [cutV_length]; exact h2.2.1
theorem cut_prod {v x : Int} (h1 : 0 ≤ v) (h2 : v ≤ 1000000000) (h3 : 0 ≤ x) (h4 : x ≤ 1000000000) : 0 ≤ v * x ∧ v * x ≤ 1000000000000000000 :=
  ⟨Int.mul_nonneg h1 h3, Int.le_trans (Int.mul_le_mul h2 h4 h3 (by decide)) (by decide)⟩
end Go.Proofs.Ytnmmhaadkclogaa
