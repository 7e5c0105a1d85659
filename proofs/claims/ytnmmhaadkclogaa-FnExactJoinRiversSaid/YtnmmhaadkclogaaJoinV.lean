/- Joined rivers: values. -/
import Derived.Test.YtnmmhaadkclogaaSetV
import Derived.Test.YtnmmhaadkclogaaOrdW
namespace Go.Proofs.Ytnmmhaadkclogaa
open Go.RowKit
set_option linter.unusedVariables false
set_option linter.unusedSimpArgs false
set_option maxRecDepth 100000
attribute [local irreducible] wpV wpList Code.wp

def joinF (at_ : Int) (n : Nat) (z : Int) : Int := if z < 0 then at_ else z + n
def joinD (D E : List Int) (at_ : Int) (n k : Nat) : List Int := D ++ (List.range k).map fun j => joinF at_ n (E.getD j 0)
def joinR (D M V : List Int) (n : Nat) (E N U : List Int) (m : Nat) (at_ : Int) : RvR := if nodeB D M V n at_ && rivB E N U m then (if rivB (joinD D E at_ n m) (M ++ N) (V ++ U) (n + m) then ⟨n + m, joinD D E at_ n m, M ++ N, V ++ U, true⟩ else failR) else failR
theorem joinD_zero (D E : List Int) (at_ : Int) (n : Nat) : joinD D E at_ n 0 = D := by simp [joinD]
theorem joinD_succ (D E : List Int) (at_ : Int) (n k : Nat) : joinD D E at_ n (k + 1) = joinD D E at_ n k ++ [joinF at_ n (E.getD k 0)] := by unfold joinD; rw [List.range_succ, List.map_append, List.append_assoc]; rfl
theorem joinD_length (D E : List Int) (at_ : Int) (n k : Nat) : (joinD D E at_ n k).length = D.length + k := by simp [joinD]
/-- The program's row: nodes of E that are told anew, up to k. -/
def joinW (D E : List Int) (at_ : Int) (n k m : Nat) : List Int := D ++ (List.range m).map fun j => if j < k then joinF at_ n (E.getD j 0) else E.getD j 0
theorem joinW_length (D E : List Int) (at_ : Int) (n k m : Nat) : (joinW D E at_ n k m).length = D.length + m := by simp [joinW]
theorem joinW_zero {D E : List Int} (at_ : Int) (n : Nat) {m : Nat} (h : E.length = m) : joinW D E at_ n 0 m = D ++ E := by
  unfold joinW
  congr 1
  apply List.ext_getElem?
  intro i
  by_cases hi : i < m
  · rw [List.getElem?_map, List.getElem?_range hi, List.getElem?_eq_getElem (by omega)]
    simp only [Option.map_some, Nat.not_lt_zero, if_false, Option.some.injEq]
    rw [List.getD_eq_getElem?_getD, List.getElem?_eq_getElem (by omega)]; rfl
  · rw [List.getElem?_eq_none (by simp; omega), List.getElem?_eq_none (by omega)]
theorem joinW_all (D E : List Int) (at_ : Int) (n m : Nat) : joinW D E at_ n m m = joinD D E at_ n m := by
  unfold joinW joinD
  congr 1
  refine List.map_congr_left fun j hj => ?_
  rw [if_pos (List.mem_range.1 hj)]
theorem joinW_set {D E : List Int} {at_ : Int} {n k m : Nat} (hn : D.length = n) (h : k < m) : (joinW D E at_ n k m).set (n + k) (joinF at_ n (E.getD k 0)) = joinW D E at_ n (k + 1) m := by
  unfold joinW
  rw [List.set_append_right _ _ (by omega), show n + k - D.length = k by omega]
  congr 1
  refine map_set_eq h ?_ fun j hj hne => ?_
  · rw [if_pos (Nat.lt_succ_self k)]
  · by_cases h9 : j < k
    · rw [if_pos h9, if_pos (by omega)]
    · rw [if_neg h9, if_neg (by omega)]
theorem joinR_len (D M V : List Int) (n : Nat) (E N U : List Int) (m : Nat) (at_ : Int) : (joinR D M V n E N U m at_).D.length ≤ 1048576 ∧ (joinR D M V n E N U m at_).n ≤ 1048576 ∧ (joinR D M V n E N U m at_).V.length ≤ 1048576 := by
  unfold joinR
  cases h : nodeB D M V n at_ && rivB E N U m
  · exact failR_len
  · cases h2 : rivB (joinD D E at_ n m) (M ++ N) (V ++ U) (n + m)
    · exact failR_len
    · exact riv_len h2
end Go.Proofs.Ytnmmhaadkclogaa
