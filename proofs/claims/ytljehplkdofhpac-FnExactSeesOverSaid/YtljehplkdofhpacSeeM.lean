/- How one sees over a hill: lines of the program and of the model. -/
import Derived.Test.YtljehplkdofhpacSeeS
import Derived.Test.YtljehplkdofhpacLineC
namespace Go.Proofs.Ytljehplkdofhpac
open Go.RowKit
set_option linter.unusedVariables false
set_option linter.unusedSimpArgs false
set_option maxRecDepth 100000
attribute [local irreducible] wpV wpList Code.wp

theorem divmod_eq (wn i : Nat) : i / wn * wn + i % wn = i := by rw [Nat.mul_comm]; exact Nat.div_add_mod i wn
theorem row_lt {wn hn i : Nat} {zs : List Nat} (hw0 : 0 < wn) (hl : zs.length = wn * hn) (hi : i < zs.length) : i / wn < hn := by
  rw [hl] at hi
  exact Nat.div_lt_of_lt_mul hi
theorem same_row {wn i k : Nat} (hd : i / wn = k / wn) : (i : Int) - (k : Int) = ((i % wn : Nat) : Int) - ((k % wn : Nat) : Int) := by
  have h1 := divmod_eq wn i
  have h2 := divmod_eq wn k
  rw [hd] at h1
  omega
theorem same_col {wn i k : Nat} (hm : i % wn = k % wn) : (i : Int) - (k : Int) = ((i / wn * wn : Nat) : Int) - ((k / wn * wn : Nat) : Int) := by
  have h1 := divmod_eq wn i
  have h2 := divmod_eq wn k
  omega
theorem row_up {wn hn i k : Nat} {zs : List Nat} {X : Option Nat} (hw0 : 0 < wn) (hd : i / wn = k / wn) (hlt : i < k) :
    i % wn < k % wn ∧ see ((rowL wn zs (i / wn)).getD (i % wn) 0) ((rowL wn zs (i / wn)).getD (k % wn) 0) (fun n => (rowL wn zs (i / wn)).getD (i % wn + n) 0) (k % wn - i % wn) X = seeAt wn zs i k X := by
  have hs := same_row hd
  have h1 := divmod_eq wn i
  have h2 := divmod_eq wn k
  have m1 := Nat.mod_lt i hw0
  have m2 := Nat.mod_lt k hw0
  refine ⟨by omega, ?_⟩
  rw [rowL_get m1, rowL_get m2, h1, show i / wn * wn + k % wn = k by rw [hd]; exact h2]
  unfold seeAt lineV
  rw [if_neg (by omega : ¬ i = k), if_pos hd, if_pos hlt]
  show see _ _ _ _ X = (if true = true then see _ _ (fun n : Nat => zs.getD ((i : Int) + (n : Int) * 1).toNat 0) ((k - i : Nat) : Int).toNat X else _)
  rw [if_pos rfl, Int.toNat_natCast, show k % wn - i % wn = k - i by omega]
  refine see_congr fun n hn1 hn2 => ?_
  rw [rowL_get (by omega), show ((i : Int) + (n : Int) * 1).toNat = i / wn * wn + (i % wn + n) by omega]
theorem row_down {wn hn i k : Nat} {zs : List Nat} {X : Option Nat} (hw0 : 0 < wn) (hd : i / wn = k / wn) (hlt : k < i) :
    k % wn < i % wn ∧ see ((rowL wn zs (i / wn)).getD (i % wn) 0) ((rowL wn zs (i / wn)).getD (k % wn) 0) (fun n => (rowL wn zs (i / wn)).getD (i % wn - n) 0) (i % wn - k % wn) X = seeAt wn zs i k X := by
  have hs := same_row hd
  have h1 := divmod_eq wn i
  have h2 := divmod_eq wn k
  have m1 := Nat.mod_lt i hw0
  have m2 := Nat.mod_lt k hw0
  refine ⟨by omega, ?_⟩
  rw [rowL_get m1, rowL_get m2, h1, show i / wn * wn + k % wn = k by rw [hd]; exact h2]
  unfold seeAt lineV
  rw [if_neg (by omega : ¬ i = k), if_pos hd, if_neg (by omega : ¬ i < k)]
  show see _ _ _ _ X = (if true = true then see _ _ (fun n : Nat => zs.getD ((i : Int) + (n : Int) * (-1)).toNat 0) ((i - k : Nat) : Int).toNat X else _)
  rw [if_pos rfl, Int.toNat_natCast, show i % wn - k % wn = i - k by omega]
  refine see_congr fun n hn1 hn2 => ?_
  rw [rowL_get (by omega), show ((i : Int) + (n : Int) * (-1)).toNat = i / wn * wn + (i % wn - n) by omega]
theorem col_far {wn i k : Nat} (hw0 : 0 < wn) (hm : i % wn = k % wn) (hlt : i < k) : (k - i) / wn = k / wn - i / wn ∧ i / wn < k / wn := by
  have h1 := divmod_eq wn i
  have h2 := divmod_eq wn k
  have h3 : k - i = (k / wn - i / wn) * wn := by rw [Nat.sub_mul]; omega
  have h4 : i / wn < k / wn := by
    rcases Nat.lt_or_ge (i / wn) (k / wn) with h | h
    · exact h
    · have := Nat.mul_le_mul_right wn h; omega
  exact ⟨by rw [h3, Nat.mul_div_cancel _ hw0], h4⟩
theorem col_up {wn hn i k : Nat} {zs : List Nat} {X : Option Nat} (hw0 : 0 < wn) (hl : zs.length = wn * hn) (hi : i < zs.length) (hk : k < zs.length) (hd : ¬ i / wn = k / wn) (hm : i % wn = k % wn) (hlt : i < k) :
    i / wn < k / wn ∧ see ((colL wn hn zs (i % wn)).getD (i / wn) 0) ((colL wn hn zs (i % wn)).getD (k / wn) 0) (fun n => (colL wn hn zs (i % wn)).getD (i / wn + n) 0) (k / wn - i / wn) X = seeAt wn zs i k X := by
  have h1 := divmod_eq wn i
  have h2 := divmod_eq wn k
  have r1 := row_lt hw0 hl hi
  have r2 := row_lt hw0 hl hk
  obtain ⟨hf, hfl⟩ := col_far hw0 hm hlt
  refine ⟨hfl, ?_⟩
  rw [colL_get r1, colL_get r2, h1, show k / wn * wn + i % wn = k by rw [hm]; exact h2]
  unfold seeAt lineV
  rw [if_neg (by omega : ¬ i = k), if_neg hd, if_neg (not_not_intro hm), if_pos hlt]
  show see _ _ _ _ X = (if true = true then see _ _ (fun n : Nat => zs.getD ((i : Int) + (n : Int) * (wn : Int)).toNat 0) (((k - i) / wn : Nat) : Int).toNat X else _)
  rw [if_pos rfl, Int.toNat_natCast, hf]
  refine see_congr fun n hn1 hn2 => ?_
  rw [colL_get (by omega)]
  have h5 : (n : Int) * (wn : Int) = ((n * wn : Nat) : Int) := (Int.natCast_mul _ _).symm
  rw [h5, show ((i : Int) + ((n * wn : Nat) : Int)).toNat = (i / wn + n) * wn + i % wn by rw [Nat.add_mul]; omega]
theorem col_down {wn hn i k : Nat} {zs : List Nat} {X : Option Nat} (hw0 : 0 < wn) (hl : zs.length = wn * hn) (hi : i < zs.length) (hk : k < zs.length) (hd : ¬ i / wn = k / wn) (hm : i % wn = k % wn) (hlt : k < i) :
    k / wn < i / wn ∧ see ((colL wn hn zs (i % wn)).getD (i / wn) 0) ((colL wn hn zs (i % wn)).getD (k / wn) 0) (fun n => (colL wn hn zs (i % wn)).getD (i / wn - n) 0) (i / wn - k / wn) X = seeAt wn zs i k X := by
  have h1 := divmod_eq wn i
  have h2 := divmod_eq wn k
  have r1 := row_lt hw0 hl hi
  have r2 := row_lt hw0 hl hk
  obtain ⟨hf, hfl⟩ := col_far hw0 hm.symm hlt
  refine ⟨hfl, ?_⟩
  rw [colL_get r1, colL_get r2, h1, show k / wn * wn + i % wn = k by rw [hm]; exact h2]
  unfold seeAt lineV
  rw [if_neg (by omega : ¬ i = k), if_neg hd, if_neg (not_not_intro hm), if_neg (by omega : ¬ i < k)]
  show see _ _ _ _ X = (if true = true then see _ _ (fun n : Nat => zs.getD ((i : Int) + (n : Int) * -(wn : Int)).toNat 0) (((i - k) / wn : Nat) : Int).toNat X else _)
  rw [if_pos rfl, Int.toNat_natCast, hf]
  refine see_congr fun n hn1 hn2 => ?_
  rw [colL_get (Nat.lt_of_le_of_lt (Nat.sub_le _ _) r1)]
  have h5 : (n : Int) * -(wn : Int) = -((n * wn : Nat) : Int) := by rw [Int.mul_neg]; exact congrArg _ (Int.natCast_mul _ _).symm
  have h6 : n * wn ≤ i / wn * wn := Nat.mul_le_mul_right _ (Nat.le_trans hn2 (Nat.le_trans (Nat.sub_le _ _) (Nat.sub_le _ _)))
  rw [h5, show ((i : Int) + -((n * wn : Nat) : Int)).toNat = (i / wn - n) * wn + i % wn by rw [Nat.sub_mul]; omega]

end Go.Proofs.Ytljehplkdofhpac
