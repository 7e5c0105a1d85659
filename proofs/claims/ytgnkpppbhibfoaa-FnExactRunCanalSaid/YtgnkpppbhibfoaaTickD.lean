/- A tick of a canal: plain facts. -/
import Derived.Test.YtgnkpppbhibfoaaLakeD
import Derived.Test.YtgnkpppbhibfoaaRegionT
namespace Go.Proofs.Ytgnkpppbhibfoaa
open Go.RowKit
set_option linter.unusedVariables false
set_option linter.unusedSimpArgs false
set_option maxRecDepth 100000
attribute [local irreducible] wpV wpList Code.wp

def pullO (T N1 : Option Nat) : Option Nat := fop .mul .f32 (fop .mul .f32 T (some 1092416963)) N1
def flO (T N0 N1 N2 G H B : Option Nat) : Option Nat := fop .quo .f32 (fop .sub .f32 G (fop .mul .f32 (pullO T N1) (fop .quo .f32 (fop .sub .f32 H B) N0))) (fop .add .f32 (some 1065353216) (fop .mul .f32 T N2))
def befO (S : List Nat) (X : Option Nat) : Nat → Option Nat
  | 0 => X
  | k + 1 => some (S.getD k 0)
def newF (N0 N1 N2 : Option Nat) (S O : List Nat) (X T : Option Nat) (k : Nat) : Option Nat := flO T N0 N1 N2 (some (O.getD k 0)) (some (S.getD k 0)) (befO S X k)
def aftO (N0 N1 N2 : Option Nat) (S O : List Nat) (X T : Option Nat) (k : Nat) : Option Nat := if k + 1 < S.length then newF N0 N1 N2 S O X T (k + 1) else some 0
def newH (N0 N1 N2 : Option Nat) (S O : List Nat) (X T : Option Nat) (k : Nat) : Option Nat := fop .add .f32 (some (S.getD k 0)) (fop .mul .f32 T (fop .quo .f32 (fop .sub .f32 (newF N0 N1 N2 S O X T k) (aftO N0 N1 N2 S O X T k)) N0))
/-- The first k words of a row are what a function says, the others as they were. -/
def Upto (f : Nat → Option Nat) (k : Nat) (O Z : List Nat) : Prop := Z.length = O.length ∧ (∀ j, j < k → Is32 (f j) (Z.getD j 0)) ∧ ∀ j, k ≤ j → Z.getD j 0 = O.getD j 0
theorem Upto.zero (f : Nat → Option Nat) (O : List Nat) : Upto f 0 O O := ⟨rfl, fun j h => by omega, fun _ _ => rfl⟩
theorem Upto.next {f : Nat → Option Nat} {k z : Nat} {O Z : List Nat} (h : Upto f k O Z) (hk : k < O.length) (hz : Is32 (f k) z) : Upto f (k + 1) O (Z.set k z) := by
  obtain ⟨h1, h2, h3⟩ := h
  refine ⟨by rw [List.length_set]; exact h1, fun j hj => ?_, fun j hj => ?_⟩
  · by_cases e : j = k
    · subst e
      have e9 : (Z.set j z).getD j 0 = z := by rw [List.getD_eq_getElem?_getD, List.getElem?_set_self (by omega)]; rfl
      rw [e9]; exact hz
    · have e9 : (Z.set k z).getD j 0 = Z.getD j 0 := by rw [List.getD_eq_getElem?_getD, List.getElem?_set_ne (fun h => e h.symm), ← List.getD_eq_getElem?_getD]
      rw [e9]; exact h2 j (by omega)
  · have e9 : (Z.set k z).getD j 0 = Z.getD j 0 := by rw [List.getD_eq_getElem?_getD, List.getElem?_set_ne (by omega), ← List.getD_eq_getElem?_getD]
    rw [e9]; exact h3 j (by omega)
theorem Upto.lt {f : Nat → Option Nat} {n : Nat} {O Z : List Nat} (h : Upto f n O Z) (hn : n = O.length) : ∀ z ∈ Z, z < 4294967296 := by
  intro z hz
  obtain ⟨i, hi, rfl⟩ := List.getElem_of_mem hz
  have h9 := (h.2.1 i (by have := h.1; omega)).2
  rw [List.getD_eq_getElem?_getD, List.getElem?_eq_getElem hi] at h9
  exact h9

end Go.Proofs.Ytgnkpppbhibfoaa
