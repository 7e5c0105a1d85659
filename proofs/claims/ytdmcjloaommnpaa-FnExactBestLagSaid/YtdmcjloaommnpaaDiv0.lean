/- Quotients by 0 are not finite, nor is what is less something not finite. -/
import Derived.Test.YtdmcjloaommnpaaNegO
import Derived.Test.YtdmcjloaommnpaaMono
import Derived.Test.YtdmcjloaommnpaaRainA
namespace Go.Proofs.Ytdmcjloaommnpaa
open Go.RowKit
set_option linter.unusedVariables false
set_option maxRecDepth 100000

theorem zero_word {y : Nat} (hy : y < 4294967296) (h : FloatKind.f32.format.order y 0 = some .eq) : y = 0 ∨ y = 2147483648 := by
  by_cases hn : NN y
  · have h2 := nn_eq hn (show NN 0 from .inl (by decide))
    rw [h] at h2
    have h3 : rg y = rg 0 := of_decide_eq_true (by rw [← h2]; rfl)
    have h4 : y % 2147483648 = 0 := h3
    omega
  · rcases not_nn hy hn with h2 | h2 <;> rw [h2] at h <;> cases h
theorem quo_zero_word (x y : Nat) (h : y = 0 ∨ y = 2147483648) : fin32o (floatBits .quo .f32 x y) = false := by
  have hd : floatBits .quo .f32 x y = ((FloatKind.f32.decode x).quotient (FloatKind.f32.format.fractionBits + 2) (FloatKind.f32.decode y)).map FloatKind.f32.format.write := rfl
  obtain ⟨s, e, hs⟩ : ∃ s e, FloatKind.f32.decode y = .number s 0 e := by
    rcases h with rfl | rfl
    · exact ⟨_, _, rfl⟩
    · exact ⟨_, _, rfl⟩
  rw [hd, hs]
  cases hx : FloatKind.f32.decode x with
  | nan t f => rfl
  | infinity t => exact inf_not_fin _
  | number t m e => 
    simp only [Ieee.Datum.quotient]
    split
    · split
      · rfl
      · exact inf_not_fin _
    · exfalso; simp_all
theorem quo_zero {X Y : Option Nat} {y : Nat} (hy : Is32 Y y) (h : fcmp .eql .f32 Y (some 0) = true) : fin32o (fop .quo .f32 X Y) = false := by
  cases X with
  | none => rfl
  | some x =>
    cases Y with
    | none => rfl
    | some b =>
      obtain rfl := hy.eq
      have h1 : (FloatKind.f32.format.order y 0 == some .eq) = true := h
      exact quo_zero_word x y (zero_word hy.2 (by simpa using h1))
theorem sub_no_fin_r (X : Option Nat) {Y : Option Nat} (h : fin32o Y = false) : fin32o (fop .sub .f32 X Y) = false := by
  cases X with
  | none => rfl
  | some x =>
    cases Y with
    | none => rfl
    | some y =>
      show fin32o (floatBits .sub .f32 x y) = false
      have hd : floatBits .sub .f32 x y = ((FloatKind.f32.decode x).sum (FloatKind.f32.decode y).opposite).map FloatKind.f32.format.write := rfl
      rw [hd]
      rcases not_fin32 (show fin32' y = false from h) with ⟨s, hs⟩ | hs
      · rw [hs]
        cases hy : FloatKind.f32.decode x with
        | nan t f => rfl
        | infinity t =>
          simp only [Ieee.Datum.opposite, Ieee.Datum.sum]
          split
          · exact inf_not_fin _
          · rfl
        | number t m e => exact inf_not_fin _
      · obtain ⟨s, f, hsf⟩ : ∃ s f, FloatKind.f32.decode y = .nan s f := by
          cases hx : FloatKind.f32.decode y with
          | nan s f => exact ⟨s, f, rfl⟩
          | infinity s => rw [hx] at hs; cases hs
          | number s m e => rw [hx] at hs; cases hs
        rw [hsf]
        cases hy : FloatKind.f32.decode x <;> rfl
end Go.Proofs.Ytdmcjloaommnpaa
