/- The number with the other sign; products and quotients of what is not finite. -/
import Derived.Test.YtdmcjloaommnpaaFk
import Derived.Test.YtdmcjloaommnpaaQuo
import Derived.Test.YtdmcjloaommnpaaFinite
namespace Go.Proofs.Ytdmcjloaommnpaa
open Go.RowKit
set_option linter.unusedVariables false
set_option maxRecDepth 100000

@[go_sem] theorem unary_neg_f (k : FloatKind) (b : Nat) : Op.unary .neg (.float k b) = pure (.float k (Op.negFloat k b)) := rfl
/-- A number with the other sign. -/
def negO (X : Option Nat) : Option Nat := X.map (Op.negFloat .f32)
theorem Is32.neg {X : Option Nat} {x : Nat} (h : Is32 X x) : Is32 (negO X) (Op.negFloat .f32 x) := by
  have e : Op.negFloat .f32 x = x ^^^ 2 ^ 31 := rfl
  have hb : x < 2 ^ 32 := h.2
  have hlt : Op.negFloat .f32 x < 4294967296 := by rw [e]; exact Nat.xor_lt_two_pow hb (by decide)
  cases X with
  | some b => obtain rfl := h.eq; exact Is32.c hlt
  | none =>
    refine ⟨⟨?_, hlt⟩, hlt⟩
    have h2 := h.1.1
    rw [nan32_iff, decide_eq_true_eq] at h2 ⊢
    have hm : (x ^^^ 2 ^ 31) % 2147483648 = x % 2147483648 := by
      rw [show (2147483648 : Nat) = 2 ^ 31 from rfl, Nat.xor_mod_two_pow, Nat.mod_self, Nat.xor_zero]
    rw [e, hm]
    exact h2

theorem inf_not_fin (s : Bool) : fin32o (some (FloatKind.f32.format.write (.infinity s))) = false := by cases s <;> decide +kernel
theorem mul_not_fin {X : Option Nat} (Y : Option Nat) (h : fin32o X = false) : fin32o (fop .mul .f32 X Y) = false := by
  cases X with
  | none => rfl
  | some x =>
    cases Y with
    | none => rfl
    | some y =>
      show fin32o (floatBits .mul .f32 x y) = false
      have hd : floatBits .mul .f32 x y = ((FloatKind.f32.decode x).product (FloatKind.f32.decode y)).map FloatKind.f32.format.write := rfl
      rw [hd]
      rcases not_fin32 (show fin32' x = false from h) with ⟨s, hs⟩ | hs
      · rw [hs]
        cases hy : FloatKind.f32.decode y with
        | nan t f => rfl
        | infinity t => exact inf_not_fin _
        | number t m e =>
          simp only [Ieee.Datum.product]
          split
          · rfl
          · exact inf_not_fin _
      · obtain ⟨s, f, hsf⟩ : ∃ s f, FloatKind.f32.decode x = .nan s f := by
          cases hx : FloatKind.f32.decode x with
          | nan s f => exact ⟨s, f, rfl⟩
          | infinity s => rw [hx] at hs; cases hs
          | number s m e => rw [hx] at hs; cases hs
        rw [hsf]
        rfl
theorem quo_not_fin {X : Option Nat} (Y : Option Nat) (h : fin32o X = false) : fin32o (fop .quo .f32 X Y) = false := by
  cases X with
  | none => rfl
  | some x =>
    cases Y with
    | none => rfl
    | some y =>
      show fin32o (floatBits .quo .f32 x y) = false
      have hd : floatBits .quo .f32 x y = ((FloatKind.f32.decode x).quotient (FloatKind.f32.format.fractionBits + 2) (FloatKind.f32.decode y)).map FloatKind.f32.format.write := rfl
      rw [hd]
      rcases not_fin32 (show fin32' x = false from h) with ⟨s, hs⟩ | hs
      · rw [hs]
        cases hy : FloatKind.f32.decode y with
        | nan t f => rfl
        | infinity t => rfl
        | number t m e => exact inf_not_fin _
      · obtain ⟨s, f, hsf⟩ : ∃ s f, FloatKind.f32.decode x = .nan s f := by
          cases hx : FloatKind.f32.decode x with
          | nan s f => exact ⟨s, f, rfl⟩
          | infinity s => rw [hx] at hs; cases hs
          | number s m e => rw [hx] at hs; cases hs
        rw [hsf]
        rfl
theorem add_no_fin {X : Option Nat} (Y : Option Nat) (h : fin32o X = false) : fin32o (fop .add .f32 X Y) = false := by
  cases X with
  | none => rfl
  | some x =>
    cases Y with
    | none => rfl
    | some y =>
      show fin32o (floatBits .add .f32 x y) = false
      cases hz : floatBits .add .f32 x y with
      | none => rfl
      | some z => exact add_not_fin x y z (show fin32' x = false from h) (by rw [hz]; exact Rp.refl _ _)
end Go.Proofs.Ytdmcjloaommnpaa
