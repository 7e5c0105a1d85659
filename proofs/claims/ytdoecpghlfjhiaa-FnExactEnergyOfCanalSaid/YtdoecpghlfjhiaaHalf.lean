/- The half of a number, as a quotient and as a product; what a number is without its sign: plain facts on 32-bit numbers. -/
import Derived.Test.YtdoecpghlfjhiaaFk
import Derived.Test.YtdoecpghlfjhiaaMono
import Derived.Test.YtdoecpghlfjhiaaQuo
namespace Go.Proofs.Ytdoecpghlfjhiaa

theorem half_bits (x : Nat) : floatBits .quo .f32 x 1073741824 = floatBits .mul .f32 1056964608 x := by
  have htwo : FloatKind.f32.decode 1073741824 = .number false 8388608 (-22) := by decide +kernel
  have hhalf : FloatKind.f32.decode 1056964608 = .number false 8388608 (-24) := by decide +kernel
  have hq : floatBits .quo .f32 x 1073741824 = ((FloatKind.f32.decode x).quotient 25 (FloatKind.f32.decode 1073741824)).map Ieee.single.write := rfl
  have hm : floatBits .mul .f32 1056964608 x = ((FloatKind.f32.decode 1056964608).product (FloatKind.f32.decode x)).map Ieee.single.write := rfl
  rw [hq, hm, htwo, hhalf]
  cases hd : FloatKind.f32.decode x with
  | nan s f => rfl
  | infinity s => simp [Ieee.Datum.quotient, Ieee.Datum.product]
  | number s m e =>
    have hp := single_parts hd
    obtain ⟨k, rfl⟩ : ∃ k : Nat, e = -149 + k := ⟨(e + 149).toNat, by omega⟩
    have hl2 : Nat.log2 8388608 = 23 := by decide +kernel
    have hml : m.log2 ≤ 23 := by
      by_cases h0 : m = 0
      · subst h0; decide
      · have : m.log2 < 24 := (Nat.log2_lt h0).2 hp.1
        omega
    simp only [Ieee.Datum.quotient, Ieee.Datum.product, hl2]
    rw [if_neg (by decide)]
    simp only [Bool.xor_false, Bool.false_xor]
    obtain ⟨t, ht⟩ : ∃ t, 25 + 23 - m.log2 = t + 23 := ⟨25 - m.log2, by omega⟩
    rw [ht]
    have e1 : m <<< (t + 23) = (m * 2 ^ t) * 8388608 := by rw [Nat.shiftLeft_eq, Nat.pow_add, ← Nat.mul_assoc]
    rw [e1, Nat.mul_div_cancel _ (by decide), Nat.mul_mod_left]
    simp only [Option.map_some, Ieee.Format.write]
    have e3 : ((0 : Nat) != 0).toNat = 0 := rfl
    rw [e3, Nat.add_zero, nearest_gen s (2 * (m * 2 ^ t)) _ k (t + 2) (by omega), nearest_gen s (8388608 * m) _ k 24 (by omega)]
    have f1 : 2 * (m * 2 ^ t) * 2 ^ k = m * 2 ^ k * 2 ^ (t + 1) := by
      rw [Nat.pow_succ 2 t, Nat.mul_comm 2, Nat.mul_assoc m, Nat.mul_right_comm]
    have f2 : 8388608 * m * 2 ^ k = m * 2 ^ k * 2 ^ 23 := by
      rw [show (2 : Nat) ^ 23 = 8388608 by decide, Nat.mul_comm 8388608, Nat.mul_right_comm]
    have g1 := Q_scale (m * 2 ^ k) 1 (t + 1)
    have g2 := Q_scale (m * 2 ^ k) 1 23
    rw [f1, f2, show t + 2 = 1 + (t + 1) by omega, show (24 : Nat) = 1 + 23 by decide, g1, g2]

theorem halfO (X : Option Nat) : fop .quo .f32 X (some 1073741824) = fop .mul .f32 (some 1056964608) X := by
  cases X with
  | none => rfl
  | some x => exact half_bits x
end Go.Proofs.Ytdoecpghlfjhiaa
