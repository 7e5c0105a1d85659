/- Sums and products that are finite have finite parts: plain facts on numbers. -/
import Derived.Test.YtfdcfalkidcdnabMono
import Derived.Test.YtfdcfalkidcdnabRainA
namespace Go.Proofs.Ytfdcfalkidcdnab
set_option linter.unusedVariables false
set_option maxRecDepth 100000

theorem inf_write : Ieee.single.write (.infinity false) = 2139095040 := by decide +kernel
theorem nn_inf {x : Nat} (h : NN x) (h' : ¬ FN x) : x = 2139095040 := by unfold NN at h; unfold FN at h'; omega
theorem add_inf {x : Nat} (hx : FN x) : floatBits .add .f32 x 2139095040 = some 2139095040 := by
  obtain ⟨s, m, k, h1, _⟩ := fn_read hx
  have hd : floatBits .add .f32 x 2139095040 = ((FloatKind.f32.decode x).sum (FloatKind.f32.decode 2139095040)).map Ieee.single.write := rfl
  rw [hd, h1, decode_inf]
  show some (Ieee.single.write (.infinity false)) = _
  rw [inf_write]
/-- A sum that is finite has finite parts. -/
theorem addN {x y : Nat} (hx : FN x) (hy : NN y) : ∃ z, floatBits .add .f32 x y = some z ∧ NN z ∧ (rg z < 2139095040 → FN y) := by
  by_cases h : FN y
  · obtain ⟨z, h1, h2, _⟩ := add_fn hx h
    exact ⟨z, h1, h2, fun _ => h⟩
  · obtain rfl := nn_inf hy h
    exact ⟨_, add_inf hx, .inl (Nat.le_refl _), fun h => absurd h (by decide)⟩
theorem pos_read {x : Nat} (hx : FN x) (h0 : 0 < rg x) : ∃ m k : Nat, FloatKind.f32.decode x = .number false m (-149 + k) ∧ m ≠ 0 := by
  obtain ⟨s, m, k, h1, h2, h3, _⟩ := fn_read hx
  have hm := mag_pos h0 hx.rlt
  have hm0 : m ≠ 0 := by intro h; rw [h, Nat.zero_mul] at h2; omega
  cases s
  · exact ⟨m, k, h1, hm0⟩
  · exact absurd (h3 rfl) hm0
theorem mul_inf_l {y : Nat} (hy : FN y) (h0 : 0 < rg y) : floatBits .mul .f32 2139095040 y = some 2139095040 := by
  obtain ⟨m, k, h1, hm⟩ := pos_read hy h0
  have hd : floatBits .mul .f32 2139095040 y = ((FloatKind.f32.decode 2139095040).product (FloatKind.f32.decode y)).map Ieee.single.write := rfl
  rw [hd, h1, decode_inf]
  simp only [Ieee.Datum.product, if_neg hm, Option.map_some, Bool.xor_false, inf_write]
theorem mul_inf_r {y : Nat} (hy : FN y) (h0 : 0 < rg y) : floatBits .mul .f32 y 2139095040 = some 2139095040 := by
  obtain ⟨m, k, h1, hm⟩ := pos_read hy h0
  have hd : floatBits .mul .f32 y 2139095040 = ((FloatKind.f32.decode y).product (FloatKind.f32.decode 2139095040)).map Ieee.single.write := rfl
  rw [hd, h1, decode_inf]
  simp only [Ieee.Datum.product, if_neg hm, Option.map_some, Bool.xor_false, inf_write]
theorem mul_inf_2 : floatBits .mul .f32 2139095040 2139095040 = some 2139095040 := by decide +kernel
/-- A product of what is above 0 that is finite has finite parts. -/
theorem mulN {x y : Nat} (hx : NN x) (hy : NN y) (x0 : 0 < rg x) (y0 : 0 < rg y) : ∃ z, floatBits .mul .f32 x y = some z ∧ NN z ∧ (rg z < 2139095040 → FN x ∧ FN y) := by
  by_cases h : FN x
  · by_cases h' : FN y
    · obtain ⟨z, h1, h2, _⟩ := mul_fn h h'
      exact ⟨z, h1, h2, fun _ => ⟨h, h'⟩⟩
    · obtain rfl := nn_inf hy h'
      exact ⟨_, mul_inf_r h x0, .inl (Nat.le_refl _), fun h => absurd h (by decide)⟩
  · obtain rfl := nn_inf hx h
    by_cases h' : FN y
    · exact ⟨_, mul_inf_l h' y0, .inl (Nat.le_refl _), fun h => absurd h (by decide)⟩
    · obtain rfl := nn_inf hy h'
      exact ⟨_, mul_inf_2, .inl (Nat.le_refl _), fun h => absurd h (by decide)⟩
theorem mulN1 {x y : Nat} (hx : FN x) (hy : NN y) (x0 : 0 < rg x) : ∃ z, floatBits .mul .f32 x y = some z ∧ NN z ∧ (rg z < 2139095040 → FN y) := by
  by_cases h' : FN y
  · obtain ⟨z, h1, h2, _⟩ := mul_fn hx h'
    exact ⟨z, h1, h2, fun _ => h'⟩
  · obtain rfl := nn_inf hy h'
    exact ⟨_, mul_inf_r hx x0, .inl (Nat.le_refl _), fun h => absurd h (by decide)⟩
end Go.Proofs.Ytfdcfalkidcdnab
