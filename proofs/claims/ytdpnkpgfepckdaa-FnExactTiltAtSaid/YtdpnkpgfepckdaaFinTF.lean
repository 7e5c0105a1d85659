/- IsFinite and its model, told by cases; finite numbers, widened; numbers that are not finite, less themselves. -/
import Derived.Test.YtdpnkpgfepckdaaWid
import Derived.Test.YtdpnkpgfepckdaaFinite
import Derived.Test.YtdpnkpgfepckdaaSineV
namespace Go.Proofs.Ytdpnkpgfepckdaa
open Go.RowKit

theorem finT_any (x : Nat) (h : fin32 x = true) (w : World) :
    Calls Try.prog 61 #[.float .f32 x] w fun e w' => e = .returned (.bool true) ∧ ∃ n, w' = w.drewN n := (l01Finite_any x w).mono fun e w' ⟨h1, h2⟩ => ⟨by rw [h1, h], h2⟩
theorem finF_any (x : Nat) (h : fin32 x = false) (w : World) :
    Calls Try.prog 61 #[.float .f32 x] w fun e w' => e = .returned (.bool false) ∧ ∃ n, w' = w.drewN n := (l01Finite_any x w).mono fun e w' ⟨h1, h2⟩ => ⟨by rw [h1, h], h2⟩
theorem ifinT_any (x : Nat) (hx : x < 4294967296) (h : fin32 x = true) (w : World) :
    Calls Try.prog 66 #[.float .f32 x] w fun e w' => e = .returned (.bool true) ∧ w = w' := (isFinite_any x hx w).mono fun e w' ⟨h1, h2⟩ => ⟨by rw [h1, h], h2⟩
theorem ifinF_any (x : Nat) (hx : x < 4294967296) (h : fin32 x = false) (w : World) :
    Calls Try.prog 66 #[.float .f32 x] w fun e w' => e = .returned (.bool false) ∧ w = w' := (isFinite_any x hx w).mono fun e w' ⟨h1, h2⟩ => ⟨by rw [h1, h], h2⟩

theorem order32_zero {x : Nat} (hx : x < 4294967296) (h : x % 2147483648 < 2139095040) : FloatKind.f32.format.order x 0 = some (if x % 2147483648 = 0 then .eq else if 2147483648 ≤ x then .lt else .gt) := by
  by_cases h0 : x % 2147483648 = 0
  · rw [if_pos h0]
    have : x = 0 ∨ x = 2147483648 := by omega
    rcases this with rfl | rfl
    · decide +kernel
    · decide +kernel
  · rw [if_neg h0]
    obtain ⟨m, e, hd, h1, h2, h3, h4⟩ := decode_pos32 (x := x) (by omega) h
    have hz : FloatKind.f32.format.order x 0 = (FloatKind.f32.decode x).order (.number false 0 (-149)) := rfl
    have hp := Nat.two_pow_pos (e - min e (-149)).toNat
    rw [hz, hd]
    simp only [Ieee.Datum.order, Ieee.signed, Bool.false_eq_true, if_false, Nat.shiftLeft_eq, Nat.zero_mul, Option.some.injEq]
    show compareOfLessAndEq _ _ = _
    unfold compareOfLessAndEq
    generalize 2 ^ (e - min e (-149)).toNat = t at *
    have : 0 < m * t := Nat.mul_pos (by omega) hp
    by_cases hs : 2147483648 ≤ x
    · rw [if_pos hs, show (x / 2147483648 % 2 == 1) = true by rw [show x / 2147483648 = 1 by omega]; rfl, if_pos rfl, if_pos (by omega)]
    · rw [if_neg hs, show (x / 2147483648 % 2 == 1) = false by rw [show x / 2147483648 = 0 by omega]; rfl, if_neg Bool.false_ne_true, if_neg (by omega), if_neg (by omega)]

theorem widen_fin {x : Nat} (hx : x < 4294967296) (hf : x % 2147483648 < 2139095040) : ∃ r, cvt .f32 x .f64 = some r ∧ r < 18446744073709551616 ∧ r % 9223372036854775808 < 9218868437227405312 := by
  by_cases h0 : x % 2147483648 = 0
  · have : x = 0 ∨ x = 2147483648 := by omega
    rcases this with rfl | rfl
    · exact ⟨0, by decide +kernel, by decide, by decide⟩
    · exact ⟨9223372036854775808, by decide +kernel, by decide, by decide⟩
  · by_cases hs : x < 2147483648
    · obtain ⟨r, hc, r1, r2⟩ := widen_pos (x := x) (by omega) (by omega)
      exact ⟨r, hc, by omega, by omega⟩
    · obtain ⟨q, hc, q1, q2⟩ := widen_neg hx (by omega) hf
      exact ⟨_, hc, by omega, by omega⟩

theorem notfin_sub {x : Nat} (hx : x < 4294967296) (hf : ¬ x % 2147483648 < 2139095040) : ∀ z, Rp .f64 (cvt .f32 x .f64) z → floatBits .sub .f64 z z = none := by
  intro z hz
  by_cases hi : x % 2147483648 = 2139095040
  · have : x = 2139095040 ∨ x = 4286578688 := by omega
    rcases this with rfl | rfl
    · have h1 : cvt .f32 2139095040 .f64 = some 9218868437227405312 := by decide +kernel
      rw [h1] at hz
      obtain rfl : z = _ := hz
      decide +kernel
    · have h1 : cvt .f32 4286578688 .f64 = some 18442240474082181120 := by decide +kernel
      rw [h1] at hz
      obtain rfl : z = _ := hz
      decide +kernel
  · have := nan32_iff x
    rw [decide_eq_true (show 2139095040 < x % 2147483648 by omega)] at this
    obtain ⟨s, f, hd⟩ := decode_nan this
    have hd' : FloatKind.f32.decode x = .nan s f := hd
    have h1 : cvt .f32 x .f64 = none := by unfold cvt; rw [if_neg (by decide), hd']
    rw [h1] at hz
    exact floatBits_nan_left hz.1

theorem great_any {r : Nat} (hr : r < 18446744073709551616) (h1 : 4841369599423283200 ≤ r % 9223372036854775808) (h2 : r % 9223372036854775808 < 9218868437227405312) :
    ((FloatKind.f64.format.order r 4841369599423283200 == some .gt || FloatKind.f64.format.order r 4841369599423283200 == some .eq) = true) ∨
    ((FloatKind.f64.format.order r 4841369599423283200 == some .gt || FloatKind.f64.format.order r 4841369599423283200 == some .eq) = false ∧ (FloatKind.f64.format.order r 14064741636278059008 == some .lt || FloatKind.f64.format.order r 14064741636278059008 == some .eq) = true) := by
  by_cases hs : r < 9223372036854775808
  · left
    rw [Nat.mod_eq_of_lt hs] at h1 h2
    rcases great_order h1 h2 with h | h <;> rw [h] <;> rfl
  · right
    obtain ⟨q, rfl⟩ : ∃ q, r = 9223372036854775808 + q := ⟨r - 9223372036854775808, by omega⟩
    have hm : (9223372036854775808 + q) % 9223372036854775808 = q := by omega
    rw [hm] at h1 h2
    obtain ⟨ho, ho2⟩ := great_neg h1 h2
    refine ⟨by rw [ho]; rfl, ?_⟩
    rcases ho2 with h | h <;> rw [h] <;> rfl
end Go.Proofs.Ytdpnkpgfepckdaa
