/- 32-bit numbers widened, as rungs of 64 bits, and narrowed again; products and quotients of 64-bit numbers with signs: plain facts on numbers. -/
import Derived.Test.YtdmcjloaommnpaaMono
import Derived.Test.YtdmcjloaommnpaaMonoD
import Derived.Test.YtdmcjloaommnpaaSize
namespace Go.Proofs.Ytdmcjloaommnpaa

namespace D64
theorem mag_of (M j l : Nat) (hl : 2 ^ l ≤ M) (hu : M < 2 ^ (l + 1)) (hl2 : l ≤ 52) (hj : 52 ≤ j + l) : mag ((j + l - 52 + 1) * 4503599627370496 + (M * 2 ^ (52 - l) - 4503599627370496)) = M * 2 ^ j := by
  have e1 : 2 ^ l * 2 ^ (52 - l) = 4503599627370496 := by rw [← Nat.pow_add, show l + (52 - l) = 52 by omega]
  have e2 : 2 ^ (l + 1) * 2 ^ (52 - l) = 9007199254740992 := by rw [← Nat.pow_add, show l + 1 + (52 - l) = 53 by omega]
  have h1 : 4503599627370496 ≤ M * 2 ^ (52 - l) := by rw [← e1]; exact Nat.mul_le_mul_right _ hl
  have h2 : M * 2 ^ (52 - l) < 9007199254740992 := by rw [← e2]; exact Nat.mul_lt_mul_of_pos_right hu (Nat.two_pow_pos _)
  have e3 : M * 2 ^ j = M * 2 ^ (52 - l) * 2 ^ (j + l - 52) := by rw [Nat.mul_assoc, ← Nat.pow_add, show 52 - l + (j + l - 52) = j by omega]
  rw [e3]
  generalize M * 2 ^ (52 - l) = W at *
  generalize j + l - 52 = t at *
  unfold mag
  rw [if_neg (by omega)]
  have a1 : ((t + 1) * 4503599627370496 + (W - 4503599627370496)) % 4503599627370496 = W - 4503599627370496 := by omega
  have a2 : ((t + 1) * 4503599627370496 + (W - 4503599627370496)) / 4503599627370496 = t + 1 := by omega
  rw [a1, a2, show t + 1 - 1 = t by omega, show 4503599627370496 + (W - 4503599627370496) = W by omega]

/-- The rung of a number of few digits. -/
theorem Q_exact (M j : Nat) (hM : M < 9007199254740992) (hj : 52 ≤ j) (hj2 : j ≤ 1900) : Q (M * 2 ^ j) 0 < 9218868437227405312 ∧ mag (Q (M * 2 ^ j) 0) = M * 2 ^ j := by
  by_cases h0 : M = 0
  · subst h0
    rw [Nat.zero_mul, Q_zero]
    exact ⟨by decide, rfl⟩
  have hl := Nat.log2_self_le h0
  have hu : M < 2 ^ (M.log2 + 1) := Nat.lt_log2_self
  have hl2 : M.log2 ≤ 52 := by
    have : M.log2 < 53 := (Nat.log2_lt h0).2 hM
    omega
  have h1 := mag_of M j M.log2 hl hu hl2 (by omega)
  have e1 : 2 ^ (M.log2 + 1) * 2 ^ (52 - M.log2) = 9007199254740992 := by rw [← Nat.pow_add, show M.log2 + 1 + (52 - M.log2) = 53 by omega]
  have h2 : M * 2 ^ (52 - M.log2) < 9007199254740992 := by rw [← e1]; exact Nat.mul_lt_mul_of_pos_right hu (Nat.two_pow_pos _)
  have hlt : (j + M.log2 - 52 + 1) * 4503599627370496 + (M * 2 ^ (52 - M.log2) - 4503599627370496) < 9218868437227405312 := by
    generalize M * 2 ^ (52 - M.log2) = W at *
    omega
  have h3 := Q_mag _ hlt
  rw [h1] at h3
  rw [h3]
  exact ⟨hlt, h1⟩

/-- A 256th. -/
theorem quo_256 {x : Nat} (hx : rg x < 9218868437227405312) : floatBits .quo .f64 x 4643211215818981376 = some (Ieee.double.word (x / 9223372036854775808 % 2 == 1) (Q (mag (rg x)) 8)) := by
  obtain ⟨m, k, h1, h2, hm⟩ := fin_read2 x hx
  have hc : FloatKind.f64.decode 4643211215818981376 = .number false 4503599627370496 (-44) := by decide +kernel
  have hd : floatBits .quo .f64 x 4643211215818981376 = ((FloatKind.f64.decode x).quotient 54 (FloatKind.f64.decode 4643211215818981376)).map Ieee.double.write := rfl
  rw [hd, hc, h1]
  have hl2 : Nat.log2 4503599627370496 = 52 := by decide +kernel
  have hml : m.log2 ≤ 52 := by
    by_cases h0 : m = 0
    · subst h0; decide
    · have : m.log2 < 53 := (Nat.log2_lt h0).2 hm
      omega
  simp only [Ieee.Datum.quotient, hl2]
  rw [if_neg (by decide)]
  simp only [Bool.xor_false]
  obtain ⟨t, ht⟩ : ∃ t, 54 + 52 - m.log2 = t + 52 := ⟨54 - m.log2, by omega⟩
  rw [ht]
  have e1 : m <<< (t + 52) = (m * 2 ^ t) * 4503599627370496 := by rw [Nat.shiftLeft_eq, Nat.pow_add, ← Nat.mul_assoc]
  rw [e1, Nat.mul_div_cancel _ (by decide), Nat.mul_mod_left]
  simp only [Option.map_some, Ieee.Format.write]
  have e3 : ((0 : Nat) != 0).toNat = 0 := rfl
  rw [e3, Nat.add_zero, nearest_gen _ (2 * (m * 2 ^ t)) _ k (t + 9) (by omega)]
  have f1 : 2 * (m * 2 ^ t) * 2 ^ k = m * 2 ^ k * 2 ^ (t + 1) := by
    rw [Nat.pow_succ 2 t, Nat.mul_comm 2, Nat.mul_assoc m, Nat.mul_right_comm]
  have g1 := Q_scale (m * 2 ^ k) 8 (t + 1)
  rw [f1, show t + 9 = 8 + (t + 1) by omega, g1]
  unfold rg
  rw [h2]

theorem no_zero {c n l : Nat} (h : 2 ^ c ≤ n * 2 ^ l) : n ≠ 0 := by
  intro h0; rw [h0, Nat.zero_mul] at h; exact absurd h (Nat.not_le.2 (Nat.two_pow_pos c))
/-- A quotient by what is at least 1. -/
theorem v_le {m n l more c V : Nat} (hVA : ∀ A, 2 * (m * 2 ^ more) ≤ A * n → V ≤ A) (hmy : 2 ^ c ≤ n * 2 ^ l) (hn0 : n ≠ 0) (hmd' : c - l ≤ more) : V * 2 ^ c ≤ m * 2 ^ (l + more + 1) := by
  by_cases hl : c ≤ l
  · have hA : 2 * (m * 2 ^ more) ≤ (2 * (m * 2 ^ more) * 2 ^ (l - c)) * n := by
      have hp : 0 < 2 ^ (l - c) * n := Nat.mul_pos (Nat.two_pow_pos _) (Nat.pos_of_ne_zero hn0)
      rw [Nat.mul_assoc (2 * (m * 2 ^ more))]
      exact Nat.le_mul_of_pos_right _ hp
    have := Nat.mul_le_mul_right (2 ^ c) (hVA _ hA)
    refine Nat.le_trans this (Nat.le_of_eq ?_)
    rw [Nat.mul_assoc, ← Nat.pow_add, show l - c + c = l by omega, Nat.mul_comm 2, Nat.mul_assoc, Nat.mul_assoc, ← Nat.pow_succ', ← Nat.pow_add, show more + (l + 1) = l + more + 1 by omega]
  · obtain ⟨d, hd⟩ : ∃ d, c - l = d := ⟨_, rfl⟩
    have hmd : d ≤ more := by omega
    have hnd : 2 ^ d ≤ n := by
      refine Nat.le_of_mul_le_mul_right (c := 2 ^ l) ?_ (Nat.two_pow_pos l)
      rw [← Nat.pow_add, show d + l = c by omega]; exact hmy
    have hA : 2 * (m * 2 ^ more) ≤ (2 * (m * 2 ^ (more - d))) * n := by
      have e : m * 2 ^ more = m * 2 ^ (more - d) * 2 ^ d := by rw [Nat.mul_assoc, ← Nat.pow_add, show more - d + d = more by omega]
      rw [e, ← Nat.mul_assoc 2]
      exact Nat.mul_le_mul_left _ hnd
    have := Nat.mul_le_mul_right (2 ^ c) (hVA _ hA)
    refine Nat.le_trans this (Nat.le_of_eq ?_)
    rw [Nat.mul_comm 2, Nat.mul_assoc, Nat.mul_assoc, ← Nat.pow_succ', ← Nat.pow_add, show more - d + (c + 1) = l + more + 1 by omega]

/-- A quotient by what is at least 1 is not greater, but for its sign. -/
theorem quo_le {x y : Nat} (hx : rg x < 9218868437227405312) (hy : FN y) (hy1 : 4607182418800017408 ≤ rg y) : ∃ r, floatBits .quo .f64 x y = some (Ieee.double.word (x / 9223372036854775808 % 2 == 1) r) ∧ r ≤ rg x := by
  obtain ⟨m, k, h1, h2, hm⟩ := fin_read2 x hx
  obtain ⟨n, l, g1, g2, hn⟩ := fin_read2 y hy.rlt
  have hs : (y / 9223372036854775808 % 2 == 1) = false := by
    rw [beq_eq_false_iff_ne]; unfold FN at hy; unfold rg at hy1; omega
  rw [hs] at g1
  have hd : floatBits .quo .f64 x y = ((FloatKind.f64.decode x).quotient 54 (FloatKind.f64.decode y)).map Ieee.double.write := rfl
  have hmy := mag_mono hy1 hy.rlt
  obtain ⟨c, hc⟩ : ∃ c, c = 1074 := ⟨_, rfl⟩
  rw [mag_one, ← hc] at hmy
  have g2' : mag (rg y) = n * 2 ^ l := g2
  rw [g2'] at hmy
  have hn0 : n ≠ 0 := by
    exact no_zero hmy
  have hnl : 1074 ≤ n.log2 + l := by
    have b2 : n * 2 ^ l < 2 ^ (n.log2 + 1 + l) := by rw [Nat.pow_add]; exact Nat.mul_lt_mul_of_pos_right Nat.lt_log2_self (Nat.two_pow_pos l)
    have b4 := (Nat.pow_lt_pow_iff_right (show 1 < 2 by decide)).1 (Nat.lt_of_le_of_lt hmy b2)
    omega
  have hml : m.log2 ≤ 52 := by
    by_cases h0 : m = 0
    · subst h0; decide
    · have : m.log2 < 53 := (Nat.log2_lt h0).2 hm
      omega
  rw [hd, h1, g1]
  simp only [Ieee.Datum.quotient]
  rw [if_neg hn0]
  simp only [Option.map_some, Ieee.Format.write, Bool.xor_false]
  obtain ⟨more, hmore⟩ : ∃ more, 54 + n.log2 - m.log2 = more := ⟨_, rfl⟩
  rw [hmore, Nat.shiftLeft_eq]
  obtain ⟨V, hV⟩ : ∃ V, 2 * (m * 2 ^ more / n) + (m * 2 ^ more % n != 0).toNat = V := ⟨_, rfl⟩
  rw [hV, nearest_gen _ V _ (k + c) (l + more + 1) (by omega)]
  refine ⟨_, rfl, ?_⟩
  -- V is not above any whole number that is not below the quotient
  have hVA : ∀ A, 2 * (m * 2 ^ more) ≤ A * n → V ≤ A := by
    intro A hA
    rw [← hV]
    generalize m * 2 ^ more = D at *
    have hp : 0 < n := Nat.pos_of_ne_zero hn0
    have hdm := Nat.div_add_mod D n
    have hlt := Nat.mod_lt D hp
    generalize D / n = q at *
    generalize D % n = r at *
    have hnq : n * q = q * n := Nat.mul_comm _ _
    have hq : 2 * q ≤ A := by
      refine Nat.le_of_mul_le_mul_right (c := n) ?_ hp
      rw [Nat.mul_assoc]; omega
    by_cases hr : r = 0
    · subst hr
      have : ((0 : Nat) != 0).toNat = 0 := rfl
      omega
    · have h9 := Bool.toNat_le (r != 0)
      have : 2 * q ≠ A := by
        intro h
        subst h
        rw [Nat.mul_assoc] at hA
        omega
      omega
  have hV2 : V * 2 ^ c ≤ m * 2 ^ (l + more + 1) := v_le hVA hmy hn0 (by omega)
  have h7 : V * 2 ^ (k + c) ≤ mag (rg x) * 2 ^ (l + more + 1) := by
    have h2' : mag (rg x) = m * 2 ^ k := h2
    rw [h2', Nat.pow_add, Nat.mul_comm (2 ^ k), ← Nat.mul_assoc, Nat.mul_right_comm m]
    exact Nat.mul_le_mul_right _ hV2
  have h8 := Q_mono _ _ (l + more + 1) h7
  have h9 := Q_scale (mag (rg x)) 0 (l + more + 1)
  rw [Nat.zero_add] at h9
  rw [h9, Q_mag _ hx] at h8
  exact h8

/-- A sum with a number below nought is a difference. -/
theorem add_neg {x r : Nat} (hr : r < 9218868437227405312) : floatBits .add .f64 x (Ieee.double.word true r) = floatBits .sub .f64 x r := by
  have hd : floatBits .add .f64 x (Ieee.double.word true r) = ((FloatKind.f64.decode x).sum (FloatKind.f64.decode (Ieee.double.word true r))).map Ieee.double.write := rfl
  have hd2 : floatBits .sub .f64 x r = ((FloatKind.f64.decode x).sum (FloatKind.f64.decode r).opposite).map Ieee.double.write := rfl
  have hw := word_rg true r (by omega)
  have e : FloatKind.f64.decode (Ieee.double.word true r) = (FloatKind.f64.decode r).opposite := by
    rw [read_double, read_double]
    have h1 : Ieee.double.word true r % 9223372036854775808 = r := hw.1
    have h2 : r % 9223372036854775808 = r := Nat.mod_eq_of_lt (by omega)
    have h3 : (r / 9223372036854775808 % 2 == 1) = false := by rw [beq_eq_false_iff_ne]; omega
    rw [h1, h2, h3, hw.2.1]
    split
    · rfl
    · rfl
  rw [hd, hd2, e]
end D64

/-- A number, widened: its rung of 64 bits. -/
def widr (x : Nat) : Nat := D64.Q (mag (rg x) * 2 ^ 925) 0
theorem mag_few (r : Nat) (h : r < 2139095040) : ∃ m k, mag r = m * 2 ^ k ∧ m < 16777216 ∧ k ≤ 253 := by
  unfold mag
  split
  · exact ⟨r, 0, by rw [Nat.pow_zero, Nat.mul_one], by omega, by omega⟩
  · exact ⟨_, _, rfl, by have := Nat.mod_lt r (show 8388608 > 0 by decide); omega, by omega⟩
theorem widr_fin {x : Nat} (h : rg x < 2139095040) : widr x < 9218868437227405312 ∧ D64.mag (widr x) = mag (rg x) * 2 ^ 925 := by
  obtain ⟨m, k, h1, h2, h3⟩ := mag_few (rg x) h
  unfold widr
  generalize hc : (925 : Nat) = c
  rw [h1, Nat.mul_assoc, ← Nat.pow_add]
  exact D64.Q_exact m (k + c) (by omega) (by omega) (by omega)
theorem widr_mono {x y : Nat} (h : rg x ≤ rg y) (hy : rg y < 2139095040) : widr x ≤ widr y :=
  D64.Q_mono _ _ 0 (Nat.mul_le_mul_right _ (mag_mono h hy))
theorem widen_word {x : Nat} (h : rg x < 2139095040) : cvt .f32 x .f64 = some (Ieee.double.word (x / 2147483648 % 2 == 1) (widr x)) := by
  obtain ⟨m, k, h1, h2⟩ := fin_read x h
  unfold cvt
  rw [if_neg (by decide), h1]
  show some (Ieee.double.nearest _ m (-149 + k)) = _
  rw [D64.nearest_gen _ _ _ (k + 925) 0 (by omega), Nat.pow_add, ← Nat.mul_assoc, ← h2]
  rfl

/-- What is widened, its sign taken off, and narrowed, is the number without its sign. -/
theorem narrow_widr {x : Nat} (h : rg x < 2139095040) : cvt .f64 (widr x) .f32 = some (rg x) ∧ tooGreat .f64 (widr x) .f32 = false := by
  obtain ⟨h1, h2⟩ := widr_fin h
  have hm : widr x % 9223372036854775808 = widr x := Nat.mod_eq_of_lt (by omega)
  obtain ⟨m, k, g1, g2, _⟩ := D64.fin_read2 (widr x) (by rw [hm]; exact h1)
  have hs : (widr x / 9223372036854775808 % 2 == 1) = false := by rw [beq_eq_false_iff_ne]; omega
  rw [hs] at g1
  rw [hm, h2] at g2
  have key : Ieee.single.nearest false m (-1074 + k) = rg x := by
    rw [nearest_gen _ _ _ k 925 (by omega), ← g2]
    have := Q_scale (mag (rg x)) 0 925
    rw [Nat.zero_add] at this
    rw [this, Q_mag _ h]
    rfl
  refine ⟨?_, ?_⟩
  · unfold cvt
    rw [if_neg (by decide), g1]
    exact congrArg some key
  · unfold tooGreat
    rw [if_neg (by decide), g1]
    show (FloatKind.f32.decode (Ieee.single.nearest false m (-1074 + k))).isInfinity = false
    rw [key]
    obtain ⟨m', k', g3, _⟩ := fin_read (rg x) (by unfold rg at *; omega)
    rw [g3]; rfl
end Go.Proofs.Ytdmcjloaommnpaa
