/- The logarithm: what its loops compute. -/
import Derived.Test.YtdmcjloaommnpaaLogP
namespace Go.Proofs.Ytdmcjloaommnpaa

theorem nearest_norm (neg : Bool) (m k : Nat) (p : Int) (h1 : 4503599627370496 ≤ m) (h2 : m < 9007199254740992) (hp : -1074 ≤ p) : Ieee.double.nearest neg (m * 2 ^ k) (p - k) = Ieee.double.word neg (min ((p + 1074).toNat * 4503599627370496 + m) Ieee.double.infRung) := by
  have hm0 : m ≠ 0 := by omega
  have hk := Nat.two_pow_pos k
  have hne : m * 2 ^ k ≠ 0 := by
    intro h
    rcases Nat.mul_eq_zero.1 h with h | h <;> omega
  have hl0 : m.log2 = 52 := (Nat.log2_eq_iff hm0).2 ⟨h1, h2⟩
  have hl : (m * 2 ^ k).log2 = 52 + k := by
    have := log2_shift m k hm0
    rw [Nat.shiftLeft_eq, hl0] at this; exact this
  unfold Ieee.Format.nearest
  rw [if_neg hne, hl]
  have hf : (Ieee.double.fractionBits : Int) = 52 := rfl
  have hlp : Ieee.double.leastPlace = -1074 := by decide
  rw [hf, hlp]
  have hlast : max (p - (k : Int) + ((52 + k : Nat) : Int) - 52) (-1074) = p := by omega
  simp only [hlast, hB]
  have a1 : (p - (k : Int) - p).toNat = 0 := by omega
  have a2 : (p - (p - (k : Int))).toNat = k := by omega
  have a3 : (p - -1074).toNat = (p + 1074).toNat := by omega
  rw [a1, a2, a3, Nat.shiftLeft_zero]
  have hc : Ieee.Toward.even.cut neg (m * 2 ^ k) k = m := by
    unfold Ieee.Toward.cut
    simp only
    rw [hl, Nat.min_eq_left (by omega), Nat.shiftLeft_eq, Nat.one_mul, Nat.mul_div_cancel _ hk, Nat.mul_mod_left]
    have h3 : (2 ^ k == 2 * 0) = false := by rw [beq_eq_false_iff_ne]; omega
    have h4 : decide (2 ^ k < 2 * 0) = false := by rw [decide_eq_false_iff_not]; omega
    rw [h3, h4]
    simp
  rw [hc]

theorem pos_decode {w : Nat} (h1 : 4503599627370496 ≤ w) (h2 : w < 9218868437227405312) : FloatKind.f64.decode w = .number false (4503599627370496 + w % 4503599627370496) (-1074 + ((w / 4503599627370496 - 1 : Nat) : Int)) := by
  have hm : w % 9223372036854775808 = w := by omega
  have hs : (w / 9223372036854775808 % 2 == 1) = false := by rw [show w / 9223372036854775808 = 0 by omega]; rfl
  rw [read_double, hm, if_neg (by omega), if_pos h2, hs]

theorem word_pos (r : Nat) (h : r ≤ 9218868437227405312) : Ieee.double.word false (min r Ieee.double.infRung) = r := by
  unfold Ieee.Format.word
  rw [if_neg Bool.false_ne_true, hI, Nat.min_eq_left h]

theorem half_word {w : Nat} (h1 : 9007199254740992 ≤ w) (h2 : w < 9218868437227405312) : floatBits .quo .f64 w twoW = some (w - 4503599627370496) := by
  have hd : floatBits .quo .f64 w twoW = ((FloatKind.f64.decode w).quotient 54 (FloatKind.f64.decode twoW)).map Ieee.double.write := rfl
  have hm := Nat.mod_lt w (show 4503599627370496 > 0 by decide)
  rw [hd, pos_decode (by omega) h2, dec_two]
  have hl0 : (4503599627370496 + w % 4503599627370496).log2 = 52 := (Nat.log2_eq_iff (by omega)).2 ⟨by omega, by omega⟩
  have hl1 : (4503599627370496 : Nat).log2 = 52 := by decide +kernel
  unfold Ieee.Datum.quotient
  simp only
  rw [if_neg (by decide), hl0, hl1]
  simp only [Option.map_some, Option.some.injEq, Ieee.Format.write]
  generalize hmm : 4503599627370496 + w % 4503599627370496 = m at *
  have e1 : m <<< (54 + 52 - 52) = m * 4 * 4503599627370496 := by rw [Nat.shiftLeft_eq]; omega
  rw [e1, Nat.mul_div_cancel _ (by decide), Nat.mul_mod_left]
  have e2 : 2 * (m * 4) + ((0 : Nat) != 0).toNat = m * 2 ^ 3 := by simp; omega
  rw [e2]
  have e3 : (-1074 + ((w / 4503599627370496 - 1 : Nat) : Int) - -51 - ((54 + 52 - 52 : Nat) : Int) - 1) = (-1075 + ((w / 4503599627370496 - 1 : Nat) : Int)) - ((3 : Nat) : Int) := by omega
  rw [e3, nearest_norm _ m 3 _ (by omega) (by omega) (by omega)]
  simp only [Bool.xor_self]
  have e4 : (-1075 + ((w / 4503599627370496 - 1 : Nat) : Int) + 1074).toNat * 4503599627370496 + m = w - 4503599627370496 := by omega
  rw [e4]
  exact word_pos _ (by omega)

theorem dbl_word {w : Nat} (h1 : 4503599627370496 ≤ w) (h2 : w < 9214364837600034816) : floatBits .mul .f64 w twoW = some (w + 4503599627370496) := by
  have hd : floatBits .mul .f64 w twoW = ((FloatKind.f64.decode w).product (FloatKind.f64.decode twoW)).map Ieee.double.write := rfl
  have hm := Nat.mod_lt w (show 4503599627370496 > 0 by decide)
  rw [hd, pos_decode h1 (by omega), dec_two]
  simp only [Ieee.Datum.product, Option.map_some, Option.some.injEq, Ieee.Format.write]
  generalize hmm : 4503599627370496 + w % 4503599627370496 = m at *
  have e1 : m * 4503599627370496 = m * 2 ^ 52 := by rw [show (2 ^ 52 : Nat) = 4503599627370496 by decide]
  have e3 : (-1074 + ((w / 4503599627370496 - 1 : Nat) : Int) + -51) = (-1073 + ((w / 4503599627370496 - 1 : Nat) : Int)) - ((52 : Nat) : Int) := by omega
  rw [e1, e3, nearest_norm _ m 52 _ (by omega) (by omega) (by omega)]
  simp only [Bool.xor_self]
  have e5 : (-1073 + ((w / 4503599627370496 - 1 : Nat) : Int) + 1074).toNat = w / 4503599627370496 := by omega
  have e6 := Nat.div_add_mod w 4503599627370496
  have e4 : (-1073 + ((w / 4503599627370496 - 1 : Nat) : Int) + 1074).toNat * 4503599627370496 + m = w + 4503599627370496 := by rw [e5, ← hmm, Nat.mul_comm]; omega
  rw [e4]
  exact word_pos _ (by omega)

theorem order_pos {a b : Nat} (ha1 : 4503599627370496 ≤ a) (ha2 : a < 9218868437227405312) (hb1 : 4503599627370496 ≤ b) (hb2 : b < 9218868437227405312) :
    FloatKind.f64.format.order a b = some (if a < b then .lt else if a = b then .eq else .gt) := by
  have hd : FloatKind.f64.format.order a b = (FloatKind.f64.decode a).order (FloatKind.f64.decode b) := rfl
  have hma := Nat.mod_lt a (show 4503599627370496 > 0 by decide)
  have hmb := Nat.mod_lt b (show 4503599627370496 > 0 by decide)
  rw [hd, pos_decode ha1 ha2, pos_decode hb1 hb2]
  simp only [Ieee.Datum.order, Ieee.signed, Bool.false_eq_true, if_false, Nat.shiftLeft_eq, Option.some.injEq]
  show compareOfLessAndEq _ _ = _
  unfold compareOfLessAndEq
  rcases Nat.lt_trichotomy (a / 4503599627370496) (b / 4503599627370496) with h | h | h
  · have e0 : min (-1074 + ((a / 4503599627370496 - 1 : Nat) : Int)) (-1074 + ((b / 4503599627370496 - 1 : Nat) : Int)) = -1074 + ((a / 4503599627370496 - 1 : Nat) : Int) := by omega
    obtain ⟨d, hd⟩ : ∃ d, b / 4503599627370496 = a / 4503599627370496 + 1 + d := ⟨b / 4503599627370496 - a / 4503599627370496 - 1, by omega⟩
    have e1 : (-1074 + ((a / 4503599627370496 - 1 : Nat) : Int) - (-1074 + ((a / 4503599627370496 - 1 : Nat) : Int))).toNat = 0 := by omega
    have e2 : (-1074 + ((b / 4503599627370496 - 1 : Nat) : Int) - (-1074 + ((a / 4503599627370496 - 1 : Nat) : Int))).toNat = d + 1 := by omega
    rw [e0, e1, e2, Nat.pow_zero, Nat.mul_one]
    have hp := Nat.two_pow_pos d
    have hbig : 4503599627370496 ≤ 4503599627370496 + b % 4503599627370496 := Nat.le_add_right _ _
    have hlt : 4503599627370496 + a % 4503599627370496 < (4503599627370496 + b % 4503599627370496) * 2 ^ (d + 1) := by
      rw [Nat.pow_succ]
      generalize 4503599627370496 + b % 4503599627370496 = mb at *
      have : mb * 2 ≤ mb * (2 ^ d * 2) := Nat.mul_le_mul_left _ (by omega)
      omega
    rw [if_pos (by omega), if_pos (by omega)]
  · have e0 : min (-1074 + ((a / 4503599627370496 - 1 : Nat) : Int)) (-1074 + ((b / 4503599627370496 - 1 : Nat) : Int)) = -1074 + ((a / 4503599627370496 - 1 : Nat) : Int) := by omega
    have e1 : (-1074 + ((a / 4503599627370496 - 1 : Nat) : Int) - (-1074 + ((a / 4503599627370496 - 1 : Nat) : Int))).toNat = 0 := by omega
    have e2 : (-1074 + ((b / 4503599627370496 - 1 : Nat) : Int) - (-1074 + ((a / 4503599627370496 - 1 : Nat) : Int))).toNat = 0 := by omega
    rw [e0, e1, e2, Nat.pow_zero, Nat.mul_one, Nat.mul_one]
    by_cases c1 : a < b
    · rw [if_pos (by omega), if_pos c1]
    · by_cases c2 : a = b
      · rw [if_neg (by omega), if_pos (by omega), if_neg c1, if_pos c2]
      · rw [if_neg (by omega), if_neg (by omega), if_neg c1, if_neg c2]
  · have e0 : min (-1074 + ((a / 4503599627370496 - 1 : Nat) : Int)) (-1074 + ((b / 4503599627370496 - 1 : Nat) : Int)) = -1074 + ((b / 4503599627370496 - 1 : Nat) : Int) := by omega
    obtain ⟨d, hd⟩ : ∃ d, a / 4503599627370496 = b / 4503599627370496 + 1 + d := ⟨a / 4503599627370496 - b / 4503599627370496 - 1, by omega⟩
    have e1 : (-1074 + ((b / 4503599627370496 - 1 : Nat) : Int) - (-1074 + ((b / 4503599627370496 - 1 : Nat) : Int))).toNat = 0 := by omega
    have e2 : (-1074 + ((a / 4503599627370496 - 1 : Nat) : Int) - (-1074 + ((b / 4503599627370496 - 1 : Nat) : Int))).toNat = d + 1 := by omega
    rw [e0, e1, e2, Nat.pow_zero, Nat.mul_one]
    have hp := Nat.two_pow_pos d
    have hbig : 4503599627370496 ≤ 4503599627370496 + a % 4503599627370496 := Nat.le_add_right _ _
    have hlt : 4503599627370496 + b % 4503599627370496 < (4503599627370496 + a % 4503599627370496) * 2 ^ (d + 1) := by
      rw [Nat.pow_succ]
      generalize 4503599627370496 + a % 4503599627370496 = ma at *
      have : ma * 2 ≤ ma * (2 ^ d * 2) := Nat.mul_le_mul_left _ (by omega)
      omega
    rw [if_neg (by omega), if_neg (by omega), if_neg (by omega), if_neg (by omega)]

def lnW : Nat := 4604418534313441775
def logS (x : Nat) : Option Nat := fop .quo .f64 (fop .sub .f64 (some x) (some oneW)) (fop .add .f64 (some x) (some oneW))
def logU (x : Nat) : Option Nat := fop .mul .f64 (logS x) (logS x)
def logQ (x : Nat) : Nat → Option Nat
  | 0 => some 0
  | j + 1 => fop .add .f64 (fop .quo .f64 (some oneW) (some (floatOfInt .f64 (25 - 2 * (j : Int))))) (fop .mul .f64 (logU x) (logQ x j))
def logV (x : Nat) (e : Int) : Option Nat := fop .add .f64 (fop .mul .f64 (some twoW) (fop .mul .f64 (logS x) (logQ x 13))) (fop .mul .f64 (some (floatOfInt .f64 e)) (some lnW))

theorem sm_const {E b : Nat} (h : b % 9223372036854775808 ≤ (E + 1) * 4503599627370496) : SmO E (some b) := ⟨b, rfl, h⟩
theorem odd_lo : ∀ j : Nat, j < 13 → Lo (floatOfInt .f64 (25 - 2 * (j : Int))) := by
  have : ∀ j : Fin 13, 1023 * 4503599627370496 ≤ floatOfInt .f64 (25 - 2 * ((j.val : Nat) : Int)) % 9223372036854775808 ∧ floatOfInt .f64 (25 - 2 * ((j.val : Nat) : Int)) % 9223372036854775808 < 9218868437227405312 := by decide +kernel
  exact fun j hj => this ⟨j, hj⟩

theorem logS_sm {x : Nat} (h1 : c075 ≤ x) (h2 : x < c15) : SmO 1021 (logS x) := (mid_sub h1 h2).div (mid_add h1 h2) (by decide) (by decide)
theorem logU_sm {x : Nat} (h1 : c075 ≤ x) (h2 : x < c15) : SmO 1020 (logU x) := (logS_sm h1 h2).mul (logS_sm h1 h2) (by decide) (by decide) (by decide) (by decide) (by decide)
theorem logQ_sm {x : Nat} (h1 : c075 ≤ x) (h2 : x < c15) : ∀ j, j ≤ 13 → SmO 1023 (logQ x j)
  | 0, _ => sm_const (by decide)
  | j + 1, h => by
    have ih := logQ_sm h1 h2 j (by omega)
    exact (SmO.div (E := 1022) (sm_const (by decide)) ⟨_, rfl, odd_lo j (by omega)⟩ (by decide) (by decide)).add ((logU_sm h1 h2).mul ih (G := 1021) (by decide) (by decide) (by decide) (by decide) (by decide)) (by decide) (by decide) (by decide) (by decide) (by decide)
theorem int_sm (e : Int) (h : e.natAbs ≤ 2048) : SmO 1033 (some (floatOfInt .f64 e)) := ⟨_, rfl, sm_near _ _ 0 11 h 1033 (by decide) (by decide) (by decide)⟩
theorem logV_sm {x : Nat} (h1 : c075 ≤ x) (h2 : x < c15) (e : Int) (he : e.natAbs ≤ 2048) : SmO 1034 (logV x e) :=
  ((SmO.mul (E := 1023) (F := 1022) (G := 1023) (sm_const (by decide)) ((logS_sm h1 h2).mul (logQ_sm h1 h2 13 (by decide)) (by decide) (by decide) (by decide) (by decide) (by decide)) (by decide) (by decide) (by decide) (by decide) (by decide))).add
    ((int_sm e he).mul (F := 1022) (G := 1033) (sm_const (by decide)) (by decide) (by decide) (by decide) (by decide) (by decide)) (by decide) (by decide) (by decide) (by decide) (by decide)

/-- What is left, from 0.75 to 1.5, and how often it was halved. -/
def eOf (w : Nat) : Int := ((w : Int) - 4604930618986332160) / 4503599627370496
def xOf (w : Nat) : Nat := (4604930618986332160 + ((w : Int) - 4604930618986332160) % 4503599627370496).toNat
theorem mid_unique {w x : Nat} {e : Int} (h1 : 4604930618986332160 ≤ x) (h2 : x < 4609434218613702656) (h : (x : Int) = w - e * 4503599627370496) : x = xOf w ∧ e = eOf w := by
  unfold xOf eOf
  omega
theorem xOf_range (w : Nat) : c075 ≤ xOf w ∧ xOf w < c15 := by unfold xOf c075 c15; omega
theorem eOf_range (w : Nat) (h : w < 9218868437227405312) : (eOf w).natAbs ≤ 2048 := by unfold eOf; omega
end Go.Proofs.Ytdmcjloaommnpaa
