/- Cutting the places behind the point off: what a 64-bit number less than 2 to the power of 52 leaves is at most 1. -/
import Derived.Test.YtdpnkpgfepckdaaLogP
namespace Go.Proofs.Ytdpnkpgfepckdaa

theorem cutZ_le (way : Ieee.Toward) (s : Bool) (m n : Nat) (i : Int) (K : Nat) (hm : m ≤ 2 ^ n) (h : i + n ≤ K) : way.cut s (m <<< i.toNat) (-i).toNat ≤ 2 ^ K + 1 := by
  refine Nat.le_trans (cut_le ..) (Nat.add_le_add_right ?_ 1)
  by_cases hi : 0 ≤ i
  · have e : (-i).toNat = 0 := by omega
    rw [e, Nat.zero_min, Nat.shiftLeft_zero, Nat.div_one, Nat.shiftLeft_eq]
    refine Nat.le_trans (Nat.mul_le_mul_right _ hm) ?_
    rw [← Nat.pow_add]
    exact Nat.pow_le_pow_right (by omega) (by omega)
  · have e : i.toNat = 0 := by omega
    rw [e, Nat.shiftLeft_zero]
    by_cases hd : (-i).toNat ≤ m.log2 + 2
    · rw [Nat.min_eq_left hd, Nat.shiftLeft_eq, Nat.one_mul]
      refine Nat.div_le_of_le_mul (Nat.le_trans hm ?_)
      rw [← Nat.pow_add]
      exact Nat.pow_le_pow_right (by omega) (by omega)
    · rw [Nat.min_eq_right (by omega), Nat.shiftLeft_eq, Nat.one_mul]
      have : m / 2 ^ (m.log2 + 2) = 0 := by
        refine Nat.div_eq_of_lt (Nat.lt_trans Nat.lt_log2_self (Nat.pow_lt_pow_right (by omega) (by omega)))
      rw [this]; exact Nat.zero_le _

theorem toInt_small {b E : Nat} (hb : Sm E b) (hE : E ≤ 1082) : ∃ n, floatToIntVal .f64 b .i64 = some n ∧ n.natAbs ≤ 2 ^ 60 + 1 := by
  obtain ⟨s, m, i, hd⟩ := sm_number hb (by omega)
  obtain ⟨n, hm, hi, _⟩ := sm_parts hb hd
  have hc := cutZ_le .zero s m n i 60 hm (by omega)
  unfold floatToIntVal
  rw [hd]
  simp only [Ieee.Datum.toInt, Ieee.Datum.integral]
  generalize Ieee.Toward.cut .zero s (m <<< i.toNat) (-i).toNat = c at *
  have ha : (Ieee.signed s c 0).natAbs = c := by rw [signed_abs]; simp
  have h1 : IntKind.i64.min ≤ Ieee.signed s c 0 ∧ Ieee.signed s c 0 ≤ IntKind.i64.max := by
    have e1 : IntKind.i64.min = -9223372036854775808 := by decide
    have e2 : IntKind.i64.max = 9223372036854775807 := by decide
    have e3 : 2 ^ 60 + 1 = 1152921504606846977 := by decide
    rw [e1, e2]; omega
  rw [if_pos h1]
  exact ⟨_, rfl, by omega⟩

/-- 'math.Floor' of what is told. -/
def floorV (b : Nat) : Nat := FloatKind.f64.encode ((FloatKind.f64.decode b).integral .down)
def floorI (b : Nat) : Int := (floatToIntVal .f64 (floorV b) .i64).getD 0

theorem floor_int {b E : Nat} (hb : Sm E b) (hE : E ≤ 1081) : floatToIntVal .f64 (floorV b) .i64 = some (floorI b) := by
  obtain ⟨s, m, i, hd⟩ := sm_number hb (by omega)
  obtain ⟨n, hm, hi, _⟩ := sm_parts hb hd
  have hc := cutZ_le .down s m n i 59 hm (by omega)
  have hs : Sm 1082 (floorV b) := by
    unfold floorV
    rw [hd]
    simp only [Ieee.Datum.integral]
    exact sm_near s _ 0 60 (Nat.le_trans hc (by decide)) 1082 (by decide) (by decide) (by decide)
  obtain ⟨k, hk, _⟩ := toInt_small hs (by decide)
  unfold floorI
  rw [hk]; rfl

theorem decode_any (x : Nat) (h : x % 9223372036854775808 < 4841369599423283200) : ∃ m i, FloatKind.f64.decode x = .number (x / 9223372036854775808 % 2 == 1) m i ∧ m < 9007199254740992 ∧ i < 0 ∧ -1074 ≤ i := by
  rw [read_double]
  have hm := Nat.mod_lt (x % 9223372036854775808) (show 4503599627370496 > 0 by decide)
  by_cases hc : x % 9223372036854775808 < 4503599627370496
  · rw [if_pos hc]
    exact ⟨_, _, rfl, by omega, by omega, by omega⟩
  · rw [if_neg hc, if_pos (by omega)]
    exact ⟨_, _, rfl, by omega, by omega, by omega⟩

theorem cut_zero_div (s : Bool) (m d : Nat) : Ieee.Toward.cut .zero s m d = m / 2 ^ d := by
  unfold Ieee.Toward.cut
  simp only [Bool.toNat_false, Nat.add_zero, Nat.shiftLeft_eq, Nat.one_mul]
  by_cases h : d ≤ m.log2 + 2
  · rw [Nat.min_eq_left h]
  · rw [Nat.min_eq_right (by omega)]
    have h1 : m / 2 ^ (m.log2 + 2) = 0 := Nat.div_eq_of_lt (Nat.lt_trans Nat.lt_log2_self (Nat.pow_lt_pow_right (by omega) (by omega)))
    have h2 : m / 2 ^ d = 0 := Nat.div_eq_of_lt (Nat.lt_trans Nat.lt_log2_self (Nat.pow_lt_pow_right (by omega) (by omega)))
    rw [h1, h2]

/-- An integer of at most 53 digits is written as it is. -/
theorem nat_decode (g : Bool) (c : Nat) (h0 : 0 < c) (h : c < 9007199254740992) : FloatKind.f64.decode (Ieee.double.nearest g c 0) = .number g (c * 2 ^ (52 - c.log2)) (-((52 - c.log2 : Nat) : Int)) := by
  have hl : c.log2 < 53 := (Nat.log2_lt (by omega)).2 (by simpa using h)
  have hlo := Nat.log2_self_le (show c ≠ 0 by omega)
  have hhi : c < 2 ^ (c.log2 + 1) := Nat.lt_log2_self
  have b1 : 4503599627370496 ≤ c * 2 ^ (52 - c.log2) := by
    rw [← pow52 c.log2 (by omega)]; exact Nat.mul_le_mul_right _ hlo
  have b2 : c * 2 ^ (52 - c.log2) < 9007199254740992 := by
    have := Nat.mul_lt_mul_of_pos_right hhi (Nat.two_pow_pos (52 - c.log2))
    rw [Nat.pow_succ, Nat.mul_right_comm, pow52 c.log2 (by omega)] at this
    exact this
  have hn : Ieee.double.nearest g c 0 = Ieee.double.word g ((1022 + c.log2) * 4503599627370496 + c * 2 ^ (52 - c.log2)) := by
    unfold Ieee.Format.nearest
    rw [if_neg (by omega)]
    have hf : (Ieee.double.fractionBits : Int) = 52 := rfl
    have hlp : Ieee.double.leastPlace = -1074 := by decide
    rw [hf, hlp]
    have hlast : max ((0 : Int) + (c.log2 : Int) - 52) (-1074) = (c.log2 : Int) - 52 := by omega
    simp only [hlast, hB]
    have a1 : ((0 : Int) - ((c.log2 : Int) - 52)).toNat = 52 - c.log2 := by omega
    have a2 : (((c.log2 : Int) - 52) - 0).toNat = 0 := by omega
    have a3 : (((c.log2 : Int) - 52) - -1074).toNat = 1022 + c.log2 := by omega
    have a4 : Ieee.Toward.even.cut g (c <<< (52 - c.log2)) 0 = c <<< (52 - c.log2) := by unfold Ieee.Toward.cut; simp [Nat.mod_one]
    rw [a1, a2, a3, a4, Nat.shiftLeft_eq, hI, Nat.min_eq_left (by omega)]
  rw [hn]
  generalize hmm : c * 2 ^ (52 - c.log2) = m at *
  generalize hL : c.log2 = L at *
  have hlt : (1022 + L) * 4503599627370496 + m < 9218868437227405312 := by omega
  have hw : Ieee.double.word g ((1022 + L) * 4503599627370496 + m) % 9223372036854775808 = (1022 + L) * 4503599627370496 + m := by
    rw [← hS]; exact word_mod _ _ _ (by rw [hS]; omega)
  have hs : (Ieee.double.word g ((1022 + L) * 4503599627370496 + m) / 9223372036854775808 % 2 == 1) = g := by
    cases g
    · unfold Ieee.Format.word
      rw [if_neg Bool.false_ne_true, show ((1022 + L) * 4503599627370496 + m) / 9223372036854775808 = 0 by omega]; rfl
    · unfold Ieee.Format.word
      rw [if_pos rfl, hS, show (9223372036854775808 + ((1022 + L) * 4503599627370496 + m)) / 9223372036854775808 = 1 by omega]; rfl
  rw [read_double, hw, hs, if_neg (by omega), if_pos hlt]
  congr 1 <;> omega

/-- What is left of a number less than 2 to the power of 52 without its whole part. -/
def cutI (y : Nat) : Int := (floatToIntVal .f64 y .i64).getD 0
def partV (y : Nat) : Option Nat := fop .sub .f64 (some y) (some (floatOfInt .f64 (cutI y)))

theorem part_sm {y : Nat} (h : y % 9223372036854775808 < 4841369599423283200) : floatToIntVal .f64 y .i64 = some (cutI y) ∧ SmO 1022 (partV y) := by
  obtain ⟨m, i, hd, hm, hi0, hi1⟩ := decode_any y h
  generalize (y / 9223372036854775808 % 2 == 1) = s at hd
  obtain ⟨d, rfl⟩ : ∃ d : Nat, i = -(d : Int) := ⟨(-i).toNat, by omega⟩
  have hcut : floatToIntVal .f64 y .i64 = some (Ieee.signed s (m / 2 ^ d) 0) := by
    unfold floatToIntVal
    rw [hd]
    have e1 : (-(d : Int)).toNat = 0 := by omega
    have e2 : (- -(d : Int)).toNat = d := by omega
    simp only [Ieee.Datum.toInt, Ieee.Datum.integral, e1, e2, Nat.shiftLeft_zero, cut_zero_div]
    have hle : m / 2 ^ d ≤ m := Nat.div_le_self ..
    have ha : (Ieee.signed s (m / 2 ^ d) 0).natAbs = m / 2 ^ d := by rw [signed_abs]; simp
    rw [if_pos]
    have e1 : IntKind.i64.min = -9223372036854775808 := by decide
    have e2 : IntKind.i64.max = 9223372036854775807 := by decide
    rw [e1, e2]; omega
  have hI : cutI y = Ieee.signed s (m / 2 ^ d) 0 := by unfold cutI; rw [hcut]; rfl
  refine ⟨by rw [hI]; exact hcut, ?_⟩
  have hv : partV y = ((FloatKind.f64.decode y).sum (FloatKind.f64.decode (floatOfInt .f64 (cutI y))).opposite).map Ieee.double.write := rfl
  have hdm := Nat.div_add_mod m (2 ^ d)
  have hml := Nat.mod_lt m (Nat.two_pow_pos d)
  rw [hv, hd, hI]
  have hf : floatOfInt .f64 (Ieee.signed s (m / 2 ^ d) 0) = Ieee.double.nearest (decide (Ieee.signed s (m / 2 ^ d) 0 < 0)) (m / 2 ^ d) 0 := by
    have : floatOfInt .f64 (Ieee.signed s (m / 2 ^ d) 0) = Ieee.double.nearest (decide (Ieee.signed s (m / 2 ^ d) 0 < 0)) (Ieee.signed s (m / 2 ^ d) 0).natAbs 0 := rfl
    rw [this, signed_abs]; simp
  rw [hf]
  by_cases hc : m / 2 ^ d = 0
  · rw [hc]
    have hz : decide (Ieee.signed s 0 0 < 0) = false := by cases s <;> decide
    have hz2 : FloatKind.f64.decode (Ieee.double.nearest false 0 0) = .number false 0 (-1074) := by decide +kernel
    rw [hz, hz2]
    have hmd : m < 2 ^ d := by
      rw [hc] at hdm; omega
    refine ⟨_, rfl, ?_⟩
    have e0 : min (-(d : Int)) (-1074) = -1074 := by omega
    simp only [e0]
    have e1 : (Ieee.signed s m (-(d : Int) - -1074).toNat).natAbs = m * 2 ^ (-(d : Int) - -1074).toNat := signed_abs ..
    have e2 : Ieee.signed (!false) 0 (-1074 - -1074 : Int).toNat = 0 := by decide
    rw [e2, Int.add_zero]
    generalize hu : (-(d : Int) - -1074).toNat = u at *
    refine sm_near _ _ _ (d + u) ?_ 1022 (by decide) (by decide) (by omega)
    rw [e1, Nat.pow_add]
    exact Nat.mul_le_mul_right _ (Nat.le_of_lt hmd)
  · have hc0 : 0 < m / 2 ^ d := Nat.pos_of_ne_zero hc
    generalize hcc : m / 2 ^ d = c at *
    have hcm : c ≤ m := by rw [← hcc]; exact Nat.div_le_self ..
    have hg : decide (Ieee.signed s c 0 < 0) = s := by
      unfold Ieee.signed
      rw [Nat.shiftLeft_zero]
      cases s
      · simp
      · simp; omega
    rw [hg, nat_decode s c hc0 (by omega)]
    -- the place of the whole part is the lower one
    have hld : c.log2 + d ≤ 52 := by
      have h1 := Nat.log2_self_le (show c ≠ 0 by omega)
      have h2 : 2 ^ c.log2 * 2 ^ d ≤ m := by
        have h3 : 2 ^ d * c ≤ m := by omega
        calc 2 ^ c.log2 * 2 ^ d ≤ c * 2 ^ d := Nat.mul_le_mul_right _ h1
          _ = 2 ^ d * c := Nat.mul_comm ..
          _ ≤ m := h3
      rw [← Nat.pow_add] at h2
      have h4 : 2 ^ (c.log2 + d) < 2 ^ 53 := Nat.lt_of_le_of_lt h2 (by simpa using hm)
      have := (Nat.pow_lt_pow_iff_right (show 1 < 2 by decide)).1 h4
      omega
    refine ⟨_, rfl, ?_⟩
    have e0 : min (-(d : Int)) (-((52 - c.log2 : Nat) : Int)) = -((52 - c.log2 : Nat) : Int) := by omega
    simp only [e0]
    obtain ⟨u, hu⟩ : ∃ u, 52 - c.log2 = d + u := ⟨52 - c.log2 - d, by omega⟩
    have e1 : (-(d : Int) - -((52 - c.log2 : Nat) : Int)).toNat = u := by omega
    have e2 : (-((52 - c.log2 : Nat) : Int) - -((52 - c.log2 : Nat) : Int)).toNat = 0 := by omega
    rw [e1, e2]
    have e3 : c * 2 ^ (52 - c.log2) = (2 ^ d * c) * 2 ^ u := by rw [hu, Nat.pow_add]; simp only [Nat.mul_comm, Nat.mul_assoc]
    have ht : (Ieee.signed s m u + Ieee.signed (!s) (c * 2 ^ (52 - c.log2)) 0).natAbs = (m % 2 ^ d) * 2 ^ u := by
      have e4 : m * 2 ^ u = (2 ^ d * c) * 2 ^ u + (m % 2 ^ d) * 2 ^ u := by rw [← Nat.add_mul, hdm]
      unfold Ieee.signed
      rw [Nat.shiftLeft_zero, Nat.shiftLeft_eq, e3, e4]
      generalize 2 ^ d * c * 2 ^ u = A
      generalize m % 2 ^ d * 2 ^ u = B
      cases s
      · simp only [Bool.not_false, Bool.false_eq_true, if_false, if_true]; omega
      · simp only [Bool.not_true, Bool.false_eq_true, if_false, if_true]; omega
    refine sm_near _ _ _ (d + u) ?_ 1022 (by decide) (by decide) (by omega)
    rw [ht, Nat.pow_add]
    exact Nat.mul_le_mul_right _ (Nat.le_of_lt hml)
end Go.Proofs.Ytdpnkpgfepckdaa
