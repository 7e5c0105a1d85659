/- The sine of some turns: what is computed, and how great it can be. -/
import Derived.Test.YtdpnkpgfepckdaaPart
import Derived.Test.YtdpnkpgfepckdaaLogQ
namespace Go.Proofs.Ytdpnkpgfepckdaa
open Go.RowKit

def hfW : Nat := 4602678819172646912
def qtW : Nat := 4598175219545276416
def tnW : Nat := 4618760256179416344

theorem xor_mod (x : Nat) : (x ^^^ 9223372036854775808) % 9223372036854775808 = x % 9223372036854775808 := by
  rw [show (9223372036854775808 : Nat) = 2 ^ 63 by decide, Nat.xor_mod_two_pow, Nat.mod_self, Nat.xor_zero]
theorem neg_mod (x : Nat) : Op.negFloat .f64 x % 9223372036854775808 = x % 9223372036854775808 := by
  have : Op.negFloat .f64 x = x ^^^ 9223372036854775808 := rfl
  rw [this]; exact xor_mod x
theorem neg_lt (x : Nat) (h : x < 18446744073709551616) : Op.negFloat .f64 x < 18446744073709551616 := by
  have h1 : Op.negFloat .f64 x = x ^^^ 9223372036854775808 := rfl
  rw [h1, show (18446744073709551616 : Nat) = 2 ^ 64 by decide]
  exact Nat.xor_lt_two_pow (by simpa using h) (by decide)
theorem Rp.neg {o : Option Nat} {z : Nat} (h : Rp .f64 o z) : Rp .f64 (o.map (Op.negFloat .f64)) (Op.negFloat .f64 z) := by
  cases o with
  | some b => obtain rfl : z = b := h; rfl
  | none =>
    refine ⟨?_, ?_⟩
    · have := h.1
      rw [nan64_iff] at this ⊢
      rw [neg_mod]; exact this
    · exact neg_lt z h.2
theorem SmO.neg {o : Option Nat} {E : Nat} (h : SmO E o) : SmO E (o.map (Op.negFloat .f64)) := by
  obtain ⟨b, rfl, hb⟩ := h
  refine ⟨_, rfl, ?_⟩
  unfold Sm at hb ⊢
  rw [neg_mod]; exact hb

def sF1 (y : Nat) : Option Nat := if (ford .f64 (partV y) (some 0) == some .lt) = true then fop .add .f64 (partV y) (some oneW) else partV y
def sBelow (y : Nat) : Bool := ford .f64 (sF1 y) (some hfW) == some .gt || ford .f64 (sF1 y) (some hfW) == some .eq
def sF2 (y : Nat) : Option Nat := if sBelow y = true then fop .sub .f64 (sF1 y) (some hfW) else sF1 y
def sF3 (y : Nat) : Option Nat := if (ford .f64 (sF2 y) (some qtW) == some .gt) = true then fop .sub .f64 (some hfW) (sF2 y) else sF2 y
def sZ (y : Nat) : Option Nat := fop .mul .f64 (sF3 y) (some tnW)
def sU (y : Nat) : Option Nat := fop .mul .f64 (sZ y) (sZ y)
def sK (j : Nat) : Int := 2 * (8 - (j : Int)) * (2 * (8 - (j : Int)) + 1)
def sP (y : Nat) : Nat → Option Nat
  | 0 => some oneW
  | j + 1 => fop .sub .f64 (some oneW) (fop .quo .f64 (fop .mul .f64 (sU y) (sP y j)) (some (floatOfInt .f64 (sK j))))
def sR (y : Nat) : Option Nat := fop .mul .f64 (sZ y) (sP y 8)
def sV (y : Nat) : Option Nat := if sBelow y = true then (sR y).map (Op.negFloat .f64) else sR y

theorem sK_lo : ∀ j : Nat, j < 8 → Lo (floatOfInt .f64 (sK j)) := by
  have : ∀ j : Fin 8, 1023 * 4503599627370496 ≤ floatOfInt .f64 (sK j.val) % 9223372036854775808 ∧ floatOfInt .f64 (sK j.val) % 9223372036854775808 < 9218868437227405312 := by decide +kernel
  exact fun j hj => this ⟨j, hj⟩

section
variable {y : Nat} (h : y % 9223372036854775808 < 4841369599423283200)
include h
theorem sF1_sm : SmO 1023 (sF1 y) := by
  unfold sF1
  have hs := (part_sm h).2
  split
  · exact hs.add (F := 1022) (sm_const (by decide)) (by decide) (by decide) (by decide) (by decide) (by decide)
  · obtain ⟨b, hb, hm⟩ := hs
    exact ⟨b, hb, by unfold Sm at hm ⊢; omega⟩
theorem sF2_sm : SmO 1024 (sF2 y) := by
  unfold sF2
  have hs := sF1_sm h
  split
  · exact hs.sub (F := 1022) (sm_const (by decide)) (by decide) (by decide) (by decide) (by decide) (by decide)
  · obtain ⟨b, hb, hm⟩ := hs
    exact ⟨b, hb, by unfold Sm at hm ⊢; omega⟩
theorem sF3_sm : SmO 1025 (sF3 y) := by
  unfold sF3
  have hs := sF2_sm h
  split
  · exact SmO.sub (E := 1022) (sm_const (by decide)) hs (by decide) (by decide) (by decide) (by decide) (by decide)
  · obtain ⟨b, hb, hm⟩ := hs
    exact ⟨b, hb, by unfold Sm at hm ⊢; omega⟩
theorem sZ_sm : SmO 1028 (sZ y) := (sF3_sm h).mul (F := 1025) (sm_const (by decide)) (by decide) (by decide) (by decide) (by decide) (by decide)
theorem sU_sm : SmO 1034 (sU y) := (sZ_sm h).mul (sZ_sm h) (by decide) (by decide) (by decide) (by decide) (by decide)
theorem sP_sm : ∀ j, j ≤ 8 → SmO (1022 + 13 * j) (sP y j)
  | 0, _ => sm_const (by decide)
  | j + 1, hj => by
    have ih := sP_sm j (by omega)
    exact SmO.sub (E := 1022) (F := 1022 + 13 * j + 12) (sm_const (by decide)) (((sU_sm h).mul ih (G := 1022 + 13 * j + 12) (by decide) (by omega) (by omega) (by omega) (by omega)).div ⟨_, rfl, sK_lo j (by omega)⟩ (by omega) (by omega)) (by decide) (by omega) (by omega) (by omega) (by omega)
theorem sR_sm : SmO 1132 (sR y) := (sZ_sm h).mul (sP_sm h 8 (by decide)) (by decide) (by decide) (by decide) (by decide) (by decide)
theorem sV_sm : SmO 1132 (sV y) := by
  unfold sV
  split
  · exact (sR_sm h).neg
  · exact sR_sm h
end

theorem sF1_lt {y a z : Nat} (ha : Rp .f64 (partV y) a) (ht : (FloatKind.f64.format.order a 0 == some .lt) = true) (hz : Rp .f64 (floatBits .add .f64 a oneW) z) : Rp .f64 (sF1 y) z := by
  unfold sF1
  rw [← ha.ford (Rp.refl _ 0), if_pos ht]
  exact Rp.fop ha (Rp.refl _ _) hz
theorem sF1_ge {y a : Nat} (ha : Rp .f64 (partV y) a) (ht : (FloatKind.f64.format.order a 0 == some .lt) = false) : Rp .f64 (sF1 y) a := by
  unfold sF1
  rw [← ha.ford (Rp.refl _ 0), ht, if_neg Bool.false_ne_true]
  exact ha
theorem sBelow_eq {y a : Nat} (ha : Rp .f64 (sF1 y) a) : sBelow y = (FloatKind.f64.format.order a hfW == some .gt || FloatKind.f64.format.order a hfW == some .eq) := by
  unfold sBelow
  rw [← ha.ford (Rp.refl _ hfW)]
theorem sF2_pos {y a z : Nat} (ha : Rp .f64 (sF1 y) a) (hb : sBelow y = true) (hz : Rp .f64 (floatBits .sub .f64 a hfW) z) : Rp .f64 (sF2 y) z := by
  unfold sF2
  rw [if_pos hb]
  exact Rp.fop ha (Rp.refl _ _) hz
theorem sF2_neg {y a : Nat} (ha : Rp .f64 (sF1 y) a) (hb : sBelow y = false) : Rp .f64 (sF2 y) a := by
  unfold sF2
  rw [hb, if_neg Bool.false_ne_true]
  exact ha
theorem sF3_gt {y a z : Nat} (ha : Rp .f64 (sF2 y) a) (ht : (FloatKind.f64.format.order a qtW == some .gt) = true) (hz : Rp .f64 (floatBits .sub .f64 hfW a) z) : Rp .f64 (sF3 y) z := by
  unfold sF3
  rw [← ha.ford (Rp.refl _ qtW), if_pos ht]
  exact Rp.fop (Rp.refl _ _) ha hz
theorem sF3_le {y a : Nat} (ha : Rp .f64 (sF2 y) a) (ht : (FloatKind.f64.format.order a qtW == some .gt) = false) : Rp .f64 (sF3 y) a := by
  unfold sF3
  rw [← ha.ford (Rp.refl _ qtW), ht, if_neg Bool.false_ne_true]
  exact ha
theorem sP_next {y j : Nat} {u p a b z : Nat} (hu : Rp .f64 (sU y) u) (hp : Rp .f64 (sP y j) p) (ha : Rp .f64 (floatBits .mul .f64 u p) a) (hb : Rp .f64 (floatBits .quo .f64 a (floatOfInt .f64 (sK j))) b) (hz : Rp .f64 (floatBits .sub .f64 oneW b) z) : Rp .f64 (sP y (j + 1)) z :=
  Rp.fop (Rp.refl _ _) (Rp.fop (hu.fop hp ha) (Rp.refl _ _) hb) hz

theorem sK_wrap : ∀ j : Nat, j < 8 → wrap64 (2 * (8 - (j : Int)) * (2 * (8 - (j : Int)) + 1)) = sK j := by
  have : ∀ j : Fin 8, wrap64 (2 * (8 - ((j.val : Nat) : Int)) * (2 * (8 - ((j.val : Nat) : Int)) + 1)) = sK j.val := by decide +kernel
  exact fun j hj => this ⟨j, hj⟩
theorem sP_step {y j : Nat} {u p a b z : Nat} (hj : j < 8) (hu : Rp .f64 (sU y) u) (hp : Rp .f64 (sP y j) p) (ha : Rp .f64 (floatBits .mul .f64 u p) a) (hb : Rp .f64 (floatBits .quo .f64 a (floatOfInt .f64 (wrap64 (2 * (8 - (j : Int)) * (2 * (8 - (j : Int)) + 1))))) b) (hz : Rp .f64 (floatBits .sub .f64 oneW b) z) : Rp .f64 (sP y (j + 1)) z := by
  rw [sK_wrap j hj] at hb
  exact sP_next hu hp ha hb hz
theorem sV_below {y r : Nat} (hb : sBelow y = true) (h : Rp .f64 (sR y) r) : Rp .f64 (sV y) (Op.negFloat .f64 r) := by
  unfold sV
  rw [if_pos hb]; exact h.neg
theorem sV_above {y r : Nat} (hb : sBelow y = false) (h : Rp .f64 (sR y) r) : Rp .f64 (sV y) r := by
  unfold sV
  rw [hb, if_neg Bool.false_ne_true]; exact h

theorem sub_self_64 {y : Nat} (h : y % 9223372036854775808 < 9218868437227405312) : floatBits .sub .f64 y y = some 0 := by
  have hd : floatBits .sub .f64 y y = ((FloatKind.f64.decode y).sum (FloatKind.f64.decode y).opposite).map FloatKind.f64.format.write := rfl
  have hn : ∃ g m e, FloatKind.f64.decode y = .number g m e := by
    rw [read_double]
    split
    · exact ⟨_, _, _, rfl⟩
    · exact ⟨_, _, _, rfl⟩
  obtain ⟨g, m, e, hn⟩ := hn
  have ht : Ieee.signed g m 0 + Ieee.signed (!g) m 0 = 0 := by
    cases g <;> simp [Ieee.signed] <;> omega
  rw [hd, hn]
  simp only [Ieee.Datum.opposite, Ieee.Datum.sum, Int.min_self, Int.sub_self, Int.toNat_zero, ht, Option.map_some, Ieee.Format.write, Ieee.Format.nearest, Int.natAbs_zero, if_true, Bool.and_not_self, Ieee.Format.word]
  rfl

/-- The order of a small number, or of a great one, and of 2 to the power of 52. -/
theorem dec_c52 : FloatKind.f64.decode 4841369599423283200 = .number false 4503599627370496 0 := by decide +kernel
theorem dec_n52 : FloatKind.f64.decode 14064741636278059008 = .number true 4503599627370496 0 := by decide +kernel
theorem small_order {y : Nat} (h : y % 9223372036854775808 < 4841369599423283200) : FloatKind.f64.format.order y 4841369599423283200 = some .lt ∧ FloatKind.f64.format.order y 14064741636278059008 = some .gt := by
  obtain ⟨m, i, hd, hm, hi0, hi1⟩ := decode_any y h
  have h1 : FloatKind.f64.format.order y 4841369599423283200 = (FloatKind.f64.decode y).order (FloatKind.f64.decode 4841369599423283200) := rfl
  have h2 : FloatKind.f64.format.order y 14064741636278059008 = (FloatKind.f64.decode y).order (FloatKind.f64.decode 14064741636278059008) := rfl
  obtain ⟨d, rfl⟩ : ∃ d : Nat, i = -((d : Int) + 1) := ⟨(-i - 1).toNat, by omega⟩
  have e0 : min (-((d : Int) + 1)) 0 = -((d : Int) + 1) := by omega
  have e1 : (-((d : Int) + 1) - -((d : Int) + 1)).toNat = 0 := by omega
  have e2 : (0 - -((d : Int) + 1)).toNat = d + 1 := by omega
  have hp := Nat.two_pow_pos d
  have hlt : m < 4503599627370496 * 2 ^ (d + 1) := by
    rw [Nat.pow_succ]
    have : 4503599627370496 * 1 ≤ 4503599627370496 * 2 ^ d := Nat.mul_le_mul_left _ hp
    omega
  rw [h1, h2, hd, dec_c52, dec_n52]
  simp only [Ieee.Datum.order, e0, e1, e2, Ieee.signed, Nat.shiftLeft_eq, Nat.pow_zero, Nat.mul_one, Option.some.injEq]
  generalize 4503599627370496 * 2 ^ (d + 1) = c at *
  constructor
  · show compareOfLessAndEq _ _ = _
    unfold compareOfLessAndEq
    rw [if_pos]
    split <;> simp <;> omega
  · show compareOfLessAndEq _ _ = _
    unfold compareOfLessAndEq
    rw [if_neg, if_neg]
    · split <;> simp <;> omega
    · split <;> simp <;> omega
theorem great_order {y : Nat} (h : 4841369599423283200 ≤ y) (h2 : y < 9218868437227405312) : FloatKind.f64.format.order y 4841369599423283200 = some .gt ∨ FloatKind.f64.format.order y 4841369599423283200 = some .eq := by
  rw [order_pos (by omega) h2 (by omega) (by omega), if_neg (by omega)]
  split
  · right; rfl
  · left; rfl
theorem great_neg {q : Nat} (h1 : 4841369599423283200 ≤ q) (h2 : q < 9218868437227405312) : FloatKind.f64.format.order (9223372036854775808 + q) 4841369599423283200 = some .lt ∧ (FloatKind.f64.format.order (9223372036854775808 + q) 14064741636278059008 = some .lt ∨ FloatKind.f64.format.order (9223372036854775808 + q) 14064741636278059008 = some .eq) := by
  have hm : (9223372036854775808 + q) % 9223372036854775808 = q := by omega
  have hs : ((9223372036854775808 + q) / 9223372036854775808 % 2 == 1) = true := by rw [show (9223372036854775808 + q) / 9223372036854775808 = 1 by omega]; rfl
  have hd : FloatKind.f64.decode (9223372036854775808 + q) = .number true (4503599627370496 + q % 4503599627370496) (-1074 + ((q / 4503599627370496 - 1 : Nat) : Int)) := by
    rw [read_double, hm, hs, if_neg (by omega), if_pos h2]
  have hmq := Nat.mod_lt q (show 4503599627370496 > 0 by decide)
  have k1 : FloatKind.f64.format.order (9223372036854775808 + q) 4841369599423283200 = (FloatKind.f64.decode (9223372036854775808 + q)).order (FloatKind.f64.decode 4841369599423283200) := rfl
  have k2 : FloatKind.f64.format.order (9223372036854775808 + q) 14064741636278059008 = (FloatKind.f64.decode (9223372036854775808 + q)).order (FloatKind.f64.decode 14064741636278059008) := rfl
  obtain ⟨d, hd2⟩ : ∃ d : Nat, q / 4503599627370496 = 1075 + d := ⟨q / 4503599627370496 - 1075, by omega⟩
  have e3 : (-1074 + ((q / 4503599627370496 - 1 : Nat) : Int)) = (d : Int) := by omega
  have e0 : min (d : Int) 0 = 0 := by omega
  have e1 : ((d : Int) - 0).toNat = d := by omega
  have e2 : (0 - 0 : Int).toNat = 0 := by decide
  have hp := Nat.two_pow_pos d
  have hge : 4503599627370496 ≤ (4503599627370496 + q % 4503599627370496) * 2 ^ d := by
    have := Nat.mul_le_mul (show 4503599627370496 ≤ 4503599627370496 + q % 4503599627370496 by omega) hp
    omega
  rw [k1, k2, hd, dec_c52, dec_n52, e3]
  simp only [Ieee.Datum.order, e0, e1, e2, Ieee.signed, Nat.shiftLeft_eq, Nat.pow_zero, Nat.mul_one, if_true, Bool.false_eq_true, if_false, Option.some.injEq]
  generalize (4503599627370496 + q % 4503599627370496) * 2 ^ d = c at *
  constructor
  · show compareOfLessAndEq _ _ = _
    unfold compareOfLessAndEq
    rw [if_pos (by omega)]
  · by_cases hc : c = 4503599627370496
    · right
      show compareOfLessAndEq _ _ = _
      unfold compareOfLessAndEq
      rw [if_neg (by omega), if_pos (by omega)]
    · left
      show compareOfLessAndEq _ _ = _
      unfold compareOfLessAndEq
      rw [if_pos (by omega)]

theorem andNot63 (x : Nat) (hx : x < 2 ^ 64) : x &&& (2 ^ 64 - (2 ^ 63 + 1)) = x % 2 ^ 63 := by
  apply Nat.eq_of_testBit_eq
  intro i
  rw [Nat.testBit_and, Nat.testBit_two_pow_sub_succ (by decide), Nat.testBit_two_pow, Nat.testBit_mod_two_pow]
  by_cases h : i < 63
  · have h1 : i < 64 := by omega
    have h2 : ¬ 63 = i := by omega
    simp [h, h1, h2]
  · by_cases h1 : i = 63
    · subst h1; simp
    · have : x.testBit i = false := Nat.testBit_lt_two_pow (Nat.lt_of_lt_of_le hx (Nat.pow_le_pow_right (by omega) (by omega)))
      simp [this]
theorem u64_andNot63 (x : Nat) (hx : x < 18446744073709551616) : bits .andNot .u64 (x : Int) 9223372036854775808 = ((x % 9223372036854775808 : Nat) : Int) := by
  show IntKind.u64.wrap ((BitVec.ofInt 64 (x : Int) &&& ~~~BitVec.ofInt 64 9223372036854775808).toNat : Int) = _
  have h1 : (BitVec.ofInt 64 9223372036854775808).toNat = 2 ^ 63 := by decide
  have h2 : (BitVec.ofInt 64 (x : Int)).toNat = x := by
    rw [BitVec.toNat_ofInt]
    have : ((x : Int) % ((2 ^ 64 : Nat) : Int)) = (x : Int) := Int.emod_eq_of_lt (by omega) (by simpa using (by omega : (x : Int) < 18446744073709551616))
    rw [this]; exact Int.toNat_natCast x
  rw [BitVec.toNat_and, BitVec.toNat_not, h2, h1, show 2 ^ 64 - 1 - 2 ^ 63 = 2 ^ 64 - (2 ^ 63 + 1) by decide, andNot63 x (by simpa using hx)]
  simp [IntKind.wrap, IntKind.bits, IntKind.signed]
  omega
end Go.Proofs.Ytdpnkpgfepckdaa
