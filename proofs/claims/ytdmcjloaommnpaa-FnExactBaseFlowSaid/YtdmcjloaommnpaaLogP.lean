/- The logarithm's steps on words: halving and doubling are exact, the order of positive words is that of numbers, and all results are small. -/
import Derived.Test.YtdmcjloaommnpaaSizeOps
namespace Go.Proofs.Ytdmcjloaommnpaa

/-- Finite or none: how great a result may be. -/
def SmO (E : Nat) (o : Option Nat) : Prop := ∃ b, o = some b ∧ Sm E b

theorem SmO.mul {X Y : Option Nat} {E F G : Nat} (hx : SmO E X) (hy : SmO F Y) (hE : E ≤ 2045) (hF : F ≤ 2045) (hG : E + F ≤ G + 1022) (hG1 : 1 ≤ G) (hG2 : G ≤ 2045) : SmO G (fop .mul .f64 X Y) := by
  obtain ⟨x, rfl, hx⟩ := hx
  obtain ⟨y, rfl, hy⟩ := hy
  obtain ⟨s, m, i, hdx⟩ := sm_number hx hE
  obtain ⟨t, n, j, hdy⟩ := sm_number hy hF
  have hd : floatBits .mul .f64 x y = ((FloatKind.f64.decode x).product (FloatKind.f64.decode y)).map Ieee.double.write := rfl
  have h : ∃ r, floatBits .mul .f64 x y = some r := by rw [hd, hdx, hdy]; exact ⟨_, rfl⟩
  obtain ⟨r, h⟩ := h
  exact ⟨r, h, sm_mul hx hy hE hF h G hG hG1 hG2⟩
theorem SmO.add {X Y : Option Nat} {E F G : Nat} (hx : SmO E X) (hy : SmO F Y) (hE : E ≤ 2045) (hF : F ≤ 2045) (h1 : E + 1 ≤ G) (h2 : F + 1 ≤ G) (hG : G ≤ 2045) : SmO G (fop .add .f64 X Y) := by
  obtain ⟨x, rfl, hx⟩ := hx
  obtain ⟨y, rfl, hy⟩ := hy
  obtain ⟨s, m, i, hdx⟩ := sm_number hx hE
  obtain ⟨t, n, j, hdy⟩ := sm_number hy hF
  have hd : floatBits .add .f64 x y = ((FloatKind.f64.decode x).sum (FloatKind.f64.decode y)).map Ieee.double.write := rfl
  have h : ∃ r, floatBits .add .f64 x y = some r := by rw [hd, hdx, hdy]; exact ⟨_, rfl⟩
  obtain ⟨r, h⟩ := h
  exact ⟨r, h, sm_add hx hy hE hF h G h1 h2 hG⟩
theorem SmO.sub {X Y : Option Nat} {E F G : Nat} (hx : SmO E X) (hy : SmO F Y) (hE : E ≤ 2045) (hF : F ≤ 2045) (h1 : E + 1 ≤ G) (h2 : F + 1 ≤ G) (hG : G ≤ 2045) : SmO G (fop .sub .f64 X Y) := by
  obtain ⟨x, rfl, hx⟩ := hx
  obtain ⟨y, rfl, hy⟩ := hy
  obtain ⟨s, m, i, hdx⟩ := sm_number hx hE
  obtain ⟨t, n, j, hdy⟩ := sm_number hy hF
  have hd : floatBits .sub .f64 x y = ((FloatKind.f64.decode x).sum (FloatKind.f64.decode y).opposite).map Ieee.double.write := rfl
  have h : ∃ r, floatBits .sub .f64 x y = some r := by rw [hd, hdx, hdy]; exact ⟨_, rfl⟩
  obtain ⟨r, h⟩ := h
  exact ⟨r, h, sm_sub hx hy hE hF h G h1 h2 hG⟩
def LoO (o : Option Nat) : Prop := ∃ b, o = some b ∧ Lo b
theorem SmO.div {X Y : Option Nat} {E : Nat} (hx : SmO E X) (hy : LoO Y) (hE : E ≤ 2045) (hE1 : 1 ≤ E) : SmO E (fop .quo .f64 X Y) := by
  obtain ⟨x, rfl, hx⟩ := hx
  obtain ⟨y, rfl, hy⟩ := hy
  obtain ⟨s, m, i, hdx⟩ := sm_number hx hE
  obtain ⟨t, n, j, hdy, hn1, _⟩ := lo_parts hy
  have hd : floatBits .quo .f64 x y = ((FloatKind.f64.decode x).quotient 54 (FloatKind.f64.decode y)).map Ieee.double.write := rfl
  have h : ∃ r, floatBits .quo .f64 x y = some r := by
    rw [hd, hdx, hdy]
    unfold Ieee.Datum.quotient
    simp only
    rw [if_neg (by have := Nat.two_pow_pos 52; omega)]
    exact ⟨_, rfl⟩
  obtain ⟨r, h⟩ := h
  exact ⟨r, h, sm_div hx hy hE hE1 h⟩

theorem cut_ge (way : Ieee.Toward) (neg : Bool) (n drop : Nat) : n / 1 <<< min drop (n.log2 + 2) ≤ way.cut neg n drop := by
  unfold Ieee.Toward.cut
  exact Nat.le_add_right _ _

theorem pow52 (l : Nat) (h : l ≤ 52) : 2 ^ l * 2 ^ (52 - l) = 4503599627370496 := by
  rw [← Nat.pow_add, show l + (52 - l) = 52 by omega]
theorem pow52' (l : Nat) (h : 52 ≤ l) : 4503599627370496 * 2 ^ (l - 52) = 2 ^ l := by
  have : (4503599627370496 : Nat) = 2 ^ 52 := by decide
  rw [this, ← Nat.pow_add, show 52 + (l - 52) = l by omega]

theorem lo_near (mag : Nat) (place : Int) (n : Nat) (h : 2 ^ n ≤ mag) (hp : 0 ≤ place + n) (E : Nat) (hs : Sm E (Ieee.double.nearest false mag place)) (hE : E ≤ 2045) : Lo (Ieee.double.nearest false mag place) := by
  have h0 : mag ≠ 0 := by have := Nat.two_pow_pos n; omega
  have hl : n ≤ mag.log2 := (Nat.le_log2 h0).2 h
  have hm := Nat.log2_self_le h0
  unfold Sm at hs
  have key : ∃ r, 1023 * 4503599627370496 ≤ r ∧ Ieee.double.nearest false mag place = Ieee.double.word false (min r Ieee.double.infRung) := by
    unfold Ieee.Format.nearest
    rw [if_neg h0]
    have hf : (Ieee.double.fractionBits : Int) = 52 := rfl
    have hlp : Ieee.double.leastPlace = -1074 := by decide
    rw [hf, hlp]
    have hlast : max (place + (mag.log2 : Int) - 52) (-1074) = place + mag.log2 - 52 := by omega
    simp only [hlast, hB]
    refine ⟨_, ?_, rfl⟩
    have hk : 4503599627370496 ≤ Ieee.Toward.even.cut false (mag <<< (place - (place + (mag.log2 : Int) - 52)).toNat) (place + (mag.log2 : Int) - 52 - place).toNat := by
      refine Nat.le_trans ?_ (cut_ge ..)
      by_cases hc : mag.log2 ≤ 52
      · have a1 : (place - (place + (mag.log2 : Int) - 52)).toNat = 52 - mag.log2 := by omega
        have a2 : (place + (mag.log2 : Int) - 52 - place).toNat = 0 := by omega
        rw [a1, a2, Nat.zero_min, Nat.shiftLeft_zero, Nat.div_one, Nat.shiftLeft_eq]
        exact Nat.le_trans (Nat.le_of_eq (pow52 _ hc).symm) (Nat.mul_le_mul_right _ hm)
      · have a1 : (place - (place + (mag.log2 : Int) - 52)).toNat = 0 := by omega
        have a2 : (place + (mag.log2 : Int) - 52 - place).toNat = mag.log2 - 52 := by omega
        rw [a1, a2, Nat.shiftLeft_zero, Nat.min_eq_left (by omega), Nat.shiftLeft_eq, Nat.one_mul]
        rw [Nat.le_div_iff_mul_le (Nat.two_pow_pos _)]
        exact Nat.le_trans (Nat.le_of_eq (pow52' _ (by omega))) hm
    have e1 : 1022 ≤ (place + (mag.log2 : Int) - 52 - -1074).toNat := by omega
    have := Nat.mul_le_mul_right 4503599627370496 e1
    omega
  obtain ⟨r, hr, he⟩ := key
  have hw : Ieee.double.word false (min r Ieee.double.infRung) = min r 9218868437227405312 := by
    unfold Ieee.Format.word
    rw [if_neg Bool.false_ne_true, hI]
  rw [he, hw] at hs
  rw [he, hw]
  have hq1 : min r 9218868437227405312 ≤ 9218868437227405312 := Nat.min_le_right ..
  have hq2 : 1023 * 4503599627370496 ≤ min r 9218868437227405312 := Nat.le_min.2 ⟨hr, by decide⟩
  clear he hw hr
  generalize min r 9218868437227405312 = q at *
  have hmod : q % 9223372036854775808 = q := Nat.mod_eq_of_lt (Nat.lt_of_le_of_lt hq1 (by decide))
  unfold Lo
  rw [hmod] at hs ⊢
  exact ⟨hq2, Nat.lt_of_le_of_lt hs (Nat.lt_of_le_of_lt (Nat.mul_le_mul_right _ (show E + 1 ≤ 2046 by omega)) (by decide))⟩

def oneW : Nat := 4607182418800017408
def twoW : Nat := 4611686018427387904
def c075 : Nat := 4604930618986332160
def c15 : Nat := 4609434218613702656
theorem dec_one : FloatKind.f64.decode oneW = .number false 4503599627370496 (-52) := by decide +kernel
theorem dec_two : FloatKind.f64.decode twoW = .number false 4503599627370496 (-51) := by decide +kernel

/-- What lies from 0.75 to 1.5. -/
theorem mid_parts {x : Nat} (h1 : c075 ≤ x) (h2 : x < c15) : (FloatKind.f64.decode x = .number false (4503599627370496 + x % 4503599627370496) (-53) ∧ 2251799813685248 ≤ x % 4503599627370496) ∨ (FloatKind.f64.decode x = .number false (4503599627370496 + x % 4503599627370496) (-52) ∧ x % 4503599627370496 < 2251799813685248) := by
  unfold c075 at h1; unfold c15 at h2
  have hm : x % 9223372036854775808 = x := by omega
  have hs : (x / 9223372036854775808 % 2 == 1) = false := by rw [show x / 9223372036854775808 = 0 by omega]; rfl
  rw [read_double, hm, if_neg (by omega), if_pos (by omega), hs]
  by_cases hc : x < 4607182418800017408
  · left
    rw [show x / 4503599627370496 = 1022 by omega]
    exact ⟨rfl, by omega⟩
  · right
    rw [show x / 4503599627370496 = 1023 by omega]
    exact ⟨rfl, by omega⟩

theorem mid_sub {x : Nat} (h1 : c075 ≤ x) (h2 : x < c15) : SmO 1021 (fop .sub .f64 (some x) (some oneW)) := by
  have hd : fop .sub .f64 (some x) (some oneW) = ((FloatKind.f64.decode x).sum (FloatKind.f64.decode oneW).opposite).map Ieee.double.write := rfl
  have hm := Nat.mod_lt x (show 4503599627370496 > 0 by decide)
  rw [hd, dec_one]
  rcases mid_parts h1 h2 with ⟨hx, hf⟩ | ⟨hx, hf⟩
  · rw [hx]
    refine ⟨_, rfl, ?_⟩
    refine sm_near _ _ _ 51 ?_ 1021 (by decide) (by decide) (by decide)
    have e : min (-53 : Int) (-52) = -53 := by decide
    rw [e]
    simp only [Ieee.signed, Nat.shiftLeft_eq]
    simp
    omega
  · rw [hx]
    refine ⟨_, rfl, ?_⟩
    refine sm_near _ _ _ 51 ?_ 1021 (by decide) (by decide) (by decide)
    have e : min (-52 : Int) (-52) = -52 := by decide
    rw [e]
    simp only [Ieee.signed, Nat.shiftLeft_eq]
    simp
    omega

theorem mid_add {x : Nat} (h1 : c075 ≤ x) (h2 : x < c15) : LoO (fop .add .f64 (some x) (some oneW)) := by
  have hd : fop .add .f64 (some x) (some oneW) = ((FloatKind.f64.decode x).sum (FloatKind.f64.decode oneW)).map Ieee.double.write := rfl
  have hm := Nat.mod_lt x (show 4503599627370496 > 0 by decide)
  rw [hd, dec_one]
  rcases mid_parts h1 h2 with ⟨hx, hf⟩ | ⟨hx, hf⟩
  · rw [hx]
    refine ⟨_, rfl, ?_⟩
    have e : min (-53 : Int) (-52) = -53 := by decide
    simp only [e, Ieee.signed, Nat.shiftLeft_eq, Ieee.Format.write]
    have hz : ¬ (((4503599627370496 + x % 4503599627370496) * 2 ^ (-53 - -53 : Int).toNat : Nat) : Int) + ((4503599627370496 * 2 ^ (-52 - -53 : Int).toNat : Nat) : Int) = 0 := by simp; omega
    have hneg : decide ((((4503599627370496 + x % 4503599627370496) * 2 ^ (-53 - -53 : Int).toNat : Nat) : Int) + ((4503599627370496 * 2 ^ (-52 - -53 : Int).toNat : Nat) : Int) < 0) = false := by simp; omega
    simp only [Bool.false_eq_true, if_false, if_neg hz, hneg]
    refine lo_near _ _ 53 ?_ (by decide) 1025 (sm_near _ _ _ 55 ?_ 1025 (by decide) (by decide) (by decide)) (by decide)
    · simp; omega
    · simp; omega
  · rw [hx]
    refine ⟨_, rfl, ?_⟩
    have e : min (-52 : Int) (-52) = -52 := by decide
    simp only [e, Ieee.signed, Nat.shiftLeft_eq, Ieee.Format.write]
    have hz : ¬ (((4503599627370496 + x % 4503599627370496) * 2 ^ (-52 - -52 : Int).toNat : Nat) : Int) + ((4503599627370496 * 2 ^ (-52 - -52 : Int).toNat : Nat) : Int) = 0 := by simp; omega
    have hneg : decide ((((4503599627370496 + x % 4503599627370496) * 2 ^ (-52 - -52 : Int).toNat : Nat) : Int) + ((4503599627370496 * 2 ^ (-52 - -52 : Int).toNat : Nat) : Int) < 0) = false := by simp; omega
    simp only [Bool.false_eq_true, if_false, if_neg hz, hneg]
    refine lo_near _ _ 53 ?_ (by decide) 1025 (sm_near _ _ _ 55 ?_ 1025 (by decide) (by decide) (by decide)) (by decide)
    · simp; omega
    · simp; omega
end Go.Proofs.Ytdmcjloaommnpaa
