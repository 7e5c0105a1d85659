/- Bounds that are powers of two go through '+', '-', '*', '/'. 'Sm E x': the absolute value of x is at most 2 to the power of E - 1022. -/
import Derived.Test.YtdmcjloaommnpaaSize
namespace Go.Proofs.Ytdmcjloaommnpaa

theorem hB : Ieee.double.binade = 4503599627370496 := by decide +kernel
theorem hS : Ieee.double.signWeight = 9223372036854775808 := by decide +kernel
theorem hI : Ieee.double.infRung = 9218868437227405312 := by decide +kernel

/-- A power of two is written as it is. -/
theorem nearest_pow (neg : Bool) (n : Nat) (place : Int) (E : Nat) (hE1 : 1 ≤ E) (hE2 : E ≤ 2045) (hE : place + n + 1022 = E) : Ieee.double.nearest neg (2 ^ n) place = Ieee.double.word neg ((E + 1) * 4503599627370496) := by
  unfold Ieee.Format.nearest
  have h0 : (2 ^ n : Nat) ≠ 0 := by have := Nat.two_pow_pos n; omega
  rw [if_neg h0, Nat.log2_two_pow]
  have hf : (Ieee.double.fractionBits : Int) = 52 := rfl
  have hl : Ieee.double.leastPlace = -1074 := by decide
  rw [hl, hf]
  have hlast : max (place + (n : Int) - 52) (-1074) = place + n - 52 := by omega
  simp only [hlast]
  have e1 : (place + (n : Int) - 52 - -1074).toNat = E := by omega
  rw [e1, hB]
  have hk : Ieee.Toward.even.cut neg (2 ^ n <<< (place - (place + (n : Int) - 52)).toNat) (place + (n : Int) - 52 - place).toNat = 4503599627370496 := by
    by_cases hn : n ≤ 52
    · have a1 : (place - (place + (n : Int) - 52)).toNat = 52 - n := by omega
      have a2 : (place + (n : Int) - 52 - place).toNat = 0 := by omega
      rw [a1, a2, Nat.shiftLeft_eq, ← Nat.pow_add, show n + (52 - n) = 52 by omega]
      unfold Ieee.Toward.cut
      simp
    · have a1 : (place - (place + (n : Int) - 52)).toNat = 0 := by omega
      have a2 : (place + (n : Int) - 52 - place).toNat = n - 52 := by omega
      rw [a1, a2, Nat.shiftLeft_zero]
      unfold Ieee.Toward.cut
      have hp := Nat.two_pow_pos (n - 52)
      have hm : min (n - 52) ((2 ^ n).log2 + 2) = n - 52 := by rw [Nat.log2_two_pow]; omega
      have hd : 2 ^ n = 2 ^ (n - 52) * 4503599627370496 := by
        rw [show (4503599627370496 : Nat) = 2 ^ 52 by decide, ← Nat.pow_add, show n - 52 + 52 = n by omega]
      simp only [hm, Nat.shiftLeft_eq, Nat.one_mul]
      rw [hd, Nat.mul_div_cancel_left _ hp, Nat.mul_mod_right]
      have h2 : ¬ (2 ^ (n - 52) < 2 * 0) := by omega
      have h3 : (2 ^ (n - 52) == 2 * 0) = false := by rw [beq_eq_false_iff_ne]; omega
      simp [h3]
  rw [hk, hI, Nat.min_eq_left (by omega), show E * 4503599627370496 + 4503599627370496 = (E + 1) * 4503599627370496 by rw [Nat.add_mul, Nat.one_mul]]

theorem sm_near (neg : Bool) (mag : Nat) (place : Int) (n : Nat) (hm : mag ≤ 2 ^ n) (E : Nat) (hE1 : 1 ≤ E) (h3 : E ≤ 2045) (hE : place + n + 1022 ≤ E) : Sm E (Ieee.double.nearest neg mag place) := by
  by_cases h : mag < 2 ^ n
  · exact sm_nearest neg mag place n h E hE1 hE
  · obtain rfl : mag = 2 ^ n := by omega
    by_cases h2 : place + n + 1022 < E
    · exact sm_nearest neg _ place (n + 1) (by rw [Nat.pow_succ]; have := Nat.two_pow_pos n; omega) E hE1 (by omega)
    · rw [nearest_pow neg n place E hE1 h3 (by omega)]
      unfold Sm
      rw [← hS, word_mod Ieee.double neg _ (by rw [hS]; omega)]
      exact Nat.le_refl _

/-- What is told of the parts. -/
theorem sm_parts {x E : Nat} {s : Bool} {m : Nat} {i : Int} (hx : Sm E x) (h : FloatKind.f64.decode x = .number s m i) : ∃ n : Nat, m ≤ 2 ^ n ∧ i + n + 1022 ≤ E ∧ -1074 ≤ i := by
  unfold Sm at hx
  rw [read_double] at h
  split at h
  · simp only [Ieee.Datum.number.injEq] at h
    obtain ⟨_, rfl, rfl⟩ := h
    refine ⟨52, by omega, by omega, by omega⟩
  · split at h
    · simp only [Ieee.Datum.number.injEq] at h
      obtain ⟨_, rfl, rfl⟩ := h
      have := Nat.mod_lt (x % 9223372036854775808) (show 4503599627370496 > 0 by decide)
      by_cases he : x % 9223372036854775808 = (E + 1) * 4503599627370496
      · refine ⟨52, ?_, by omega, by omega⟩
        rw [he, Nat.mul_mod_left]; decide
      · exact ⟨53, by omega, by omega, by omega⟩
    · split at h <;> cases h

theorem sm_number {x E : Nat} (hx : Sm E x) (hE : E ≤ 2045) : (∃ s m i, FloatKind.f64.decode x = .number s m i) := by
  unfold Sm at hx
  rw [read_double]
  split
  · exact ⟨_, _, _, rfl⟩
  · split
    · exact ⟨_, _, _, rfl⟩
    · omega

theorem sm_mul {x y r E F : Nat} (hx : Sm E x) (hy : Sm F y) (hE : E ≤ 2045) (hF : F ≤ 2045) (h : floatBits .mul .f64 x y = some r) (G : Nat) (hG : E + F ≤ G + 1022) (hG1 : 1 ≤ G) (hG2 : G ≤ 2045) : Sm G r := by
  have hd : floatBits .mul .f64 x y = ((FloatKind.f64.decode x).product (FloatKind.f64.decode y)).map Ieee.double.write := rfl
  obtain ⟨s, m, i, hdx⟩ := sm_number hx hE
  obtain ⟨t, n, j, hdy⟩ := sm_number hy hF
  obtain ⟨a, ha, hia, _⟩ := sm_parts hx hdx
  obtain ⟨b, hb, hjb, _⟩ := sm_parts hy hdy
  rw [hd, hdx, hdy] at h
  simp only [Ieee.Datum.product, Option.map_some, Option.some.injEq] at h
  subst h
  exact sm_near _ _ _ (a + b) (by rw [Nat.pow_add]; exact Nat.mul_le_mul ha hb) G hG1 hG2 (by omega)

theorem signed_abs (s : Bool) (m u : Nat) : (Ieee.signed s m u).natAbs = m * 2 ^ u := by
  unfold Ieee.signed
  rw [Nat.shiftLeft_eq]
  split <;> omega

theorem sm_sum {r E F : Nat} {s t : Bool} {m n : Nat} {i j : Int} {a b : Nat} (ha : m ≤ 2 ^ a) (hb : n ≤ 2 ^ b) (hia : i + a + 1022 ≤ E) (hjb : j + b + 1022 ≤ F)
    (h : ((Ieee.Datum.number s m i).sum (.number t n j)).map Ieee.double.write = some r) (G : Nat) (hE : E + 1 ≤ G) (hF : F + 1 ≤ G) (hG : G ≤ 2045) : Sm G r := by
  simp only [Ieee.Datum.sum, Option.map_some, Option.some.injEq] at h
  subst h
  have k1 := signed_abs s m (i - min i j).toNat
  have k2 := signed_abs t n (j - min i j).toNat
  generalize Ieee.signed s m (i - min i j).toNat = P at *
  generalize Ieee.signed t n (j - min i j).toNat = Q at *
  obtain ⟨c, hc⟩ : ∃ c : Nat, (c : Int) = max (i + a) (j + b) - min i j := ⟨(max (i + a) (j + b) - min i j).toNat, by omega⟩
  have l1 : P.natAbs ≤ 2 ^ c := by
    rw [k1]
    refine Nat.le_trans (Nat.mul_le_mul_right _ ha) ?_
    rw [← Nat.pow_add]; exact Nat.pow_le_pow_right (by omega) (by omega)
  have l2 : Q.natAbs ≤ 2 ^ c := by
    rw [k2]
    refine Nat.le_trans (Nat.mul_le_mul_right _ hb) ?_
    rw [← Nat.pow_add]; exact Nat.pow_le_pow_right (by omega) (by omega)
  refine sm_near _ _ _ (c + 1) ?_ G (by omega) hG (by omega)
  rw [Nat.pow_succ]
  omega

theorem sm_add {x y r E F : Nat} (hx : Sm E x) (hy : Sm F y) (hE : E ≤ 2045) (hF : F ≤ 2045) (h : floatBits .add .f64 x y = some r) (G : Nat) (h1 : E + 1 ≤ G) (h2 : F + 1 ≤ G) (h3 : G ≤ 2045) : Sm G r := by
  have hd : floatBits .add .f64 x y = ((FloatKind.f64.decode x).sum (FloatKind.f64.decode y)).map Ieee.double.write := rfl
  obtain ⟨s, m, i, hdx⟩ := sm_number hx hE
  obtain ⟨t, n, j, hdy⟩ := sm_number hy hF
  obtain ⟨a, ha, hia, _⟩ := sm_parts hx hdx
  obtain ⟨b, hb, hjb, _⟩ := sm_parts hy hdy
  rw [hd, hdx, hdy] at h
  exact sm_sum ha hb hia hjb h G h1 h2 h3

theorem sm_sub {x y r E F : Nat} (hx : Sm E x) (hy : Sm F y) (hE : E ≤ 2045) (hF : F ≤ 2045) (h : floatBits .sub .f64 x y = some r) (G : Nat) (h1 : E + 1 ≤ G) (h2 : F + 1 ≤ G) (h3 : G ≤ 2045) : Sm G r := by
  have hd : floatBits .sub .f64 x y = ((FloatKind.f64.decode x).sum (FloatKind.f64.decode y).opposite).map Ieee.double.write := rfl
  obtain ⟨s, m, i, hdx⟩ := sm_number hx hE
  obtain ⟨t, n, j, hdy⟩ := sm_number hy hF
  obtain ⟨a, ha, hia, _⟩ := sm_parts hx hdx
  obtain ⟨b, hb, hjb, _⟩ := sm_parts hy hdy
  rw [hd, hdx, hdy] at h
  exact sm_sum ha hb hia hjb h G h1 h2 h3

/-- At least 1, and finite. -/
def Lo (y : Nat) : Prop := 1023 * 4503599627370496 ≤ y % 9223372036854775808 ∧ y % 9223372036854775808 < 9218868437227405312

theorem lo_parts {y : Nat} (h : Lo y) : ∃ s n j, FloatKind.f64.decode y = .number s n j ∧ 2 ^ 52 ≤ n ∧ n < 2 ^ 53 ∧ -52 ≤ j := by
  obtain ⟨h1, h2⟩ := h
  refine ⟨_, _, _, by rw [read_double, if_neg (by omega), if_pos h2], by omega, ?_, by omega⟩
  have := Nat.mod_lt (y % 9223372036854775808) (show 4503599627370496 > 0 by decide)
  omega

theorem sm_div {x y r E : Nat} (hx : Sm E x) (hy : Lo y) (hE : E ≤ 2045) (hE1 : 1 ≤ E) (h : floatBits .quo .f64 x y = some r) : Sm E r := by
  have hd : floatBits .quo .f64 x y = ((FloatKind.f64.decode x).quotient 54 (FloatKind.f64.decode y)).map Ieee.double.write := rfl
  obtain ⟨s, m, i, hdx⟩ := sm_number hx hE
  obtain ⟨t, n, j, hdy, hn1, hn2, hj⟩ := lo_parts hy
  obtain ⟨a, ha, hia, _⟩ := sm_parts hx hdx
  rw [hd, hdx, hdy] at h
  unfold Ieee.Datum.quotient at h
  simp only at h
  rw [if_neg (by have := Nat.two_pow_pos 52; omega)] at h
  simp only [Option.map_some, Option.some.injEq] at h
  subst h
  have hlm : m.log2 ≤ a := by
    by_cases h0 : m = 0
    · subst h0; simp
    · have := (Nat.log2_lt h0).2 (show m < 2 ^ (a + 1) by rw [Nat.pow_succ]; have := Nat.two_pow_pos a; omega)
      omega
  have hln : 52 ≤ n.log2 := by
    have h0 : n ≠ 0 := by have := Nat.two_pow_pos 52; omega
    have := (Nat.le_log2 h0).2 hn1
    exact this
  have hmore : 52 ≤ a + (54 + n.log2 - m.log2) := by omega
  generalize 54 + n.log2 - m.log2 = more at *
  have hn0 : 0 < n := by have := Nat.two_pow_pos 52; omega
  -- the dividend is at most 2 ^ (a + more), the quotient at most 2 ^ (a + more) / 2 ^ 52
  have hdv : m <<< more ≤ 2 ^ (a + more) := by rw [Nat.shiftLeft_eq, Nat.pow_add]; exact Nat.mul_le_mul_right _ ha
  refine sm_near _ _ _ (a + more - 52 + 1) ?_ E hE1 hE (by omega)
  have hp : 2 ^ (a + more) = 2 ^ (a + more - 52) * 2 ^ 52 := by rw [← Nat.pow_add]; congr 1; omega
  have hq : (m <<< more) / n ≤ 2 ^ (a + more - 52) := by
    refine Nat.div_le_of_le_mul ?_
    rw [Nat.mul_comm]
    refine Nat.le_trans hdv ?_
    rw [hp]; exact Nat.mul_le_mul_left _ hn1
  have hs : ((m <<< more % n != 0)).toNat ≤ 1 := Bool.toNat_le _
  rw [Nat.pow_succ]
  by_cases he : (m <<< more) / n = 2 ^ (a + more - 52)
  · have hz : m <<< more % n = 0 := by
      have h1 := Nat.div_add_mod (m <<< more) n
      rw [he] at h1
      have h2 : 2 ^ (a + more - 52) * 2 ^ 52 ≤ n * 2 ^ (a + more - 52) := by rw [Nat.mul_comm]; exact Nat.mul_le_mul_right _ hn1
      omega
    rw [hz, he]; simp; omega
  · omega
end Go.Proofs.Ytdmcjloaommnpaa
