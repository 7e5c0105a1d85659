/- The angle of a point: what is computed, and how great it can be. -/
import Derived.Test.YtpaldmhlcgdmkabSineV
import Derived.Test.YtpaldmhlcgdmkabSqrt
namespace Go.Proofs.Ytpaldmhlcgdmkab

/-- A number without a sign. -/
def Po (o : Option Nat) : Prop := ∃ b, o = some b ∧ b < 9223372036854775808
def fsqrt (o : Option Nat) : Option Nat := o.bind FloatKind.f64.format.sqrt

theorem sm_mono {x E F : Nat} (h : Sm E x) (hE : E ≤ F) : Sm F x := Nat.le_trans h (Nat.mul_le_mul_right _ (Nat.succ_le_succ hE))
theorem near_po (mag : Nat) (place : Int) : Ieee.double.nearest false mag place < 9223372036854775808 := by
  have hw : ∀ r, Ieee.double.word false (min r Ieee.double.infRung) < 9223372036854775808 := fun r => by
    unfold Ieee.Format.word
    rw [if_neg Bool.false_ne_true, hI]
    exact Nat.lt_of_le_of_lt (Nat.min_le_right ..) (by decide)
  unfold Ieee.Format.nearest
  split
  · decide +kernel
  · exact hw _

theorem po_parts {x E : Nat} (hx : Sm E x) (hE : E ≤ 2045) (hp : x < 9223372036854775808) : ∃ m i, FloatKind.f64.decode x = .number false m i ∧ -1074 ≤ i := by
  obtain ⟨s, m, i, hd⟩ := sm_number hx hE
  have hs : s = false := by
    have h2 := read_double x
    rw [hd] at h2
    have h3 : (x / 9223372036854775808 % 2 == 1) = false := by rw [show x / 9223372036854775808 = 0 by omega]; rfl
    rw [h3] at h2
    split at h2
    · injection h2
    · split at h2
      · injection h2
      · split at h2 <;> cases h2
  obtain ⟨_, _, _, hi⟩ := sm_parts hx hd
  subst hs
  exact ⟨m, i, hd, hi⟩

theorem mul_self_po {o : Option Nat} {E : Nat} (h : SmO E o) (hE : E ≤ 2045) : Po (fop .mul .f64 o o) := by
  obtain ⟨x, rfl, hx⟩ := h
  obtain ⟨s, m, i, hd⟩ := sm_number hx hE
  have h1 : fop .mul .f64 (some x) (some x) = ((FloatKind.f64.decode x).product (FloatKind.f64.decode x)).map Ieee.double.write := rfl
  rw [h1, hd]
  refine ⟨_, rfl, ?_⟩
  simp only [Ieee.Format.write, Bool.xor_self]
  exact near_po ..

theorem add_one {o : Option Nat} {E : Nat} (h : SmO E o) (hE : E ≤ 2043) (hp : Po o) : LoO (fop .add .f64 (some oneW) o) ∧ Po (fop .add .f64 (some oneW) o) := by
  obtain ⟨x, rfl, hx⟩ := h
  obtain ⟨b, hb, hp⟩ := hp
  obtain rfl : x = b := by injection hb
  obtain ⟨m, i, hd, hi⟩ := po_parts hx (by omega) hp
  obtain ⟨n, hm, hin, _⟩ := sm_parts hx hd
  have h1 : fop .add .f64 (some oneW) (some x) = ((FloatKind.f64.decode oneW).sum (FloatKind.f64.decode x)).map Ieee.double.write := rfl
  have hone : SmO 1022 (some oneW) := sm_const (by decide)
  have hx' : SmO 2043 (some x) := ⟨x, rfl, sm_mono hx hE⟩
  obtain ⟨r, hr, hs⟩ : SmO 2045 (fop .add .f64 (some oneW) (some x)) := hone.add hx' (Nat.le_of_ble_eq_true rfl) (Nat.le_of_ble_eq_true rfl) (Nat.le_of_ble_eq_true rfl) (Nat.le_of_ble_eq_true rfl) (Nat.le_of_ble_eq_true rfl)
  rw [h1, dec_one, hd] at hr ⊢
  simp only [Ieee.Datum.sum, Option.map_some, Option.some.injEq, Ieee.Format.write] at hr ⊢
  have k1 : Ieee.signed false 4503599627370496 (-52 - min (-52) i).toNat = ((2 ^ (-(min (-52) i)).toNat : Nat) : Int) := by
    simp only [Ieee.signed, Bool.false_eq_true, if_false, Nat.shiftLeft_eq]
    rw [show (4503599627370496 : Nat) = 2 ^ 52 by decide, ← Nat.pow_add]
    congr 2
    omega
  have k2 : Ieee.signed false m (i - min (-52) i).toNat = ((m * 2 ^ (i - min (-52) i).toNat : Nat) : Int) := by
    simp only [Ieee.signed, Bool.false_eq_true, if_false, Nat.shiftLeft_eq]
  have hp2 := Nat.two_pow_pos (-(min (-52) i)).toNat
  generalize hc : 2 ^ (-(min (-52) i)).toNat = c at *
  generalize m * 2 ^ (i - min (-52) i).toNat = d at *
  rw [k1, k2] at hr ⊢
  have hz : ¬ ((c : Int) + (d : Int) = 0) := by omega
  have hn : decide ((c : Int) + (d : Int) < 0) = false := by rw [decide_eq_false_iff_not]; omega
  rw [if_neg hz, hn] at hr ⊢
  refine ⟨⟨_, rfl, ?_⟩, ⟨_, rfl, near_po ..⟩⟩
  refine lo_near _ _ (-(min (-52) i)).toNat ?_ (by omega) 2045 (by rw [hr]; exact hs) (by decide)
  rw [hc]; omega

theorem sqrt_po {o : Option Nat} (h : SmO 1151 o) (hp : Po o) : SmO 1147 (fsqrt o) ∧ Po (fsqrt o) := by
  obtain ⟨x, rfl, hx⟩ := h
  obtain ⟨b, hb, hp⟩ := hp
  obtain rfl : x = b := by injection hb
  obtain ⟨m, i, hd, hi⟩ := po_parts hx (by omega) hp
  have h0 : fsqrt (some x) = ((FloatKind.f64.decode x).root 54).map Ieee.double.write := rfl
  have hr : ∃ M p, (FloatKind.f64.decode x).root 54 = some (.number false M p) := by
    rw [hd]
    unfold Ieee.Datum.root
    simp only [Bool.false_eq_true, if_false]
    split
    · exact ⟨_, _, rfl⟩
    · exact ⟨_, _, rfl⟩
  obtain ⟨M, p, hr⟩ := hr
  have h2 : fsqrt (some x) = some (Ieee.double.nearest false M p) := by rw [h0, hr]; rfl
  exact ⟨⟨_, h2, sqrt_small hx h2⟩, ⟨_, h2, near_po ..⟩⟩

/-- The quotient of a number and one that is not less is at most 1. -/
theorem ratio_sm {a b m n : Nat} {i j : Int} (ha : FloatKind.f64.decode a = .number false m i) (hb : FloatKind.f64.decode b = .number false n j) (hn : n ≠ 0) (hle : m * 2 ^ (i - min i j).toNat ≤ n * 2 ^ (j - min i j).toNat) (hm : m < 9007199254740992) :
    SmO 1022 (fop .quo .f64 (some a) (some b)) := by
  have h0 : fop .quo .f64 (some a) (some b) = ((FloatKind.f64.decode a).quotient 54 (FloatKind.f64.decode b)).map Ieee.double.write := rfl
  rw [h0, ha, hb]
  unfold Ieee.Datum.quotient
  simp only
  rw [if_neg hn]
  refine ⟨_, rfl, ?_⟩
  simp only [Ieee.Format.write, Bool.xor_self]
  by_cases hm0 : m = 0
  · subst hm0
    simp only [Nat.zero_shiftLeft, Nat.zero_div, Nat.zero_mod, bne_self_eq_false, Bool.toNat_false, Nat.mul_zero, Nat.add_zero]
    unfold Ieee.Format.nearest Sm
    rw [if_pos rfl]
    decide +kernel
  · have l1 := Nat.log2_self_le hm0
    have l2 : n < 2 ^ (n.log2 + 1) := Nat.lt_log2_self
    have l3 : m.log2 < 53 := (Nat.log2_lt hm0).2 (by simpa using hm)
    have hlog : (m.log2 : Int) + i ≤ n.log2 + j := by
      have c1 : 2 ^ (m.log2 + (i - min i j).toNat) < 2 ^ (n.log2 + 1 + (j - min i j).toNat) := by
        rw [Nat.pow_add, Nat.pow_add]
        refine Nat.lt_of_le_of_lt (Nat.mul_le_mul_right _ l1) (Nat.lt_of_le_of_lt hle ?_)
        exact Nat.mul_lt_mul_of_pos_right l2 (Nat.two_pow_pos _)
      have := (Nat.pow_lt_pow_iff_right (show 1 < 2 by decide)).1 c1
      omega
    generalize hmore : 54 + n.log2 - m.log2 = more
    obtain ⟨e, he⟩ : ∃ e : Nat, (e : Int) = j - i + more := ⟨(j - i + more).toNat, by omega⟩
    have hle2 : m * 2 ^ more ≤ n * 2 ^ e := by
      by_cases hij : i ≤ j
      · have e1 : (i - min i j).toNat = 0 := by omega
        have e2 : (j - min i j).toNat + more = e := by omega
        rw [e1, Nat.pow_zero, Nat.mul_one] at hle
        have := Nat.mul_le_mul_right (2 ^ more) hle
        rw [Nat.mul_assoc, ← Nat.pow_add, e2] at this
        exact this
      · have e1 : (j - min i j).toNat = 0 := by omega
        have e2 : (i - min i j).toNat + e = more := by omega
        rw [e1, Nat.pow_zero, Nat.mul_one] at hle
        have := Nat.mul_le_mul_right (2 ^ e) hle
        rw [Nat.mul_assoc, ← Nat.pow_add, e2] at this
        exact this
    have hn0 : 0 < n := by omega
    rw [Nat.shiftLeft_eq]
    have hdm := Nat.div_add_mod (m * 2 ^ more) n
    have hq : m * 2 ^ more / n ≤ 2 ^ e := Nat.div_le_of_le_mul hle2
    have hs : ((m * 2 ^ more % n != 0)).toNat ≤ 1 := Bool.toNat_le _
    refine sm_near false _ _ (e + 1) ?_ 1022 (by decide) (by decide) (by omega)
    rw [Nat.pow_succ]
    by_cases hc : m * 2 ^ more / n = 2 ^ e
    · have hz : m * 2 ^ more % n = 0 := by
        rw [hc] at hdm
        omega
      rw [hz, hc]; simp; omega
    · omega

def egW : Nat := 4620693217682128896
def aOver (a b : Nat) : Bool := FloatKind.f64.format.order a b == some .gt
/-- The turns of an angle with some tangent: the steps, and the sum. -/
def rT (t : Option Nat) : Nat → Option Nat
  | 0 => t
  | j + 1 => fop .quo .f64 (rT t j) (fop .add .f64 (some oneW) (fsqrt (fop .add .f64 (some oneW) (fop .mul .f64 (rT t j) (rT t j)))))
def rU (t : Option Nat) : Option Nat := fop .mul .f64 (rT t 3) (rT t 3)
def rP (t : Option Nat) : Nat → Option Nat
  | 0 => some 0
  | j + 1 => fop .sub .f64 (fop .quo .f64 (some oneW) (some (floatOfInt .f64 (15 - 2 * (j : Int))))) (fop .mul .f64 (rU t) (rP t j))
def rA (t : Option Nat) : Option Nat := fop .quo .f64 (fop .mul .f64 (some egW) (fop .mul .f64 (rT t 3) (rP t 8))) (some tnW)
def aR (a b : Nat) : Option Nat := if aOver a b = true then fop .quo .f64 (some b) (some a) else fop .quo .f64 (some a) (some b)
def aB (a b : Nat) : Option Nat := if aOver a b = true then fop .sub .f64 (some qtW) (rA (aR a b)) else rA (aR a b)
def aC (a b : Nat) (g : Bool) : Option Nat := if g = true then fop .sub .f64 (some hfW) (aB a b) else aB a b
def aD (a b : Nat) (g h : Bool) : Option Nat := if h = true then (aC a b g).map (Op.negFloat .f64) else aC a b g

theorem odd15_lo : ∀ j : Nat, j < 8 → Lo (floatOfInt .f64 (15 - 2 * (j : Int))) := by
  have : ∀ j : Fin 8, 1023 * 4503599627370496 ≤ floatOfInt .f64 (15 - 2 * ((j.val : Nat) : Int)) % 9223372036854775808 ∧ floatOfInt .f64 (15 - 2 * ((j.val : Nat) : Int)) % 9223372036854775808 < 9218868437227405312 := by decide +kernel
  exact fun j hj => this ⟨j, hj⟩
theorem rT_sm {t : Option Nat} (h : SmO 1022 t) : ∀ j, SmO 1022 (rT t j)
  | 0 => h
  | j + 1 => by
    have ih := rT_sm h j
    have h1 := ih.mul ih (G := 1022) (by decide) (by decide) (by decide) (by decide) (by decide)
    have h2 := add_one h1 (by decide) (mul_self_po ih (by decide))
    have h3 : SmO 1151 (fop .add .f64 (some oneW) (fop .mul .f64 (rT t j) (rT t j))) := SmO.add (E := 1022) (F := 1022) (sm_const (by decide)) h1 (by decide) (by decide) (by decide) (by decide) (by decide)
    have h4 := sqrt_po h3 h2.2
    exact ih.div (add_one h4.1 (by decide) h4.2).1 (by decide) (by decide)
theorem rP_sm {t : Option Nat} (h : SmO 1022 t) : ∀ j, j ≤ 8 → SmO (1023 + j) (rP t j)
  | 0, _ => sm_const (by decide)
  | j + 1, hj => by
    have ih := rP_sm h j (by omega)
    exact (SmO.div (E := 1022) (sm_const (by decide)) ⟨_, rfl, odd15_lo j (by omega)⟩ (by decide) (by decide)).sub (((rT_sm h 3).mul (rT_sm h 3) (G := 1022) (by decide) (by decide) (by decide) (by decide) (by decide)).mul ih (G := 1023 + j) (by decide) (by omega) (by omega) (by omega) (by omega)) (by decide) (by omega) (by omega) (by omega) (by omega)
theorem rA_sm {t : Option Nat} (h : SmO 1022 t) : SmO 1034 (rA t) :=
  (SmO.mul (E := 1025) (F := 1031) (sm_const (by decide)) ((rT_sm h 3).mul (rP_sm h 8 (by decide)) (by decide) (by decide) (by decide) (by decide) (by decide)) (by decide) (by decide) (by decide) (by decide) (by decide)).div ⟨_, rfl, by unfold Lo; decide⟩ (by decide) (by decide)

theorem dec_pos {x : Nat} (h : x < 9218868437227405312) : ∃ m i, FloatKind.f64.decode x = .number false m i ∧ m < 9007199254740992 ∧ (m = 0 → x = 0) := by
  have hm : x % 9223372036854775808 = x := by omega
  have hs : (x / 9223372036854775808 % 2 == 1) = false := by rw [show x / 9223372036854775808 = 0 by omega]; rfl
  have hmod := Nat.mod_lt x (show 4503599627370496 > 0 by decide)
  rw [read_double, hm, hs]
  by_cases hc : x < 4503599627370496
  · rw [if_pos hc]
    exact ⟨_, _, rfl, by omega, by omega⟩
  · rw [if_neg hc, if_pos h]
    exact ⟨_, _, rfl, by omega, by omega⟩

theorem aR_sm {a b : Nat} (ha : a < 9218868437227405312) (hb : b < 9218868437227405312) (hne : a ≠ 0 ∨ b ≠ 0) : SmO 1022 (aR a b) := by
  obtain ⟨m, i, hda, hm, hm0⟩ := dec_pos ha
  obtain ⟨n, j, hdb, hn, hn0⟩ := dec_pos hb
  have ho : FloatKind.f64.format.order a b = (FloatKind.f64.decode a).order (FloatKind.f64.decode b) := rfl
  unfold aR aOver
  rw [ho, hda, hdb]
  simp only [Ieee.Datum.order, Ieee.signed, Bool.false_eq_true, if_false, Nat.shiftLeft_eq]
  by_cases hlt : n * 2 ^ (j - min i j).toNat < m * 2 ^ (i - min i j).toNat
  · have hc : compare ((m * 2 ^ (i - min i j).toNat : Nat) : Int) ((n * 2 ^ (j - min i j).toNat : Nat) : Int) = .gt := by
      show compareOfLessAndEq _ _ = _
      unfold compareOfLessAndEq
      rw [if_neg (by omega), if_neg (by omega)]
    rw [hc, if_pos (show (some Ordering.gt == some Ordering.gt) = true from rfl)]
    refine ratio_sm hdb hda ?_ ?_ hn
    · rintro rfl
      rw [Nat.zero_mul] at hlt; omega
    · rw [Int.min_comm j i]; omega
  · have hc : (some (compare ((m * 2 ^ (i - min i j).toNat : Nat) : Int) ((n * 2 ^ (j - min i j).toNat : Nat) : Int)) == some Ordering.gt) = false := by
      show (some (compareOfLessAndEq _ _) == some Ordering.gt) = false
      unfold compareOfLessAndEq
      by_cases h1 : m * 2 ^ (i - min i j).toNat < n * 2 ^ (j - min i j).toNat
      · rw [if_pos (by omega)]; rfl
      · rw [if_neg (by omega), if_pos (by omega)]; rfl
    rw [hc, if_neg Bool.false_ne_true]
    refine ratio_sm hda hdb ?_ (by omega) hm
    rintro rfl
    have hb0 := hn0 rfl
    rw [Nat.zero_mul] at hlt
    have hp := Nat.two_pow_pos (i - min i j).toNat
    have : m = 0 := by
      rcases Nat.eq_zero_or_pos m with h | h
      · exact h
      · have := Nat.mul_pos h hp; omega
    have := hm0 this
    omega

theorem aD_sm {a b : Nat} (ha : a < 9218868437227405312) (hb : b < 9218868437227405312) (hne : a ≠ 0 ∨ b ≠ 0) (g h : Bool) : SmO 1036 (aD a b g h) := by
  have h1 := rA_sm (aR_sm ha hb hne)
  have h2 : SmO 1035 (aB a b) := by
    unfold aB
    split
    · exact SmO.sub (E := 1022) (sm_const (by decide)) h1 (by decide) (by decide) (by decide) (by decide) (by decide)
    · obtain ⟨c, hc, hm⟩ := h1
      exact ⟨c, hc, by unfold Sm at hm ⊢; omega⟩
  have h3 : SmO 1036 (aC a b g) := by
    unfold aC
    split
    · exact SmO.sub (E := 1022) (sm_const (by decide)) h2 (by decide) (by decide) (by decide) (by decide) (by decide)
    · obtain ⟨c, hc, hm⟩ := h2
      exact ⟨c, hc, by unfold Sm at hm ⊢; omega⟩
  unfold aD
  split
  · exact h3.neg
  · exact h3

theorem rT_next {t : Option Nat} {j x a b c d z : Nat} (hx : Rp .f64 (rT t j) x) (ha : Rp .f64 (floatBits .mul .f64 x x) a) (hb : Rp .f64 (floatBits .add .f64 oneW a) b) (hc : Rp .f64 (FloatKind.f64.format.sqrt b) c) (hd : Rp .f64 (floatBits .add .f64 oneW c) d) (hz : Rp .f64 (floatBits .quo .f64 x d) z) : Rp .f64 (rT t (j + 1)) z :=
  hx.fop (Rp.fop (Rp.refl _ _) (Rp.sqrt (Rp.fop (Rp.refl _ _) (hx.fop hx ha) hb) hc) hd) hz
theorem rP_next {t : Option Nat} {j u p a b z : Nat} (hu : Rp .f64 (rU t) u) (hp : Rp .f64 (rP t j) p) (ha : Rp .f64 (floatBits .quo .f64 oneW (floatOfInt .f64 (15 - 2 * (j : Int)))) a) (hb : Rp .f64 (floatBits .mul .f64 u p) b) (hz : Rp .f64 (floatBits .sub .f64 a b) z) : Rp .f64 (rP t (j + 1)) z :=
  Rp.fop (Rp.fop (Rp.refl _ _) (Rp.refl _ _) ha) (hu.fop hp hb) hz
end Go.Proofs.Ytpaldmhlcgdmkab
