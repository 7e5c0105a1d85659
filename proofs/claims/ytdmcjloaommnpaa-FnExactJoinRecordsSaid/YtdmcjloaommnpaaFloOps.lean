/- Operations on numbers that may be some not-a-number; a 32-bit number widened is never too great. -/
import Derived.Test.YtdmcjloaommnpaaFlo
namespace Go.Proofs.Ytdmcjloaommnpaa

theorem Rp.nan {k : FloatKind} {r : Nat} (h : Rp k none r) : (k.decode r).isNaN = true := h.1

def fop (op : BinOp) (k : FloatKind) (a b : Option Nat) : Option Nat := a.bind fun x => b.bind fun y => floatBits op k x y
def ford (k : FloatKind) (a b : Option Nat) : Option Ordering := a.bind fun x => b.bind fun y => k.format.order x y
def cvtF (s k : FloatKind) (a : Option Nat) : Option Nat := a.bind fun x => cvt s x k

theorem decode_nan {k : FloatKind} {x : Nat} (h : (k.decode x).isNaN = true) : ∃ s f, k.format.read x = .nan s f := by
  have h' : (k.format.read x).isNaN = true := h
  cases hd : k.format.read x with
  | nan s f => exact ⟨s, f, rfl⟩
  | infinity s => rw [hd] at h'; cases h'
  | number s m e => rw [hd] at h'; cases h'

theorem floatBits_nan_left {op : BinOp} {k : FloatKind} {x y : Nat} (h : (k.decode x).isNaN = true) : floatBits op k x y = none := by
  obtain ⟨s, f, hd⟩ := decode_nan h
  unfold floatBits
  cases op <;> simp [Ieee.Format.add, Ieee.Format.sub, Ieee.Format.mul, Ieee.Format.div, hd, Ieee.Datum.sum, Ieee.Datum.product, Ieee.Datum.quotient]

theorem floatBits_nan_right {op : BinOp} {k : FloatKind} {x y : Nat} (h : (k.decode y).isNaN = true) : floatBits op k x y = none := by
  obtain ⟨s, f, hd⟩ := decode_nan h
  unfold floatBits
  cases hx : k.format.read x <;> cases op <;> simp [Ieee.Format.add, Ieee.Format.sub, Ieee.Format.mul, Ieee.Format.div, hd, hx, Ieee.Datum.opposite, Ieee.Datum.sum, Ieee.Datum.product, Ieee.Datum.quotient]

theorem Rp.fop {op : BinOp} {k : FloatKind} {X Y : Option Nat} {x y z : Nat} (hx : Rp k X x) (hy : Rp k Y y) (hz : Rp k (floatBits op k x y) z) : Rp k (fop op k X Y) z := by
  cases X with
  | none => rw [floatBits_nan_left hx.1] at hz; exact hz
  | some a =>
    obtain rfl : x = a := hx
    cases Y with
    | none => rw [floatBits_nan_right hy.1] at hz; exact hz
    | some b => obtain rfl : y = b := hy; exact hz

theorem Rp.cvtF {s k : FloatKind} (hk : s ≠ k) {X : Option Nat} {x z : Nat} (hx : Rp s X x) (hz : Rp k (cvt s x k) z) : Rp k (cvtF s k X) z := by
  cases X with
  | none =>
    obtain ⟨g, f, hd⟩ := decode_nan hx.1
    have : cvt s x k = none := by unfold cvt; rw [if_neg hk]; show (match s.format.read x with | .nan _ _ => none | .infinity g => some (k.encode (.infinity g)) | .number g m e => some (k.encode (.number g m e))) = none; rw [hd]
    rw [this] at hz; exact hz
  | some a => obtain rfl : x = a := hx; exact hz

theorem order_nan_left {k : FloatKind} {x y : Nat} (h : (k.decode x).isNaN = true) : k.format.order x y = none := by
  obtain ⟨s, f, hd⟩ := decode_nan h
  unfold Ieee.Format.order; rw [hd]; rfl
theorem order_nan_right {k : FloatKind} {x y : Nat} (h : (k.decode y).isNaN = true) : k.format.order x y = none := by
  obtain ⟨s, f, hd⟩ := decode_nan h
  unfold Ieee.Format.order; rw [hd]; cases k.format.read x <;> rfl

theorem Rp.ford {k : FloatKind} {X Y : Option Nat} {x y : Nat} (hx : Rp k X x) (hy : Rp k Y y) : k.format.order x y = ford k X Y := by
  cases X with
  | none => rw [order_nan_left hx.1]; rfl
  | some a =>
    obtain rfl : x = a := hx
    cases Y with
    | none => rw [order_nan_right hy.1]; rfl
    | some b => obtain rfl : y = b := hy; rfl

/-- Rounding a number of few digits, whose place is not high, does not go far. -/
theorem cut_le (way : Ieee.Toward) (neg : Bool) (n drop : Nat) : way.cut neg n drop ≤ n / 1 <<< min drop (n.log2 + 2) + 1 := by
  unfold Ieee.Toward.cut
  simp only
  refine Nat.add_le_add_left ?_ _
  exact Bool.toNat_le _

theorem nearest_small (f : Ieee.Format) (neg : Bool) (mag : Nat) (place : Int) (n : Nat) (hm : mag < 2 ^ n) (E : Nat) (hE1 : 1 ≤ E) (hE : place + n - f.leastPlace ≤ f.fractionBits + E) :
    ∃ r, r ≤ (E + 1) * f.binade ∧ f.nearest neg mag place = f.word neg (min r f.infRung) := by
  unfold Ieee.Format.nearest
  by_cases h0 : mag = 0
  · exact ⟨0, Nat.zero_le _, by rw [if_pos h0, Nat.zero_min]⟩
  rw [if_neg h0]
  have hl : mag.log2 < n := (Nat.log2_lt h0).2 hm
  have hl2 : mag < 2 ^ (mag.log2 + 1) := Nat.lt_log2_self
  simp only
  refine ⟨_, ?_, rfl⟩
  generalize hlast : max (place + (mag.log2 : Int) - f.fractionBits) f.leastPlace = last
  have e1 : (last - f.leastPlace).toNat ≤ E - 1 := by omega
  have hk : Ieee.Toward.even.cut neg (mag <<< (place - last).toNat) (last - place).toNat ≤ 2 * f.binade := by
    refine Nat.le_trans (cut_le ..) ?_
    unfold Ieee.Format.binade
    by_cases hp : last ≤ place
    · have hz : (last - place).toNat = 0 := by omega
      rw [hz, Nat.zero_min, Nat.shiftLeft_zero, Nat.div_one, Nat.shiftLeft_eq]
      have hs : mag.log2 + 1 + (place - last).toNat ≤ f.fractionBits + 1 := by omega
      have : mag * 2 ^ (place - last).toNat < 2 ^ (mag.log2 + 1) * 2 ^ (place - last).toNat := Nat.mul_lt_mul_of_pos_right hl2 (Nat.two_pow_pos _)
      rw [← Nat.pow_add] at this
      have h3 : 2 ^ (mag.log2 + 1 + (place - last).toNat) ≤ 2 ^ (f.fractionBits + 1) := Nat.pow_le_pow_right (by omega) hs
      rw [Nat.pow_succ] at h3
      omega
    · have hz : (place - last).toNat = 0 := by omega
      rw [hz, Nat.shiftLeft_zero, Nat.shiftLeft_eq, Nat.one_mul]
      by_cases hd : (last - place).toNat ≤ mag.log2 + 2
      · rw [Nat.min_eq_left hd]
        have : mag / 2 ^ (last - place).toNat < 2 ^ (f.fractionBits + 1) := by
          rw [Nat.div_lt_iff_lt_mul (Nat.two_pow_pos _), ← Nat.pow_add]
          exact Nat.lt_of_lt_of_le hl2 (Nat.pow_le_pow_right (by omega) (by omega))
        rw [Nat.pow_succ] at this
        omega
      · rw [Nat.min_eq_right (by omega)]
        have : mag / 2 ^ (mag.log2 + 2) = 0 := Nat.div_eq_of_lt (Nat.lt_trans hl2 (Nat.pow_lt_pow_right (by omega) (by omega)))
        rw [this]
        have := Nat.two_pow_pos f.fractionBits
        omega
  have hmul : (last - f.leastPlace).toNat * f.binade ≤ (E - 1) * f.binade := Nat.mul_le_mul_right _ e1
  have h5 : (E + 1) * f.binade = (E - 1) * f.binade + 2 * f.binade := by rw [← Nat.add_mul]; congr 1; omega
  omega

theorem word_mod (f : Ieee.Format) (neg : Bool) (r : Nat) (h : r < f.signWeight) : f.word neg r % f.signWeight = r := by
  unfold Ieee.Format.word
  split
  · rw [Nat.add_mod_left, Nat.mod_eq_of_lt h]
  · exact Nat.mod_eq_of_lt h

theorem read_inf {f : Ieee.Format} {x : Nat} (h : (f.read x).isInfinity = true) : x % f.signWeight = f.infRung := by
  unfold Ieee.Format.read at h
  simp only at h
  split at h
  · cases h
  · split at h
    · cases h
    · split at h
      · assumption
      · cases h

/-- A number that is small enough is not written as infinity. -/
theorem not_inf_of_small (f : Ieee.Format) (neg : Bool) (mag : Nat) (place : Int) (n : Nat) (hm : mag < 2 ^ n) (E : Nat) (hE1 : 1 ≤ E) (hE : place + n - f.leastPlace ≤ f.fractionBits + E)
    (hi : (E + 1) * f.binade < f.infRung) (hw : f.infRung < f.signWeight) : (f.read (f.nearest neg mag place)).isInfinity = false := by
  cases hb : (f.read (f.nearest neg mag place)).isInfinity with
  | false => rfl
  | true =>
    obtain ⟨r, hr, he⟩ := nearest_small f neg mag place n hm E hE1 hE
    have h1 := read_inf hb
    rw [he, word_mod f neg _ (by have := Nat.min_le_right r f.infRung; omega)] at h1
    omega

/-- What a 32-bit number is told by. -/
theorem single_parts {b : Nat} {g : Bool} {m : Nat} {e : Int} (h : FloatKind.f32.decode b = .number g m e) : m < 16777216 ∧ -149 ≤ e ∧ e ≤ 104 := by
  rw [read_single] at h
  split at h
  · simp only [Ieee.Datum.number.injEq] at h; omega
  · split at h
    · simp only [Ieee.Datum.number.injEq] at h
      have := Nat.mod_lt (b % 2147483648) (show 8388608 > 0 by decide)
      omega
    · split at h <;> cases h

theorem widen_ok (b : Nat) : tooGreat .f32 b .f64 = false := by
  unfold tooGreat
  rw [if_neg (by decide)]
  cases h : FloatKind.f32.decode b with
  | nan g f => rfl
  | infinity g => rfl
  | number g m e =>
    obtain ⟨h1, h2, h3⟩ := single_parts h
    show (Ieee.double.read (Ieee.double.nearest g m e)).isInfinity = false
    exact not_inf_of_small Ieee.double g m e 24 h1 1151 (by decide) (by simp only [Ieee.Format.leastPlace, Ieee.double]; omega) (by decide +kernel) (by decide +kernel)
end Go.Proofs.Ytdmcjloaommnpaa
