/- Rounding to 32 bits keeps the order; numbers that are not negative, as their rungs. -/
import Derived.Test.YtdmcjloaommnpaaFloOps
namespace Go.Proofs.Ytdmcjloaommnpaa

/-- n / 2 ^ d as a whole number, to the nearest, between two to the even one. -/
def rne (n d : Nat) : Nat := n / 2 ^ d + (decide (2 ^ d < 2 * (n % 2 ^ d)) || (2 ^ d == 2 * (n % 2 ^ d) && n / 2 ^ d % 2 == 1)).toNat

theorem cut_rne (neg : Bool) (n d : Nat) : Ieee.Toward.even.cut neg n d = rne n d := by
  unfold Ieee.Toward.cut rne
  by_cases h : d ≤ n.log2 + 2
  · simp only [Nat.min_eq_left h, Nat.shiftLeft_eq, Nat.one_mul]
  · have h1 : n < 2 ^ (n.log2 + 1) := Nat.lt_log2_self
    have h2 : 2 ^ (n.log2 + 2) = 2 * 2 ^ (n.log2 + 1) := by rw [Nat.pow_succ, Nat.mul_comm]
    have h3 : 2 ^ (n.log2 + 2) ≤ 2 ^ d := Nat.pow_le_pow_right (by omega) (by omega)
    simp only [Nat.min_eq_right (show n.log2 + 2 ≤ d by omega), Nat.shiftLeft_eq, Nat.one_mul]
    have k1 : ¬ 2 ^ (n.log2 + 2) < 2 * n := by omega
    have k2 : ¬ 2 ^ d < 2 * n := by omega
    rw [Nat.div_eq_of_lt (show n < 2 ^ (n.log2 + 2) by omega), Nat.div_eq_of_lt (show n < 2 ^ d by omega), Nat.mod_eq_of_lt (show n < 2 ^ (n.log2 + 2) by omega), Nat.mod_eq_of_lt (show n < 2 ^ d by omega), decide_eq_false k1, decide_eq_false k2]
    simp

theorem rne_le (n d a : Nat) (h : n ≤ a * 2 ^ d) : rne n d ≤ a := by
  have hp := Nat.two_pow_pos d
  unfold rne
  by_cases he : n = a * 2 ^ d
  · rw [he, Nat.mul_div_cancel _ hp, Nat.mul_mod_left]
    have hb : (2 ^ d == 2 * 0) = false := by rw [beq_eq_false_iff_ne]; omega
    have hd0 : decide (2 ^ d < 2 * 0) = false := decide_eq_false (by omega)
    rw [hb, hd0]; exact Nat.le_refl _
  · have : n / 2 ^ d < a := (Nat.div_lt_iff_lt_mul hp).2 (by omega)
    have := Bool.toNat_le (decide (2 ^ d < 2 * (n % 2 ^ d)) || (2 ^ d == 2 * (n % 2 ^ d) && n / 2 ^ d % 2 == 1))
    omega

theorem le_rne (n d a : Nat) (h : a * 2 ^ d ≤ n) : a ≤ rne n d := by
  unfold rne
  have := (Nat.le_div_iff_mul_le (Nat.two_pow_pos d)).2 h
  omega

theorem rne_mono (n n' d : Nat) (h : n ≤ n') : rne n d ≤ rne n' d := by
  have hp := Nat.two_pow_pos d
  have hq : n / 2 ^ d ≤ n' / 2 ^ d := Nat.div_le_div_right h
  by_cases he : n / 2 ^ d = n' / 2 ^ d
  · have e1 := Nat.div_add_mod n (2 ^ d)
    have e2 := Nat.div_add_mod n' (2 ^ d)
    unfold rne
    rw [he] at e1 ⊢
    generalize n' / 2 ^ d = q at *
    have hr : n % 2 ^ d ≤ n' % 2 ^ d := by omega
    generalize n % 2 ^ d = r at *
    generalize n' % 2 ^ d = r' at *
    generalize 2 ^ d = g at *
    refine Nat.add_le_add_left ?_ _
    by_cases h1 : g < 2 * r'
    · rw [decide_eq_true h1, Bool.true_or]; exact Bool.toNat_le _
    · have h2 : ¬ g < 2 * r := by omega
      by_cases h3 : g = 2 * r
      · have h4 : g = 2 * r' := by omega
        rw [decide_eq_false h1, decide_eq_false h2, ← h4, ← h3]
        exact Nat.le_refl _
      · have h5 : (g == 2 * r) = false := by simpa using h3
        rw [decide_eq_false h2, h5]
        exact Nat.zero_le _
  · unfold rne
    have := Bool.toNat_le (decide (2 ^ d < 2 * (n % 2 ^ d)) || (2 ^ d == 2 * (n % 2 ^ d) && n / 2 ^ d % 2 == 1))
    omega

theorem rne_scale (n d k : Nat) : rne (n * 2 ^ k) (d + k) = rne n d := by
  have hk := Nat.two_pow_pos k
  unfold rne
  rw [Nat.pow_add, Nat.mul_div_mul_right _ _ hk, Nat.mul_mod_mul_right]
  congr 2
  rw [Bool.eq_iff_iff]
  have e1 : (2 ^ d * 2 ^ k < 2 * (n % 2 ^ d * 2 ^ k)) ↔ (2 ^ d < 2 * (n % 2 ^ d)) := by
    rw [← Nat.mul_assoc]; exact Nat.mul_lt_mul_right hk
  have e2 : (2 ^ d * 2 ^ k = 2 * (n % 2 ^ d * 2 ^ k)) ↔ (2 ^ d = 2 * (n % 2 ^ d)) := by
    rw [← Nat.mul_assoc]; exact ⟨fun h => Nat.eq_of_mul_eq_mul_right hk h, fun h => congrArg (fun z => z * 2 ^ k) h⟩
  simp only [Bool.or_eq_true, decide_eq_true_eq, Bool.and_eq_true, beq_iff_eq, e1, e2]

theorem rne_zero (d : Nat) : rne 0 d = 0 := Nat.le_zero.1 (rne_le 0 d 0 (Nat.zero_le _))
theorem rne_whole (n : Nat) : rne n 0 = n := Nat.le_antisymm (rne_le n 0 n (by omega)) (le_rne n 0 n (by omega))

/-- The rung of n units of 2 ^ (-149 - d). -/
def Q (n d : Nat) : Nat := min ((n.log2 - (d + 23)) * 8388608 + rne n (n.log2 - (d + 23) + d)) 2139095040

theorem Q_le (n d : Nat) : Q n d ≤ 2139095040 := Nat.min_le_right _ _
theorem Q_zero (d : Nat) : Q 0 d = 0 := by
  unfold Q
  rw [rne_zero, Nat.log2_zero, Nat.zero_sub]; rfl

theorem log2_scale (m k : Nat) (hm : m ≠ 0) : (m * 2 ^ k).log2 = m.log2 + k := by
  rw [Nat.log2_eq_iff (Nat.mul_ne_zero hm (Nat.ne_of_gt (Nat.two_pow_pos k)))]
  have h1 : 2 ^ m.log2 ≤ m := Nat.log2_self_le hm
  have h2 : m < 2 ^ (m.log2 + 1) := Nat.lt_log2_self
  constructor
  · rw [Nat.pow_add]; exact Nat.mul_le_mul_right _ h1
  · rw [show m.log2 + k + 1 = (m.log2 + 1) + k by omega, Nat.pow_add]
    exact Nat.mul_lt_mul_of_pos_right h2 (Nat.two_pow_pos k)

theorem Q_scale (n d k : Nat) : Q (n * 2 ^ k) (d + k) = Q n d := by
  by_cases h0 : n = 0
  · subst h0; rw [Nat.zero_mul, Q_zero, Q_zero]
  · unfold Q
    rw [log2_scale n k h0, show n.log2 + k - (d + k + 23) = n.log2 - (d + 23) by omega]
    rw [show n.log2 - (d + 23) + (d + k) = n.log2 - (d + 23) + d + k by omega, rne_scale]

theorem Q_step (a b t t' : Nat) (h1 : a ≤ 16777216) (h2 : 8388608 ≤ b) (h3 : t + 1 ≤ t') : min (t * 8388608 + a) 2139095040 ≤ min (t' * 8388608 + b) 2139095040 := by omega
theorem Q_same (a b t : Nat) (h1 : a ≤ b) : min (t * 8388608 + a) 2139095040 ≤ min (t * 8388608 + b) 2139095040 := by omega
theorem Q_mono (n n' d : Nat) (h : n ≤ n') : Q n d ≤ Q n' d := by
  by_cases h0 : n = 0
  · rw [h0, Q_zero]; exact Nat.zero_le _
  have h0' : n' ≠ 0 := by omega
  have hl : n.log2 ≤ n'.log2 := (Nat.le_log2 h0').2 (Nat.le_trans (Nat.log2_self_le h0) h)
  have hu : n < 2 ^ (n.log2 + 1) := Nat.lt_log2_self
  have hd : 2 ^ n'.log2 ≤ n' := Nat.log2_self_le h0'
  obtain ⟨t, ht⟩ : ∃ t, n.log2 - (d + 23) = t := ⟨_, rfl⟩
  obtain ⟨t', ht'⟩ : ∃ t', n'.log2 - (d + 23) = t' := ⟨_, rfl⟩
  unfold Q
  rw [ht, ht']
  by_cases hte : t = t'
  · rw [hte]
    exact Q_same _ _ _ (rne_mono n n' (t' + d) h)
  · have k1 : n.log2 + 1 ≤ 24 + (t + d) := by omega
    have k2 : 23 + (t' + d) ≤ n'.log2 := by omega
    refine Q_step _ _ _ _ (rne_le _ _ _ (Nat.le_of_lt (Nat.lt_of_lt_of_le hu ?_))) (le_rne _ _ _ (Nat.le_trans ?_ hd)) (by omega)
    · have := Nat.pow_le_pow_right (show 0 < 2 by decide) k1
      rwa [Nat.pow_add 2 24] at this
    · have := Nat.pow_le_pow_right (show 0 < 2 by decide) k2
      rwa [Nat.pow_add 2 23] at this

theorem nearest_gen (neg : Bool) (n : Nat) (place : Int) (u v : Nat) (h : place = -149 + u - v) : Ieee.single.nearest neg n place = Ieee.single.word neg (Q (n * 2 ^ u) v) := by
  by_cases h0 : n = 0
  · subst h0
    rw [Nat.zero_mul, Q_zero]
    unfold Ieee.Format.nearest
    rw [if_pos rfl]
  unfold Ieee.Format.nearest
  rw [if_neg h0]
  have hf : (Ieee.single.fractionBits : Int) = 23 := rfl
  have hl : Ieee.single.leastPlace = -149 := by decide
  have hb : Ieee.single.binade = 8388608 := by decide
  have hi : Ieee.single.infRung = 2139095040 := by decide +kernel
  rw [hf, hl, hb, hi]
  simp only
  unfold Q
  rw [log2_scale n u h0]
  obtain ⟨t, ht⟩ : ∃ t, n.log2 + u - (v + 23) = t := ⟨_, rfl⟩
  rw [ht]
  have hlast : max (place + (n.log2 : Int) - 23) (-149) = -149 + t := by omega
  rw [hlast, cut_rne]
  have e1 : (-149 + (t : Int) - -149).toNat = t := by omega
  have key : rne (n <<< (place - (-149 + (t : Int))).toNat) (-149 + (t : Int) - place).toNat = rne (n * 2 ^ u) (t + v) := by
    by_cases hu : u ≤ t + v
    · have a1 : (place - (-149 + (t : Int))).toNat = 0 := by omega
      have a2 : (-149 + (t : Int) - place).toNat = t + v - u := by omega
      rw [a1, a2, Nat.shiftLeft_zero, ← rne_scale n (t + v - u) u, show t + v - u + u = t + v by omega]
    · have a1 : (place - (-149 + (t : Int))).toNat = u - (t + v) := by omega
      have a2 : (-149 + (t : Int) - place).toNat = 0 := by omega
      rw [a1, a2, Nat.shiftLeft_eq, rne_whole]
      have := rne_scale (n * 2 ^ (u - (t + v))) 0 (t + v)
      rw [rne_whole, Nat.mul_assoc, ← Nat.pow_add, show u - (t + v) + (t + v) = u by omega, Nat.zero_add] at this
      exact this.symm
  rw [e1, key]

/-- What a rung stands for, in units of 2 ^ -149. -/
def mag (r : Nat) : Nat := if r < 8388608 then r else (8388608 + r % 8388608) * 2 ^ (r / 8388608 - 1)

theorem Q_mag (r : Nat) (h : r < 2139095040) : Q (mag r) 0 = r := by
  unfold mag
  split
  · rename_i h1
    have hl : r.log2 < 23 := by
      by_cases h0 : r = 0
      · subst h0; decide
      · exact (Nat.log2_lt h0).2 h1
    unfold Q
    rw [show r.log2 - (0 + 23) = 0 by omega, rne_whole]
    omega
  · rename_i h1
    have hm := Nat.mod_lt r (show 8388608 > 0 by decide)
    have hd := Nat.div_add_mod r 8388608
    have h8 : 1 ≤ r / 8388608 := by omega
    obtain ⟨e, he⟩ : ∃ e, r / 8388608 = e + 1 := ⟨r / 8388608 - 1, by omega⟩
    rw [he] at hd ⊢
    generalize r % 8388608 = f at *
    have hl : (8388608 + f).log2 = 23 := (Nat.log2_eq_iff (by omega)).2 ⟨by show 8388608 ≤ _; omega, by show _ < 16777216; omega⟩
    have hs := Q_scale (8388608 + f) 0 (e + 1 - 1)
    unfold Q
    rw [log2_scale _ _ (by omega), hl, show 23 + (e + 1 - 1) - (0 + 23) = e by omega, show e + 1 - 1 = e by omega]
    have := rne_scale (8388608 + f) 0 e
    rw [rne_whole, Nat.zero_add] at this
    rw [Nat.add_zero, this]
    omega

theorem mag_mono {r r' : Nat} (h : r ≤ r') (h' : r' < 2139095040) : mag r ≤ mag r' := by
  rcases Nat.lt_or_ge (mag r') (mag r) with h1 | h1
  · have := Q_mono _ _ 0 (Nat.le_of_lt h1)
    rw [Q_mag r' h', Q_mag r (by omega)] at this
    obtain rfl : r = r' := by omega
    omega
  · exact h1
theorem mag_strict {r r' : Nat} (h : r < r') (h' : r' < 2139095040) : mag r < mag r' := by
  rcases Nat.lt_or_ge (mag r) (mag r') with h1 | h1
  · exact h1
  · have := Q_mono _ _ 0 h1
    rw [Q_mag r' h', Q_mag r (by omega)] at this
    omega
theorem mag_one : mag 1065353216 = 2 ^ 149 := by decide +kernel
theorem mag_zero : mag 0 = 0 := rfl
theorem mag_pos {r : Nat} (h : 0 < r) (h' : r < 2139095040) : 0 < mag r := mag_strict h h'

/-- A finite word, read. -/
theorem fin_read (x : Nat) (h : x % 2147483648 < 2139095040) : ∃ m k : Nat, FloatKind.f32.decode x = .number (x / 2147483648 % 2 == 1) m (-149 + k) ∧ mag (x % 2147483648) = m * 2 ^ k := by
  rw [read_single]
  unfold mag
  by_cases h1 : x % 2147483648 < 8388608
  · rw [if_pos h1, if_pos h1]
    exact ⟨_, 0, rfl, by rw [Nat.pow_zero, Nat.mul_one]⟩
  · rw [if_neg h1, if_pos h, if_neg h1]
    exact ⟨_, _, rfl, rfl⟩

/-- Not negative, and no not-a-number: a rung, or -0. -/
def NN (x : Nat) : Prop := x ≤ 2139095040 ∨ x = 2147483648
/-- And finite. -/
def FN (x : Nat) : Prop := x < 2139095040 ∨ x = 2147483648
def rg (x : Nat) : Nat := x % 2147483648
theorem FN.nn {x : Nat} (h : FN x) : NN x := by unfold FN at h; unfold NN; omega
theorem FN.rlt {x : Nat} (h : FN x) : rg x < 2139095040 := by unfold FN at h; unfold rg; omega
theorem NN.rle {x : Nat} (h : NN x) : rg x ≤ 2139095040 := by unfold NN at h; unfold rg; omega
theorem NN.fn {x : Nat} (h : NN x) (h' : rg x < 2139095040) : FN x := by unfold NN at h; unfold FN; unfold rg at h'; omega
theorem NN.ult {x : Nat} (h : NN x) : x < 4294967296 := by unfold NN at h; omega

theorem fn_read {x : Nat} (h : FN x) : ∃ (s : Bool) (m k : Nat), FloatKind.f32.decode x = .number s m (-149 + k) ∧ mag (rg x) = m * 2 ^ k ∧ (s = true → m = 0) ∧ (s = (x == 2147483648)) := by
  obtain ⟨m, k, h1, h2⟩ := fin_read x h.rlt
  refine ⟨_, m, k, h1, h2, ?_, ?_⟩
  · intro hs
    rw [beq_iff_eq] at hs
    have hx : x = 2147483648 := by unfold FN at h; omega
    subst hx
    have hz : mag (2147483648 % 2147483648) = 0 := rfl
    rw [hz] at h2
    rcases Nat.mul_eq_zero.1 h2.symm with h3 | h3
    · exact h3
    · have := Nat.two_pow_pos k; omega
  · rw [Bool.eq_iff_iff, beq_iff_eq, beq_iff_eq]; unfold FN at h; omega

theorem signed_nn (s : Bool) (m u : Nat) (h : s = true → m = 0) : Ieee.signed s m u = ((m * 2 ^ u : Nat) : Int) := by
  unfold Ieee.signed
  rw [Nat.shiftLeft_eq]
  cases s
  · rfl
  · rw [h rfl, Nat.zero_mul]; rfl

theorem scale_lt {a b c d k l : Nat} (h : a * 2 ^ k < b * 2 ^ l) (hc : c ≤ k) (hd : c ≤ l) (e : d = c) : a * 2 ^ (k - d) < b * 2 ^ (l - d) := by
  subst e
  refine Nat.lt_of_mul_lt_mul_right (a := 2 ^ d) ?_
  rw [Nat.mul_assoc, Nat.mul_assoc, ← Nat.pow_add, ← Nat.pow_add, show k - d + d = k by omega, show l - d + d = l by omega]
  exact h

theorem order_fn {x y : Nat} (hx : FN x) (hy : FN y) : FloatKind.f32.format.order x y = some (compare (rg x) (rg y)) := by
  obtain ⟨s, m, k, h1, h2, h3, _⟩ := fn_read hx
  obtain ⟨t, n, l, g1, g2, g3, _⟩ := fn_read hy
  have hd : FloatKind.f32.format.order x y = (FloatKind.f32.decode x).order (FloatKind.f32.decode y) := rfl
  rw [hd, h1, g1]
  simp only [Ieee.Datum.order]
  rw [signed_nn s m _ h3, signed_nn t n _ g3]
  obtain ⟨c, hc⟩ : ∃ c, min k l = c := ⟨_, rfl⟩
  have e1 : (-149 + (k : Int) - min (-149 + (k : Int)) (-149 + (l : Int))).toNat = k - c := by omega
  have e2 : (-149 + (l : Int) - min (-149 + (k : Int)) (-149 + (l : Int))).toNat = l - c := by omega
  rw [e1, e2]
  congr 1
  have hxr := hx.rlt
  have hyr := hy.rlt
  show compareOfLessAndEq _ _ = compareOfLessAndEq _ _
  unfold compareOfLessAndEq
  rcases Nat.lt_trichotomy (rg x) (rg y) with h | h | h
  · have := mag_strict h hyr
    rw [h2, g2] at this
    have := scale_lt this (c := c) (d := c) (by omega) (by omega) rfl
    rw [if_pos h, if_pos (by omega)]
  · rw [h] at h2
    rw [g2] at h2
    have h4 : ∀ z, z = l - c → m * 2 ^ (k - c) = n * 2 ^ z := by
      intro z hz
      subst hz
      refine Nat.eq_of_mul_eq_mul_right (Nat.two_pow_pos c) ?_
      rw [Nat.mul_assoc, Nat.mul_assoc, ← Nat.pow_add, ← Nat.pow_add, show k - c + c = k by omega, show l - c + c = l by omega]
      exact h2.symm
    rw [h4 _ rfl, h, if_neg (by omega), if_pos rfl, if_neg (by omega), if_pos rfl]
  · have := mag_strict h hxr
    rw [h2, g2] at this
    have := scale_lt this (c := c) (d := c) (by omega) (by omega) rfl
    rw [if_neg (by omega), if_neg (by omega), if_neg (by omega), if_neg (by omega)]

theorem decode_inf : FloatKind.f32.decode 2139095040 = .infinity false := by decide +kernel

theorem order_nn {x y : Nat} (hx : NN x) (hy : NN y) : FloatKind.f32.format.order x y = some (compare (rg x) (rg y)) := by
  have hd : FloatKind.f32.format.order x y = (FloatKind.f32.decode x).order (FloatKind.f32.decode y) := rfl
  by_cases h1 : rg x < 2139095040
  · by_cases h2 : rg y < 2139095040
    · exact order_fn (hx.fn h1) (hy.fn h2)
    · have e : y = 2139095040 := by unfold NN at hy; unfold rg at h2; omega
      obtain ⟨s, m, k, g1, _⟩ := fn_read (hx.fn h1)
      subst e
      rw [hd, g1, decode_inf]
      simp only [Ieee.Datum.order]
      have : compare (rg x) (rg 2139095040) = .lt := by
        show compareOfLessAndEq _ _ = _
        unfold compareOfLessAndEq
        rw [if_pos (show rg x < rg 2139095040 from h1)]
      rw [this]; rfl
  · have e : x = 2139095040 := by unfold NN at hx; unfold rg at h1; omega
    subst e
    by_cases h2 : rg y < 2139095040
    · obtain ⟨s, m, k, g1, _⟩ := fn_read (hy.fn h2)
      rw [hd, g1, decode_inf]
      simp only [Ieee.Datum.order]
      have : compare (rg 2139095040) (rg y) = .gt := by
        show compareOfLessAndEq _ _ = _
        unfold compareOfLessAndEq
        have : rg 2139095040 = 2139095040 := rfl
        rw [if_neg (by omega), if_neg (by omega)]
      rw [this]; rfl
    · have e : y = 2139095040 := by unfold NN at hy; unfold rg at h2; omega
      subst e
      decide +kernel

theorem nn_lt {x y : Nat} (hx : NN x) (hy : NN y) : (FloatKind.f32.format.order x y == some .lt) = decide (rg x < rg y) := by
  rw [order_nn hx hy]
  show (some (compareOfLessAndEq (rg x) (rg y)) == some .lt) = _
  unfold compareOfLessAndEq
  by_cases h : rg x < rg y
  · rw [if_pos h, decide_eq_true h]; rfl
  · rw [if_neg h, decide_eq_false h]; split <;> rfl
theorem nn_gt {x y : Nat} (hx : NN x) (hy : NN y) : (FloatKind.f32.format.order x y == some .gt) = decide (rg y < rg x) := by
  rw [order_nn hx hy]
  show (some (compareOfLessAndEq (rg x) (rg y)) == some .gt) = _
  unfold compareOfLessAndEq
  by_cases h : rg x < rg y
  · rw [if_pos h, decide_eq_false (by omega)]; rfl
  · rw [if_neg h]
    by_cases h2 : rg x = rg y
    · rw [if_pos h2, decide_eq_false (by omega)]; rfl
    · rw [if_neg h2, decide_eq_true (by omega)]; rfl
theorem nn_eq {x y : Nat} (hx : NN x) (hy : NN y) : (FloatKind.f32.format.order x y == some .eq) = decide (rg x = rg y) := by
  rw [order_nn hx hy]
  show (some (compareOfLessAndEq (rg x) (rg y)) == some .eq) = _
  unfold compareOfLessAndEq
  by_cases h : rg x < rg y
  · rw [if_pos h, decide_eq_false (by omega)]; rfl
  · rw [if_neg h]
    by_cases h2 : rg x = rg y
    · rw [if_pos h2, decide_eq_true h2]; rfl
    · rw [if_neg h2, decide_eq_false h2]; rfl

theorem word_pos32 (r : Nat) : Ieee.single.word false r = r := rfl
theorem word_sign (s : Bool) (r : Nat) (hr : r ≤ 2139095040) (h : s = true → r = 0) : NN (Ieee.single.word s r) ∧ rg (Ieee.single.word s r) = r := by
  have hw : Ieee.single.signWeight = 2147483648 := by decide +kernel
  unfold Ieee.Format.word
  cases s
  · simp only [Bool.false_eq_true, if_false]
    exact ⟨.inl hr, Nat.mod_eq_of_lt (by omega)⟩
  · rw [h rfl, if_pos rfl, hw]
    exact ⟨.inr rfl, rfl⟩

/-- The sum of two that are not negative. -/
theorem add_fn {x y : Nat} (hx : FN x) (hy : FN y) : ∃ z, floatBits .add .f32 x y = some z ∧ NN z ∧ rg z = Q (mag (rg x) + mag (rg y)) 0 ∧ rg x ≤ rg z ∧ rg y ≤ rg z := by
  obtain ⟨s, m, k, h1, h2, h3, _⟩ := fn_read hx
  obtain ⟨t, n, l, g1, g2, g3, _⟩ := fn_read hy
  have hd : floatBits .add .f32 x y = ((FloatKind.f32.decode x).sum (FloatKind.f32.decode y)).map Ieee.single.write := rfl
  rw [hd, h1, g1]
  simp only [Ieee.Datum.sum]
  rw [signed_nn s m _ h3, signed_nn t n _ g3]
  obtain ⟨c, hc⟩ : ∃ c, min k l = c := ⟨_, rfl⟩
  have e0 : min (-149 + (k : Int)) (-149 + (l : Int)) = -149 + c - (0 : Nat) := by omega
  have e1 : (-149 + (k : Int) - (-149 + c - (0 : Nat))).toNat = k - c := by omega
  have e2 : (-149 + (l : Int) - (-149 + c - (0 : Nat))).toNat = l - c := by omega
  rw [e0, e1, e2]
  have e3 : (((m * 2 ^ (k - c) : Nat) : Int) + ((n * 2 ^ (l - c) : Nat) : Int)) = ((m * 2 ^ (k - c) + n * 2 ^ (l - c) : Nat) : Int) := by omega
  rw [e3]
  have e4 : (m * 2 ^ (k - c) + n * 2 ^ (l - c)) * 2 ^ c = mag (rg x) + mag (rg y) := by
    rw [Nat.add_mul, Nat.mul_assoc, Nat.mul_assoc, ← Nat.pow_add, ← Nat.pow_add, show k - c + c = k by omega, show l - c + c = l by omega, h2, g2]
  generalize m * 2 ^ (k - c) + n * 2 ^ (l - c) = T at *
  simp only [Option.map_some, Ieee.Format.write]
  rw [nearest_gen _ _ _ c 0 rfl, Int.natAbs_natCast, e4]
  have hz : ∀ b : Bool, (b = true → Q (mag (rg x) + mag (rg y)) 0 = 0) → ∃ z, some (Ieee.single.word b (Q (mag (rg x) + mag (rg y)) 0)) = some z ∧ NN z ∧ rg z = Q (mag (rg x) + mag (rg y)) 0 ∧ rg x ≤ rg z ∧ rg y ≤ rg z := by
    intro b hb
    obtain ⟨a1, a2⟩ := word_sign b _ (Q_le _ _) hb
    refine ⟨_, rfl, a1, a2, ?_, ?_⟩
    · rw [a2]
      have := Q_mono (mag (rg x)) (mag (rg x) + mag (rg y)) 0 (by omega)
      rwa [Q_mag _ hx.rlt] at this
    · rw [a2]
      have := Q_mono (mag (rg y)) (mag (rg x) + mag (rg y)) 0 (by omega)
      rwa [Q_mag _ hy.rlt] at this
  refine hz _ ?_
  intro hb
  split at hb
  · rename_i h0
    have h0' : T = 0 := by omega
    rw [h0', Nat.zero_mul] at e4
    rw [← e4, Q_zero]
  · rw [decide_eq_true_eq] at hb; omega

/-- The difference of a number and one that is not greater. -/
theorem sub_fn {x y : Nat} (hx : FN x) (hy : FN y) (hle : rg y ≤ rg x) : ∃ z, floatBits .sub .f32 x y = some z ∧ FN z ∧ rg z ≤ rg x ∧ rg z = Q (mag (rg x) - mag (rg y)) 0 := by
  obtain ⟨s, m, k, h1, h2, h3, _⟩ := fn_read hx
  obtain ⟨t, n, l, g1, g2, g3, _⟩ := fn_read hy
  have hd : floatBits .sub .f32 x y = ((FloatKind.f32.decode x).sum (FloatKind.f32.decode y).opposite).map Ieee.single.write := rfl
  rw [hd, h1, g1]
  simp only [Ieee.Datum.opposite, Ieee.Datum.sum]
  have hneg : ∀ u, Ieee.signed (!t) n u = -((n * 2 ^ u : Nat) : Int) := by
    intro u
    unfold Ieee.signed
    rw [Nat.shiftLeft_eq]
    cases t
    · rfl
    · rw [g3 rfl, Nat.zero_mul]; rfl
  rw [signed_nn s m _ h3, hneg]
  obtain ⟨c, hc⟩ : ∃ c, min k l = c := ⟨_, rfl⟩
  have e0 : min (-149 + (k : Int)) (-149 + (l : Int)) = -149 + c - (0 : Nat) := by omega
  have e1 : (-149 + (k : Int) - (-149 + c - (0 : Nat))).toNat = k - c := by omega
  have e2 : (-149 + (l : Int) - (-149 + c - (0 : Nat))).toNat = l - c := by omega
  rw [e0, e1, e2]
  have hm := mag_mono hle hx.rlt
  have ex : m * 2 ^ (k - c) * 2 ^ c = mag (rg x) := by rw [Nat.mul_assoc, ← Nat.pow_add, show k - c + c = k by omega, h2]
  have ey : n * 2 ^ (l - c) * 2 ^ c = mag (rg y) := by rw [Nat.mul_assoc, ← Nat.pow_add, show l - c + c = l by omega, g2]
  generalize m * 2 ^ (k - c) = A at *
  generalize n * 2 ^ (l - c) = B at *
  have hAB : B ≤ A := by
    refine Nat.le_of_mul_le_mul_right (c := 2 ^ c) ?_ (Nat.two_pow_pos c)
    rw [ex, ey]; exact hm
  have e3 : ((A : Int) + -(B : Int)) = ((A - B : Nat) : Int) := by omega
  rw [e3]
  simp only [Option.map_some, Ieee.Format.write]
  rw [nearest_gen _ _ _ c 0 rfl, Int.natAbs_natCast]
  have hq : Q ((A - B) * 2 ^ c) 0 ≤ rg x := by
    have := Q_mono ((A - B) * 2 ^ c) (mag (rg x)) 0 (by rw [← ex]; exact Nat.mul_le_mul_right _ (by omega))
    rwa [Q_mag _ hx.rlt] at this
  have hdiff : (A - B) * 2 ^ c = mag (rg x) - mag (rg y) := by rw [Nat.sub_mul, ex, ey]
  have hz : ∀ b : Bool, (b = true → Q ((A - B) * 2 ^ c) 0 = 0) → ∃ z, some (Ieee.single.word b (Q ((A - B) * 2 ^ c) 0)) = some z ∧ FN z ∧ rg z ≤ rg x ∧ rg z = Q (mag (rg x) - mag (rg y)) 0 := by
    intro b hb
    obtain ⟨a1, a2⟩ := word_sign b _ (Q_le _ _) hb
    refine ⟨_, rfl, a1.fn ?_, ?_, ?_⟩
    · rw [a2]; have := hx.rlt; omega
    · rw [a2]; exact hq
    · rw [a2, hdiff]
  refine hz _ ?_
  intro hb
  split at hb
  · rename_i h0
    have h0' : A - B = 0 := by omega
    rw [h0', Nat.zero_mul, Q_zero]
  · rw [decide_eq_true_eq] at hb; omega

/-- The product of two that are not negative; by one of at most 1 it grows no greater. -/
theorem mul_fn {x y : Nat} (hx : FN x) (hy : FN y) : ∃ z, floatBits .mul .f32 x y = some z ∧ NN z ∧ rg z = Q (mag (rg x) * mag (rg y)) 149 ∧ (rg y ≤ 1065353216 → rg z ≤ rg x) ∧ (rg x ≤ 1065353216 → rg z ≤ rg y) := by
  obtain ⟨s, m, k, h1, h2, h3, _⟩ := fn_read hx
  obtain ⟨t, n, l, g1, g2, g3, _⟩ := fn_read hy
  have hd : floatBits .mul .f32 x y = ((FloatKind.f32.decode x).product (FloatKind.f32.decode y)).map Ieee.single.write := rfl
  rw [hd, h1, g1]
  simp only [Ieee.Datum.product, Option.map_some, Ieee.Format.write]
  rw [nearest_gen _ _ _ (k + l) 149 (by omega)]
  have e4 : m * n * 2 ^ (k + l) = mag (rg x) * mag (rg y) := by
    rw [h2, g2, Nat.pow_add, Nat.mul_mul_mul_comm]
  rw [e4]
  obtain ⟨a1, a2⟩ := word_sign (s ^^ t) (Q (mag (rg x) * mag (rg y)) 149) (Q_le _ _) (by
    intro hb
    have h0 : m * n = 0 := by
      cases s <;> cases t
      · cases hb
      · rw [g3 rfl]; exact Nat.mul_zero _
      · rw [h3 rfl]; exact Nat.zero_mul _
      · cases hb
    rw [← e4, h0, Nat.zero_mul, Q_zero])
  refine ⟨_, rfl, a1, a2, ?_, ?_⟩
  · intro hy1
    rw [a2]
    have h5 := mag_mono hy1 (by decide)
    rw [mag_one] at h5
    have := Q_mono _ _ 149 (Nat.mul_le_mul_left (mag (rg x)) h5)
    have h6 := Q_scale (mag (rg x)) 0 149
    rw [Nat.zero_add] at h6
    rwa [h6, Q_mag _ hx.rlt] at this
  · intro hx1
    rw [a2, Nat.mul_comm]
    have h5 := mag_mono hx1 (by decide)
    rw [mag_one] at h5
    have := Q_mono _ _ 149 (Nat.mul_le_mul_left (mag (rg y)) h5)
    have h6 := Q_scale (mag (rg y)) 0 149
    rw [Nat.zero_add] at h6
    rwa [h6, Q_mag _ hy.rlt] at this

/-- The quotient of two that are not negative, the second one greater than 0; of one that is not greater, it is at most 1. -/
theorem quo_fn {x y : Nat} (hx : FN x) (hy : FN y) (h0 : 0 < rg y) : ∃ z, floatBits .quo .f32 x y = some z ∧ NN z ∧ (rg x ≤ rg y → rg z ≤ 1065353216) := by
  obtain ⟨s, m, k, h1, h2, h3, _⟩ := fn_read hx
  obtain ⟨t, n, l, g1, g2, g3, _⟩ := fn_read hy
  have hd : floatBits .quo .f32 x y = ((FloatKind.f32.decode x).quotient 25 (FloatKind.f32.decode y)).map Ieee.single.write := rfl
  have hmy := mag_pos h0 hy.rlt
  have hn : n ≠ 0 := by
    intro h; rw [h, Nat.zero_mul] at g2; omega
  have ht : t = false := by
    cases t
    · rfl
    · exact absurd (g3 rfl) hn
  subst ht
  rw [hd, h1, g1]
  simp only [Ieee.Datum.quotient]
  rw [if_neg hn]
  simp only [Option.map_some, Ieee.Format.write, Bool.xor_false]
  obtain ⟨more, hmore⟩ : ∃ more, 25 + n.log2 - m.log2 = more := ⟨_, rfl⟩
  rw [hmore, Nat.shiftLeft_eq]
  obtain ⟨V, hV⟩ : ∃ V, 2 * (m * 2 ^ more / n) + (m * 2 ^ more % n != 0).toNat = V := ⟨_, rfl⟩
  rw [hV, nearest_gen s V _ (k + 149) (l + more + 1) (by omega)]
  have hm0 : m = 0 → V = 0 := by
    intro h; rw [← hV, h, Nat.zero_mul, Nat.zero_div, Nat.zero_mod]; rfl
  obtain ⟨a1, a2⟩ := word_sign s (Q (V * 2 ^ (k + 149)) (l + more + 1)) (Q_le _ _) (by
    intro hb
    rw [hm0 (h3 hb), Nat.zero_mul, Q_zero])
  refine ⟨_, rfl, a1, fun hle => ?_⟩
  rw [a2]
  have hmm := mag_mono hle hy.rlt
  rw [h2, g2] at hmm
  have hV2 : V * 2 ^ k ≤ 2 ^ (l + more + 1) := by
    by_cases hmz : m = 0
    · rw [hm0 hmz, Nat.zero_mul]; exact Nat.zero_le _
    have hkl : k ≤ l + more := by
      have b1 : 2 ^ (m.log2 + k) ≤ m * 2 ^ k := by rw [Nat.pow_add]; exact Nat.mul_le_mul_right _ (Nat.log2_self_le hmz)
      have b2 : n * 2 ^ l < 2 ^ (n.log2 + 1 + l) := by rw [Nat.pow_add]; exact Nat.mul_lt_mul_of_pos_right Nat.lt_log2_self (Nat.two_pow_pos l)
      have b3 : 2 ^ (m.log2 + k) < 2 ^ (n.log2 + 1 + l) := by omega
      have b4 := (Nat.pow_lt_pow_iff_right (show 1 < 2 by decide)).1 b3
      omega
    have hD : m * 2 ^ more ≤ n * 2 ^ (l + more - k) := by
      refine Nat.le_of_mul_le_mul_right (c := 2 ^ k) ?_ (Nat.two_pow_pos k)
      rw [Nat.mul_assoc n, ← Nat.pow_add, show l + more - k + k = l + more by omega, Nat.mul_right_comm, Nat.pow_add 2 l more, ← Nat.mul_assoc]
      exact Nat.mul_le_mul_right _ hmm
    obtain ⟨T, hT⟩ : ∃ T, 2 ^ (l + more - k) = T := ⟨_, rfl⟩
    have hT2 : 2 ^ (l + more + 1) = 2 * T * 2 ^ k := by
      rw [← hT, Nat.mul_assoc, ← Nat.pow_add, show l + more - k + k = l + more by omega, Nat.pow_succ, Nat.mul_comm]
    rw [hT2]
    refine Nat.mul_le_mul_right _ ?_
    rw [← hV]
    rw [hT] at hD
    generalize m * 2 ^ more = D at *
    by_cases he : D = n * T
    · rw [he, Nat.mul_div_cancel_left _ (by omega), Nat.mul_mod_right]
      exact Nat.le_refl _
    · have h5 : D / n < T := (Nat.div_lt_iff_lt_mul (by omega)).2 (by rw [Nat.mul_comm]; omega)
      have h6 := Bool.toNat_le (D % n != 0)
      omega
  have h7 : V * 2 ^ (k + 149) ≤ 2 ^ 149 * 2 ^ (l + more + 1) := by
    rw [Nat.pow_add, ← Nat.mul_assoc, Nat.mul_comm (2 ^ 149)]
    exact Nat.mul_le_mul_right _ hV2
  have h8 := Q_mono _ _ (l + more + 1) h7
  have h9 := Q_scale (2 ^ 149) 0 (l + more + 1)
  rw [Nat.zero_add] at h9
  rw [h9, ← mag_one, Q_mag _ (by decide)] at h8
  exact h8

theorem Q_one : Q 1 0 = 1 := Q_mag 1 (by decide)
theorem Q_pos {n : Nat} (h : 0 < n) : 0 < Q n 0 := by
  have := Q_mono 1 n 0 h
  rw [Q_one] at this; exact this

/-- What is negative, or no number, is neither greater than nought nor equal. -/
theorem not_nn {x : Nat} (hx : x < 4294967296) (h : ¬ NN x) : FloatKind.f32.format.order x 0 = none ∨ FloatKind.f32.format.order x 0 = some .lt := by
  have hd : FloatKind.f32.format.order x 0 = (FloatKind.f32.decode x).order (FloatKind.f32.decode 0) := rfl
  have h0 : FloatKind.f32.decode 0 = .number false 0 (-149) := by decide +kernel
  unfold NN at h
  rw [hd, h0]
  by_cases hf : x % 2147483648 < 2139095040
  · obtain ⟨m, k, h1, h2⟩ := fin_read x hf
    have hs : (x / 2147483648 % 2 == 1) = true := by rw [beq_iff_eq]; omega
    have hm := mag_pos (show 0 < x % 2147483648 by omega) hf
    have hm0 : 0 < m := by
      rcases Nat.eq_zero_or_pos m with h3 | h3
      · rw [h2, h3, Nat.zero_mul] at hm; omega
      · exact h3
    rw [h1, hs]
    right
    simp only [Ieee.Datum.order, Ieee.signed, if_true, Bool.false_eq_true, if_false, Nat.shiftLeft_eq, Nat.zero_mul, Option.some.injEq]
    show compareOfLessAndEq _ _ = _
    unfold compareOfLessAndEq
    have hp := Nat.mul_pos hm0 (Nat.two_pow_pos (-149 + (k : Int) - min (-149 + (k : Int)) (-149)).toNat)
    rw [if_pos (by omega)]
  · rw [read_single, if_neg (by omega), if_neg hf]
    by_cases hi : x % 2147483648 = 2139095040
    · rw [if_pos hi]
      have hs : (x / 2147483648 % 2 == 1) = true := by rw [beq_iff_eq]; omega
      rw [hs]
      exact .inr rfl
    · rw [if_neg hi]
      exact .inl rfl
theorem nn_zero : NN 0 := .inl (by decide)
theorem nn_onef : FN 1065353216 := .inl (by decide)
/-- A finite word, read; few digits. -/
theorem fin_read2 (x : Nat) (h : x % 2147483648 < 2139095040) : ∃ m k : Nat, FloatKind.f32.decode x = .number (x / 2147483648 % 2 == 1) m (-149 + k) ∧ mag (x % 2147483648) = m * 2 ^ k ∧ m < 16777216 := by
  rw [read_single]
  unfold mag
  by_cases h1 : x % 2147483648 < 8388608
  · rw [if_pos h1, if_pos h1]
    exact ⟨_, 0, rfl, by rw [Nat.pow_zero, Nat.mul_one], by omega⟩
  · rw [if_neg h1, if_pos h, if_neg h1]
    exact ⟨_, _, rfl, rfl, by have := Nat.mod_lt (x % 2147483648) (show 8388608 > 0 by decide); omega⟩

theorem word_rg (s : Bool) (r : Nat) (hr : r ≤ 2139095040) : rg (Ieee.single.word s r) = r ∧ (Ieee.single.word s r / 2147483648 % 2 == 1) = s ∧ Ieee.single.word s r < 4294967296 := by
  have hw : Ieee.single.signWeight = 2147483648 := by decide +kernel
  unfold Ieee.Format.word rg
  rw [hw]
  cases s
  · simp only [Bool.false_eq_true, if_false]
    refine ⟨Nat.mod_eq_of_lt (by omega), ?_, by omega⟩
    rw [beq_eq_false_iff_ne]; omega
  · simp only [if_true]
    refine ⟨by omega, ?_, by omega⟩
    rw [beq_iff_eq]; omega

/-- A product, with its sign. -/
theorem mul_sg {x y : Nat} (hx : rg x < 2139095040) (hy : rg y < 2139095040) :
    floatBits .mul .f32 x y = some (Ieee.single.word ((x / 2147483648 % 2 == 1) ^^ (y / 2147483648 % 2 == 1)) (Q (mag (rg x) * mag (rg y)) 149)) := by
  obtain ⟨m, k, h1, h2, _⟩ := fin_read2 x hx
  obtain ⟨n, l, g1, g2, _⟩ := fin_read2 y hy
  have hd : floatBits .mul .f32 x y = ((FloatKind.f32.decode x).product (FloatKind.f32.decode y)).map Ieee.single.write := rfl
  rw [hd, h1, g1]
  simp only [Ieee.Datum.product, Option.map_some, Ieee.Format.write]
  rw [nearest_gen _ _ _ (k + l) 149 (by omega)]
  have e4 : m * n * 2 ^ (k + l) = mag (rg x) * mag (rg y) := by
    unfold rg
    rw [h2, g2, Nat.pow_add, Nat.mul_mul_mul_comm]
  rw [e4]

theorem signed_abs (s : Bool) (m u : Nat) : (Ieee.signed s m u).natAbs = m * 2 ^ u := by
  unfold Ieee.signed
  rw [Nat.shiftLeft_eq]
  cases s
  · simp only [Bool.false_eq_true, if_false, Int.natAbs_natCast]
  · simp only [if_true, Int.natAbs_neg, Int.natAbs_natCast]

/-- A sum is no greater than both together, but for signs. -/
theorem add_mag {x y : Nat} (hx : rg x < 2139095040) (hy : rg y < 2139095040) : ∃ z, floatBits .add .f32 x y = some z ∧ rg z ≤ Q (mag (rg x) + mag (rg y)) 0 := by
  obtain ⟨m, k, h1, h2, _⟩ := fin_read2 x hx
  obtain ⟨n, l, g1, g2, _⟩ := fin_read2 y hy
  have hd : floatBits .add .f32 x y = ((FloatKind.f32.decode x).sum (FloatKind.f32.decode y)).map Ieee.single.write := rfl
  have h2' : mag (rg x) = m * 2 ^ k := h2
  have g2' : mag (rg y) = n * 2 ^ l := g2
  rw [hd, h1, g1]
  simp only [Ieee.Datum.sum, Option.map_some, Ieee.Format.write]
  obtain ⟨c, hc⟩ : ∃ c, min k l = c := ⟨_, rfl⟩
  have e0 : min (-149 + (k : Int)) (-149 + (l : Int)) = -149 + c - (0 : Nat) := by omega
  have e1 : (-149 + (k : Int) - (-149 + c - (0 : Nat))).toNat = k - c := by omega
  have e2 : (-149 + (l : Int) - (-149 + c - (0 : Nat))).toNat = l - c := by omega
  rw [e0, e1, e2, nearest_gen _ _ _ c 0 rfl]
  refine ⟨_, rfl, ?_⟩
  rw [(word_rg _ _ (Q_le _ _)).1]
  refine Q_mono _ _ 0 ?_
  have h3 := Int.natAbs_add_le (Ieee.signed (x / 2147483648 % 2 == 1) m (k - c)) (Ieee.signed (y / 2147483648 % 2 == 1) n (l - c))
  rw [signed_abs, signed_abs] at h3
  refine Nat.le_trans (Nat.mul_le_mul_right _ h3) (Nat.le_of_eq ?_)
  rw [Nat.add_mul, Nat.mul_assoc, Nat.mul_assoc, ← Nat.pow_add, ← Nat.pow_add, show k - c + c = k by omega, show l - c + c = l by omega, h2', g2']

theorem signed_neg (m u : Nat) : Ieee.signed true m u = -((m * 2 ^ u : Nat) : Int) := by
  unfold Ieee.signed
  rw [Nat.shiftLeft_eq]
  rfl
theorem signed_pos (m u : Nat) : Ieee.signed false m u = ((m * 2 ^ u : Nat) : Int) := by
  unfold Ieee.signed
  rw [Nat.shiftLeft_eq]
  rfl

/-- Below nought, the greater rung is less. -/
theorem order_neg {x y : Nat} (hx : rg x < 2139095040) (hy : rg y < 2139095040) (sx : (x / 2147483648 % 2 == 1) = true) (sy : (y / 2147483648 % 2 == 1) = true) :
    (FloatKind.f32.format.order x y == some .lt) = decide (rg y < rg x) := by
  obtain ⟨m, k, h1, h2⟩ := fin_read x hx
  obtain ⟨n, l, g1, g2⟩ := fin_read y hy
  have h2' : mag (rg x) = m * 2 ^ k := h2
  have g2' : mag (rg y) = n * 2 ^ l := g2
  have hd : FloatKind.f32.format.order x y = (FloatKind.f32.decode x).order (FloatKind.f32.decode y) := rfl
  rw [hd, h1, g1, sx, sy]
  simp only [Ieee.Datum.order]
  rw [signed_neg, signed_neg]
  obtain ⟨c, hc⟩ : ∃ c, min k l = c := ⟨_, rfl⟩
  have e1 : (-149 + (k : Int) - min (-149 + (k : Int)) (-149 + (l : Int))).toNat = k - c := by omega
  have e2 : (-149 + (l : Int) - min (-149 + (k : Int)) (-149 + (l : Int))).toNat = l - c := by omega
  rw [e1, e2]
  show (some (compareOfLessAndEq _ _) == _) = _
  unfold compareOfLessAndEq
  by_cases h : rg y < rg x
  · have := mag_strict h hx
    rw [h2', g2'] at this
    have := scale_lt this (c := c) (d := c) (by omega) (by omega) rfl
    rw [if_pos (by omega), decide_eq_true h]
    rfl
  · have := mag_mono (Nat.le_of_not_lt h) hy
    rw [h2', g2'] at this
    have h5 : m * 2 ^ (k - c) ≤ n * 2 ^ (l - c) := by
      refine Nat.le_of_mul_le_mul_right (c := 2 ^ c) ?_ (Nat.two_pow_pos c)
      rw [Nat.mul_assoc, Nat.mul_assoc, ← Nat.pow_add, ← Nat.pow_add, show k - c + c = k by omega, show l - c + c = l by omega]
      exact this
    rw [if_neg (by omega), decide_eq_false h]
    split <;> rfl

/-- What is below nought is less than what is above it. -/
theorem order_mix {x y : Nat} (hx : rg x < 2139095040) (hy : rg y < 2139095040) (sx : (x / 2147483648 % 2 == 1) = true) (sy : (y / 2147483648 % 2 == 1) = false) (h0 : 0 < rg y) : FloatKind.f32.format.order x y = some .lt := by
  obtain ⟨m, k, h1, h2⟩ := fin_read x hx
  obtain ⟨n, l, g1, g2⟩ := fin_read y hy
  have g2' : mag (rg y) = n * 2 ^ l := g2
  have hd : FloatKind.f32.format.order x y = (FloatKind.f32.decode x).order (FloatKind.f32.decode y) := rfl
  have hm := mag_pos h0 hy
  have hn : 0 < n := by
    rcases Nat.eq_zero_or_pos n with h | h
    · rw [g2', h, Nat.zero_mul] at hm; omega
    · exact h
  rw [hd, h1, g1, sx, sy]
  simp only [Ieee.Datum.order]
  rw [signed_neg, signed_pos]
  have hp := Nat.mul_pos hn (Nat.two_pow_pos (-149 + (l : Int) - min (-149 + (k : Int)) (-149 + (l : Int))).toNat)
  show some (compareOfLessAndEq _ _) = _
  unfold compareOfLessAndEq
  rw [if_pos (by omega)]
theorem order_mix2 {x y : Nat} (hx : NN x) (hy : rg y < 2139095040) (sy : (y / 2147483648 % 2 == 1) = true) (h0 : 0 < rg y) : FloatKind.f32.format.order x y = some .gt := by
  obtain ⟨n, l, g1, g2⟩ := fin_read y hy
  have g2' : mag (rg y) = n * 2 ^ l := g2
  have hd : FloatKind.f32.format.order x y = (FloatKind.f32.decode x).order (FloatKind.f32.decode y) := rfl
  have hm := mag_pos h0 hy
  have hn : 0 < n := by
    rcases Nat.eq_zero_or_pos n with h | h
    · rw [g2', h, Nat.zero_mul] at hm; omega
    · exact h
  rw [hd, g1, sy]
  by_cases hf : rg x < 2139095040
  · obtain ⟨s, m, k, h1, h2, h3, _⟩ := fn_read (hx.fn hf)
    rw [h1]
    simp only [Ieee.Datum.order]
    rw [signed_nn s m _ h3, signed_neg]
    have hp := Nat.mul_pos hn (Nat.two_pow_pos (-149 + (l : Int) - min (-149 + (k : Int)) (-149 + (l : Int))).toNat)
    show some (compareOfLessAndEq _ _) = _
    unfold compareOfLessAndEq
    rw [if_neg (by omega), if_neg (by omega)]
  · have e : x = 2139095040 := by unfold NN at hx; unfold rg at hf; omega
    subst e
    rw [decode_inf]
    rfl
end Go.Proofs.Ytdmcjloaommnpaa
