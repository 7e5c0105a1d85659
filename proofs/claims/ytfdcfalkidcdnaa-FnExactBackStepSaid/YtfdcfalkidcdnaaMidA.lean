/- Rounding is not far off; roots of great numbers are great: plain facts on numbers. -/
import Derived.Test.YtfdcfalkidcdnaaLogB
import Derived.Test.YtfdcfalkidcdnaaRainM
namespace Go.Proofs.Ytfdcfalkidcdnaa
set_option linter.unusedVariables false
set_option maxRecDepth 100000

theorem mag_next {r : Nat} (h0 : 0 < r) : mag (r + 1) ≤ 2 * mag r := by
  unfold mag
  by_cases h1 : r + 1 < 8388608
  · rw [if_pos h1, if_pos (by omega)]; omega
  · rw [if_neg h1]
    by_cases h2 : r < 8388608
    · obtain rfl : r = 8388607 := by omega
      decide
    · rw [if_neg h2]
      by_cases h3 : (r + 1) % 8388608 = 0
      · rw [h3, show (r + 1) / 8388608 - 1 = (r / 8388608 - 1) + 1 by omega, Nat.pow_succ, Nat.mul_comm (2 ^ _) 2, ← Nat.mul_assoc, ← Nat.mul_assoc]
        exact Nat.mul_le_mul_right _ (by omega)
      · rw [show (r + 1) / 8388608 = r / 8388608 by omega, show (r + 1) % 8388608 = r % 8388608 + 1 by omega, ← Nat.mul_assoc]
        exact Nat.mul_le_mul_right _ (by omega)
theorem Q_at (a d : Nat) : Q (a * 2 ^ d) d = Q a 0 := by
  have := Q_scale a 0 d
  rwa [Nat.zero_add] at this
theorem Q_down {n d r : Nat} (hr : r < 2139095040) (h : mag r * 2 ^ d ≤ n) : r ≤ Q n d := by
  have := Q_mono _ _ d h
  rwa [Q_at, Q_mag _ hr] at this
theorem Q_over {n d r : Nat} (hr : r < 2139095040) (h : n ≤ mag r * 2 ^ d) : Q n d ≤ r := by
  have := Q_mono _ _ d h
  rwa [Q_at, Q_mag _ hr] at this
theorem Q_inf : Q (mag 2139095040) 0 = 2139095040 := by decide +kernel
/-- What is rounded to a finite number is not too great. -/
theorem Q_fin {n d : Nat} (h : Q n d < 2139095040) : n < mag 2139095040 * 2 ^ d := by
  refine Nat.lt_of_not_le fun hn => ?_
  have := Q_mono _ _ d hn
  rw [Q_at, Q_inf] at this
  omega
/-- What is rounded is at most twice as great. -/
theorem Q_up {n d : Nat} (h : Q n d < 2139095040) : mag (Q n d) * 2 ^ d ≤ 2 * n := by
  obtain ⟨r, hr⟩ : ∃ r, Q n d = r := ⟨_, rfl⟩
  rw [hr] at h ⊢
  rcases r with _ | _ | r
  · rw [mag_zero, Nat.zero_mul]; omega
  · rw [show mag (0 + 1) = 1 from rfl, Nat.one_mul]
    refine Nat.le_of_not_lt fun hlt => ?_
    have hn0 : n / 2 ^ d = 0 := Nat.div_eq_of_lt (by omega)
    have hm : n % 2 ^ d = n := Nat.mod_eq_of_lt (by omega)
    have hl : n.log2 - (d + 23) = 0 := by
      by_cases h0 : n = 0
      · subst h0; simp
      · have : n.log2 < d := (Nat.log2_lt h0).2 (by omega)
        omega
    have : Q n d = 0 := by
      unfold Q rne
      simp only [hl, Nat.zero_mul, Nat.zero_add, hn0, hm]
      rw [show decide (2 ^ d < 2 * n) = false from decide_eq_false (by omega), show (2 ^ d == 2 * n) = false from beq_eq_false_iff_ne.2 (by omega)]
      rfl
    omega
  · refine Nat.le_of_not_lt fun hlt => ?_
    have hm := mag_next (r := r + 1) (by omega)
    have h1 : mag (r + 1 + 1) * 2 ^ d ≤ 2 * (mag (r + 1) * 2 ^ d) := by rw [← Nat.mul_assoc]; exact Nat.mul_le_mul_right _ hm
    have h2 := Q_over (n := n) (d := d) (r := r + 1) (by omega) (by omega)
    omega
/-- What is rounded is at least half as great. -/
theorem Q_half {n d : Nat} (h : Q n d < 2139095040) (hn : 2 ^ d ≤ n) : n ≤ 2 * (mag (Q n d) * 2 ^ d) := by
  have h1 : 1 ≤ Q n d := Q_down (r := 1) (by decide) (by rw [show mag 1 = 1 from rfl, Nat.one_mul]; exact hn)
  obtain ⟨r, hr⟩ : ∃ r, Q n d = r := ⟨_, rfl⟩
  have hr' := hr
  rw [hr] at h h1 ⊢
  refine Nat.le_of_not_lt fun hlt => ?_
  have hm := mag_next (r := r) (by omega)
  have h2 : mag (r + 1) * 2 ^ d ≤ 2 * (mag r * 2 ^ d) := by rw [← Nat.mul_assoc]; exact Nat.mul_le_mul_right _ hm
  have h3 : r + 1 ≤ Q n d := by
    by_cases hi : r + 1 < 2139095040
    · exact Q_down hi (by omega)
    · obtain rfl : r = 2139095039 := by omega
      have h2' : mag 2139095040 * 2 ^ d ≤ 2 * (mag 2139095039 * 2 ^ d) := h2
      have := Q_mono _ _ d (show mag 2139095040 * 2 ^ d ≤ n by omega)
      rw [Q_at, Q_inf] at this
      omega
  omega

/-- A quotient is not greater than a power of 2 where the divisor is great enough. -/
theorem quo_pow (j : Nat) {x y : Nat} (hx : FN x) (hy : FN y) (h0 : 0 < rg y) (hle : mag (rg x) ≤ mag (rg y) * 2 ^ j) : ∃ z, floatBits .quo .f32 x y = some z ∧ NN z ∧ rg z ≤ Q (2 ^ (149 + j)) 0 := by
  obtain ⟨s, m, k, h1, h2, h3, _⟩ := fn_read hx
  obtain ⟨t, n, l, g1, g2, g3, _⟩ := fn_read hy
  have hd : floatBits .quo .f32 x y = ((FloatKind.f32.decode x).quotient 25 (FloatKind.f32.decode y)).map Ieee.single.write := rfl
  have hmy := mag_pos h0 hy.rlt
  have hn : n ≠ 0 := by
    intro h; rw [h, Nat.zero_mul] at g2; omega
  have ht : t = false := by
    cases t
    · rfl
    · exact absurd (g3 rfl) hn
  subst ht
  rw [hd, h1, g1]
  simp only [Ieee.Datum.quotient]
  rw [if_neg hn]
  simp only [Option.map_some, Ieee.Format.write, Bool.xor_false]
  obtain ⟨more, hmore⟩ : ∃ more, 25 + n.log2 - m.log2 = more := ⟨_, rfl⟩
  rw [hmore, Nat.shiftLeft_eq]
  obtain ⟨V, hV⟩ : ∃ V, 2 * (m * 2 ^ more / n) + (m * 2 ^ more % n != 0).toNat = V := ⟨_, rfl⟩
  rw [hV, nearest_gen s V _ (k + 149) (l + more + 1) (by omega)]
  have hm0 : m = 0 → V = 0 := by
    intro h; rw [← hV, h, Nat.zero_mul, Nat.zero_div, Nat.zero_mod]; rfl
  obtain ⟨a1, a2⟩ := word_sign s (Q (V * 2 ^ (k + 149)) (l + more + 1)) (Q_le _ _) (by
    intro hb
    rw [hm0 (h3 hb), Nat.zero_mul, Q_zero])
  refine ⟨_, rfl, a1, ?_⟩
  rw [a2]
  have hmm := hle
  rw [h2, g2, Nat.mul_assoc, ← Nat.pow_add] at hmm
  have hV2 : V * 2 ^ k ≤ 2 ^ (l + j + more + 1) := by
    by_cases hmz : m = 0
    · rw [hm0 hmz, Nat.zero_mul]; exact Nat.zero_le _
    have hkl : k ≤ l + j + more := by
      have b1 : 2 ^ (m.log2 + k) ≤ m * 2 ^ k := by rw [Nat.pow_add]; exact Nat.mul_le_mul_right _ (Nat.log2_self_le hmz)
      have b2 : n * 2 ^ (l + j) < 2 ^ (n.log2 + 1 + (l + j)) := by rw [Nat.pow_add 2 (n.log2 + 1)]; exact Nat.mul_lt_mul_of_pos_right Nat.lt_log2_self (Nat.two_pow_pos (l + j))
      have b3 : 2 ^ (m.log2 + k) < 2 ^ (n.log2 + 1 + (l + j)) := by omega
      have b4 := (Nat.pow_lt_pow_iff_right (show 1 < 2 by decide)).1 b3
      omega
    have hD : m * 2 ^ more ≤ n * 2 ^ (l + j + more - k) := by
      refine Nat.le_of_mul_le_mul_right (c := 2 ^ k) ?_ (Nat.two_pow_pos k)
      rw [Nat.mul_assoc n, ← Nat.pow_add, show l + j + more - k + k = l + j + more by omega, Nat.mul_right_comm, Nat.pow_add 2 (l + j) more, ← Nat.mul_assoc]
      exact Nat.mul_le_mul_right _ hmm
    obtain ⟨T, hT⟩ : ∃ T, 2 ^ (l + j + more - k) = T := ⟨_, rfl⟩
    have hT2 : 2 ^ (l + j + more + 1) = 2 * T * 2 ^ k := by
      rw [← hT, Nat.mul_assoc, ← Nat.pow_add, show l + j + more - k + k = l + j + more by omega, Nat.pow_succ, Nat.mul_comm]
    rw [hT2]
    refine Nat.mul_le_mul_right _ ?_
    rw [← hV]
    rw [hT] at hD
    generalize m * 2 ^ more = D at *
    by_cases he : D = n * T
    · rw [he, Nat.mul_div_cancel_left _ (by omega), Nat.mul_mod_right]
      exact Nat.le_refl _
    · have h5 : D / n < T := (Nat.div_lt_iff_lt_mul (by omega)).2 (by rw [Nat.mul_comm]; omega)
      have h6 := Bool.toNat_le (D % n != 0)
      omega
  have h7 : V * 2 ^ (k + 149) ≤ 2 ^ (149 + j) * 2 ^ (l + more + 1) := by
    rw [Nat.pow_add, ← Nat.mul_assoc, ← Nat.pow_add 2 (149 + j), show 149 + j + (l + more + 1) = (l + j + more + 1) + 149 by omega, Nat.pow_add 2 (l + j + more + 1)]
    exact Nat.mul_le_mul_right _ hV2
  have h8 := Q_mono _ _ (l + more + 1) h7
  rwa [Q_at] at h8

/-- A root of whole numbers is great enough. -/
theorem rootFrom_ge (n : Nat) : ∀ (todo root c : Nat), c * c ≤ n → c < root + 2 ^ todo → c ≤ Ieee.Datum.rootFrom n todo root
  | 0, root, c, _, h => by simp [Ieee.Datum.rootFrom]; omega
  | todo + 1, root, c, hc, h => by
    unfold Ieee.Datum.rootFrom
    have e : 1 <<< todo = 2 ^ todo := by rw [Nat.shiftLeft_eq, Nat.one_mul]
    rw [e]
    simp only
    rw [Nat.pow_succ] at h
    split
    · exact rootFrom_ge n todo _ c hc (by omega)
    · rename_i hn
      refine rootFrom_ge n todo _ c hc (Nat.lt_of_not_le fun hle => hn ?_)
      exact Nat.le_trans (Nat.mul_le_mul hle hle) hc

/-- The root of 2 ^ (2 k) and more is 2 ^ k and more. -/
theorem sqrt_ge (k : Nat) {v : Nat} (hv : v < 9218868437227405312) (h : 2 ^ (1074 + 2 * k) ≤ D64.mag v) : ∃ r, FloatKind.f64.format.sqrt v = some r ∧ r ≤ 9218868437227405312 ∧ D64.Q (2 ^ (1074 + k)) 0 ≤ r := by
  have hrv : D64.rg v = v := Nat.mod_eq_of_lt (by omega)
  obtain ⟨m, i, h1, h2, h3⟩ := D64.fin_read2 v (by omega)
  rw [show v % 9223372036854775808 = v from hrv] at h2
  have hs : (v / 9223372036854775808 % 2 == 1) = false := by
    have : v / 9223372036854775808 = 0 := by omega
    rw [this]; rfl
  rw [hs] at h1
  have hd0 : FloatKind.f64.format.sqrt v = ((FloatKind.f64.decode v).root 54).map Ieee.double.write := rfl
  rw [hd0, h1]
  have hm0 : m ≠ 0 := by
    intro h0; rw [h0, Nat.zero_mul] at h2
    have := Nat.two_pow_pos (1074 + 2 * k)
    omega
  unfold Ieee.Datum.root
  simp only
  rw [if_neg hm0, if_neg (by decide)]
  simp only [Option.map_some]
  obtain ⟨more, hmore⟩ : ∃ more, 2 * 54 - m.log2 + ((-1074 + (i : Int) - ↑(2 * 54 - m.log2)) % 2).toNat = more := ⟨_, rfl⟩
  rw [hmore]
  have heven : (-1074 + (i : Int) - more) % 2 = 0 := by omega
  have hms : m <<< more = m * 2 ^ more := Nat.shiftLeft_eq _ _
  have hn0 : m * 2 ^ more ≠ 0 := by
    have := Nat.two_pow_pos more
    intro h; rcases Nat.mul_eq_zero.1 h with h | h <;> omega
  rw [hms]
  obtain ⟨n, hn⟩ : ∃ n, m * 2 ^ more = n := ⟨_, rfl⟩
  rw [hn] at hn0 ⊢
  obtain ⟨whole, hw⟩ : ∃ x, Ieee.Datum.rootFrom n (n.log2 / 2 + 1) 0 = x := ⟨_, rfl⟩
  rw [hw]
  show ∃ r, some (Ieee.double.nearest false (2 * whole + (whole * whole != n).toNat) ((-1074 + (i : Int) - more) / 2 - 1)) = some r ∧ _
  obtain ⟨V, hV⟩ : ∃ V, 2 * whole + (whole * whole != n).toNat = V := ⟨_, rfl⟩
  rw [hV]
  obtain ⟨E, hE⟩ : ∃ E : Int, (-1074 + (i : Int) - more) / 2 = E := ⟨_, rfl⟩
  have hE2 : 2 * E = -1074 + (i : Int) - more := by omega
  rw [hE]
  obtain ⟨u, w, huw⟩ : ∃ u w : Nat, E - 1 = -1074 + (u : Int) - (w : Int) := by
    by_cases hp : 0 ≤ E - 1 + 1074
    · exact ⟨(E - 1 + 1074).toNat, 0, by omega⟩
    · exact ⟨0, (-(E - 1 + 1074)).toNat, by omega⟩
  rw [D64.nearest_gen false V _ u w huw, D64.word_pos32]
  refine ⟨_, rfl, D64.Q_le _ _, ?_⟩
  -- the whole root is great enough
  have hbig : 2 ^ (1074 + 2 * k) ≤ m * 2 ^ i := by rw [← h2]; exact h
  have hn2 : 2 ^ (1074 + 2 * k) * 2 ^ more ≤ n * 2 ^ i := by
    rw [← hn, Nat.mul_right_comm]; exact Nat.mul_le_mul_right _ hbig
  -- n is at least (2 ^ g) ^ 2 where g = k - E, or any number where that is not above 0
  have hwg : ∀ g : Nat, (g : Int) ≤ (k : Int) - E ∨ g = 0 → 2 ^ g ≤ whole := by
    intro g hg
    have hg2 : 2 ^ g * 2 ^ g ≤ n := by
      rcases hg with hg | rfl
      · refine Nat.le_of_mul_le_mul_right (c := 2 ^ i) (Nat.le_trans ?_ hn2) (Nat.two_pow_pos i)
        rw [← Nat.pow_add, ← Nat.pow_add, ← Nat.pow_add]
        exact Nat.pow_le_pow_right (by decide) (by omega)
      · exact Nat.pos_of_ne_zero hn0
    rw [← hw]
    refine rootFrom_ge n _ 0 _ hg2 ?_
    rw [Nat.zero_add]
    refine (Nat.pow_lt_pow_iff_right (show 1 < 2 by decide)).2 ?_
    have : g + g ≤ n.log2 := by
      rw [← Nat.pow_add] at hg2
      exact (Nat.le_log2 hn0).2 hg2
    omega
  obtain ⟨g, hg⟩ : ∃ g : Nat, g = ((k : Int) - E).toNat := ⟨_, rfl⟩
  have hwh := hwg g (by omega)
  have hVg : 2 ^ (g + 1) ≤ V := by rw [Nat.pow_succ]; omega
  have hle : 2 ^ (1074 + k) * 2 ^ w ≤ V * 2 ^ u := by
    refine Nat.le_trans ?_ (Nat.mul_le_mul_right _ hVg)
    rw [← Nat.pow_add, ← Nat.pow_add]
    exact Nat.pow_le_pow_right (by decide) (by omega)
  have := D64.Q_mono _ _ w hle
  have hq := D64.Q_scale (2 ^ (1074 + k)) 0 w
  rw [Nat.zero_add] at hq
  rwa [hq] at this
end Go.Proofs.Ytfdcfalkidcdnaa
