/- Rounding is not far off; roots of great numbers are great: plain facts on numbers. -/
import Derived.Test.YtfdcfalkidcdnaaLogB
import Derived.Test.YtfdcfalkidcdnaaRainM
import Derived.Test.YtfdcfalkidcdnaaSecB
namespace Go.Proofs.Ytfdcfalkidcdnaa
set_option linter.unusedVariables false
set_option maxRecDepth 100000

theorem mag_next {r : Nat} (h0 : 0 < r) : mag (r + 1) ≤ 2 * mag r := by
  unfold mag
  by_cases h1 : r + 1 < 8388608
  · rw [if_pos h1, if_pos (by omega)]; omega
  · rw [if_neg h1]
    by_cases h2 : r < 8388608
    · obtain rfl : r = 8388607 := by omega
      decide
    · rw [if_neg h2]
      by_cases h3 : (r + 1) % 8388608 = 0
      · rw [h3, show (r + 1) / 8388608 - 1 = (r / 8388608 - 1) + 1 by omega, Nat.pow_succ, Nat.mul_comm (2 ^ _) 2, ← Nat.mul_assoc, ← Nat.mul_assoc]
        exact Nat.mul_le_mul_right _ (by omega)
      · rw [show (r + 1) / 8388608 = r / 8388608 by omega, show (r + 1) % 8388608 = r % 8388608 + 1 by omega, ← Nat.mul_assoc]
        exact Nat.mul_le_mul_right _ (by omega)
theorem Q_at (a d : Nat) : Q (a * 2 ^ d) d = Q a 0 := by
  have := Q_scale a 0 d
  rwa [Nat.zero_add] at this
theorem Q_down {n d r : Nat} (hr : r < 2139095040) (h : mag r * 2 ^ d ≤ n) : r ≤ Q n d := by
  have := Q_mono _ _ d h
  rwa [Q_at, Q_mag _ hr] at this
theorem Q_over {n d r : Nat} (hr : r < 2139095040) (h : n ≤ mag r * 2 ^ d) : Q n d ≤ r := by
  have := Q_mono _ _ d h
  rwa [Q_at, Q_mag _ hr] at this
theorem Q_inf : Q (mag 2139095040) 0 = 2139095040 := by decide +kernel
/-- What is rounded to a finite number is not too great. -/
theorem Q_fin {n d : Nat} (h : Q n d < 2139095040) : n < mag 2139095040 * 2 ^ d := by
  refine Nat.lt_of_not_le fun hn => ?_
  have := Q_mono _ _ d hn
  rw [Q_at, Q_inf] at this
  omega
/-- What is rounded is at most twice as great. -/
theorem Q_up {n d : Nat} (h : Q n d < 2139095040) : mag (Q n d) * 2 ^ d ≤ 2 * n := by
  obtain ⟨r, hr⟩ : ∃ r, Q n d = r := ⟨_, rfl⟩
  rw [hr] at h ⊢
  rcases r with _ | _ | r
  · rw [mag_zero, Nat.zero_mul]; omega
  · rw [show mag (0 + 1) = 1 from rfl, Nat.one_mul]
    refine Nat.le_of_not_lt fun hlt => ?_
    have hn0 : n / 2 ^ d = 0 := Nat.div_eq_of_lt (by omega)
    have hm : n % 2 ^ d = n := Nat.mod_eq_of_lt (by omega)
    have hl : n.log2 - (d + 23) = 0 := by
      by_cases h0 : n = 0
      · subst h0; simp
      · have : n.log2 < d := (Nat.log2_lt h0).2 (by omega)
        omega
    have : Q n d = 0 := by
      unfold Q rne
      simp only [hl, Nat.zero_mul, Nat.zero_add, hn0, hm]
      rw [show decide (2 ^ d < 2 * n) = false from decide_eq_false (by omega), show (2 ^ d == 2 * n) = false from beq_eq_false_iff_ne.2 (by omega)]
      rfl
    omega
  · refine Nat.le_of_not_lt fun hlt => ?_
    have hm := mag_next (r := r + 1) (by omega)
    have h1 : mag (r + 1 + 1) * 2 ^ d ≤ 2 * (mag (r + 1) * 2 ^ d) := by rw [← Nat.mul_assoc]; exact Nat.mul_le_mul_right _ hm
    have h2 := Q_over (n := n) (d := d) (r := r + 1) (by omega) (by omega)
    omega
/-- What is rounded is at least half as great. -/
theorem Q_half {n d : Nat} (h : Q n d < 2139095040) (hn : 2 ^ d ≤ n) : n ≤ 2 * (mag (Q n d) * 2 ^ d) := by
  have h1 : 1 ≤ Q n d := Q_down (r := 1) (by decide) (by rw [show mag 1 = 1 from rfl, Nat.one_mul]; exact hn)
  obtain ⟨r, hr⟩ : ∃ r, Q n d = r := ⟨_, rfl⟩
  have hr' := hr
  rw [hr] at h h1 ⊢
  refine Nat.le_of_not_lt fun hlt => ?_
  have hm := mag_next (r := r) (by omega)
  have h2 : mag (r + 1) * 2 ^ d ≤ 2 * (mag r * 2 ^ d) := by rw [← Nat.mul_assoc]; exact Nat.mul_le_mul_right _ hm
  have h3 : r + 1 ≤ Q n d := by
    by_cases hi : r + 1 < 2139095040
    · exact Q_down hi (by omega)
    · obtain rfl : r = 2139095039 := by omega
      have h2' : mag 2139095040 * 2 ^ d ≤ 2 * (mag 2139095039 * 2 ^ d) := h2
      have := Q_mono _ _ d (show mag 2139095040 * 2 ^ d ≤ n by omega)
      rw [Q_at, Q_inf] at this
      omega
  omega

/-- A quotient is not greater than a power of 2 where the divisor is great enough. -/
theorem quo_pow (j : Nat) {x y : Nat} (hx : FN x) (hy : FN y) (h0 : 0 < rg y) (hle : mag (rg x) ≤ mag (rg y) * 2 ^ j) : ∃ z, floatBits .quo .f32 x y = some z ∧ NN z ∧ rg z ≤ Q (2 ^ (149 + j)) 0 := by
  obtain ⟨s, m, k, h1, h2, h3, _⟩ := fn_read hx
  obtain ⟨t, n, l, g1, g2, g3, _⟩ := fn_read hy
  have hd : floatBits .quo .f32 x y = ((FloatKind.f32.decode x).quotient 25 (FloatKind.f32.decode y)).map Ieee.single.write := rfl
  have hmy := mag_pos h0 hy.rlt
  have hn : n ≠ 0 := by
    intro h; rw [h, Nat.zero_mul] at g2; omega
  have ht : t = false := by
    cases t
    · rfl
    · exact absurd (g3 rfl) hn
  subst ht
  rw [hd, h1, g1]
  simp only [Ieee.Datum.quotient]
  rw [if_neg hn]
  simp only [Option.map_some, Ieee.Format.write, Bool.xor_false]
  obtain ⟨more, hmore⟩ : ∃ more, 25 + n.log2 - m.log2 = more := ⟨_, rfl⟩
  rw [hmore, Nat.shiftLeft_eq]
  obtain ⟨V, hV⟩ : ∃ V, 2 * (m * 2 ^ more / n) + (m * 2 ^ more % n != 0).toNat = V := ⟨_, rfl⟩
  rw [hV, nearest_gen s V _ (k + 149) (l + more + 1) (by omega)]
  have hm0 : m = 0 → V = 0 := by
    intro h; rw [← hV, h, Nat.zero_mul, Nat.zero_div, Nat.zero_mod]; rfl
  obtain ⟨a1, a2⟩ := word_sign s (Q (V * 2 ^ (k + 149)) (l + more + 1)) (Q_le _ _) (by
    intro hb
    rw [hm0 (h3 hb), Nat.zero_mul, Q_zero])
  refine ⟨_, rfl, a1, ?_⟩
  rw [a2]
  have hmm := hle
  rw [h2, g2, Nat.mul_assoc, ← Nat.pow_add] at hmm
  have hV2 : V * 2 ^ k ≤ 2 ^ (l + j + more + 1) := by
    by_cases hmz : m = 0
    · rw [hm0 hmz, Nat.zero_mul]; exact Nat.zero_le _
    have hkl : k ≤ l + j + more := by
      have b1 : 2 ^ (m.log2 + k) ≤ m * 2 ^ k := by rw [Nat.pow_add]; exact Nat.mul_le_mul_right _ (Nat.log2_self_le hmz)
      have b2 : n * 2 ^ (l + j) < 2 ^ (n.log2 + 1 + (l + j)) := by rw [Nat.pow_add 2 (n.log2 + 1)]; exact Nat.mul_lt_mul_of_pos_right Nat.lt_log2_self (Nat.two_pow_pos (l + j))
      have b3 : 2 ^ (m.log2 + k) < 2 ^ (n.log2 + 1 + (l + j)) := by omega
      have b4 := (Nat.pow_lt_pow_iff_right (show 1 < 2 by decide)).1 b3
      omega
    have hD : m * 2 ^ more ≤ n * 2 ^ (l + j + more - k) := by
      refine Nat.le_of_mul_le_mul_right (c := 2 ^ k) ?_ (Nat.two_pow_pos k)
      rw [Nat.mul_assoc n, ← Nat.pow_add, show l + j + more - k + k = l + j + more by omega, Nat.mul_right_comm, Nat.pow_add 2 (l + j) more, ← Nat.mul_assoc]
      exact Nat.mul_le_mul_right _ hmm
    obtain ⟨T, hT⟩ : ∃ T, 2 ^ (l + j + more - k) = T := ⟨_, rfl⟩
    have hT2 : 2 ^ (l + j + more + 1) = 2 * T * 2 ^ k := by
      rw [← hT, Nat.mul_assoc, ← Nat.pow_add, show l + j + more - k + k = l + j + more by omega, Nat.pow_succ, Nat.mul_comm]
    rw [hT2]
    refine Nat.mul_le_mul_right _ ?_
    rw [← hV]
    rw [hT] at hD
    generalize m * 2 ^ more = D at *
    by_cases he : D = n * T
    · rw [he, Nat.mul_div_cancel_left _ (by omega), Nat.mul_mod_right]
      exact Nat.le_refl _
    · have h5 : D / n < T := (Nat.div_lt_iff_lt_mul (by omega)).2 (by rw [Nat.mul_comm]; omega)
      have h6 := Bool.toNat_le (D % n != 0)
      omega
  have h7 : V * 2 ^ (k + 149) ≤ 2 ^ (149 + j) * 2 ^ (l + more + 1) := by
    rw [Nat.pow_add, ← Nat.mul_assoc, ← Nat.pow_add 2 (149 + j), show 149 + j + (l + more + 1) = (l + j + more + 1) + 149 by omega, Nat.pow_add 2 (l + j + more + 1)]
    exact Nat.mul_le_mul_right _ hV2
  have h8 := Q_mono _ _ (l + more + 1) h7
  rwa [Q_at] at h8

/-- A root of whole numbers is great enough. -/
theorem rootFrom_ge (n : Nat) : ∀ (todo root c : Nat), c * c ≤ n → c < root + 2 ^ todo → c ≤ Ieee.Datum.rootFrom n todo root
  | 0, root, c, _, h => by simp [Ieee.Datum.rootFrom]; omega
  | todo + 1, root, c, hc, h => by
    unfold Ieee.Datum.rootFrom
    have e : 1 <<< todo = 2 ^ todo := by rw [Nat.shiftLeft_eq, Nat.one_mul]
    rw [e]
    simp only
    rw [Nat.pow_succ] at h
    split
    · exact rootFrom_ge n todo _ c hc (by omega)
    · rename_i hn
      refine rootFrom_ge n todo _ c hc (Nat.lt_of_not_le fun hle => hn ?_)
      exact Nat.le_trans (Nat.mul_le_mul hle hle) hc

/-- The root of 2 ^ (2 k) and more is 2 ^ k and more. -/
theorem sqrt_ge (k : Nat) {v : Nat} (hv : v < 9218868437227405312) (h : 2 ^ (1074 + 2 * k) ≤ D64.mag v) : ∃ r, FloatKind.f64.format.sqrt v = some r ∧ r ≤ 9218868437227405312 ∧ D64.Q (2 ^ (1074 + k)) 0 ≤ r := by
  have hrv : D64.rg v = v := Nat.mod_eq_of_lt (by omega)
  obtain ⟨m, i, h1, h2, h3⟩ := D64.fin_read2 v (by omega)
  rw [show v % 9223372036854775808 = v from hrv] at h2
  have hs : (v / 9223372036854775808 % 2 == 1) = false := by
    have : v / 9223372036854775808 = 0 := by omega
    rw [this]; rfl
  rw [hs] at h1
  have hd0 : FloatKind.f64.format.sqrt v = ((FloatKind.f64.decode v).root 54).map Ieee.double.write := rfl
  rw [hd0, h1]
  have hm0 : m ≠ 0 := by
    intro h0; rw [h0, Nat.zero_mul] at h2
    have := Nat.two_pow_pos (1074 + 2 * k)
    omega
  unfold Ieee.Datum.root
  simp only
  rw [if_neg hm0, if_neg (by decide)]
  simp only [Option.map_some]
  obtain ⟨more, hmore⟩ : ∃ more, 2 * 54 - m.log2 + ((-1074 + (i : Int) - ↑(2 * 54 - m.log2)) % 2).toNat = more := ⟨_, rfl⟩
  rw [hmore]
  have heven : (-1074 + (i : Int) - more) % 2 = 0 := by omega
  have hms : m <<< more = m * 2 ^ more := Nat.shiftLeft_eq _ _
  have hn0 : m * 2 ^ more ≠ 0 := by
    have := Nat.two_pow_pos more
    intro h; rcases Nat.mul_eq_zero.1 h with h | h <;> omega
  rw [hms]
  obtain ⟨n, hn⟩ : ∃ n, m * 2 ^ more = n := ⟨_, rfl⟩
  rw [hn] at hn0 ⊢
  obtain ⟨whole, hw⟩ : ∃ x, Ieee.Datum.rootFrom n (n.log2 / 2 + 1) 0 = x := ⟨_, rfl⟩
  rw [hw]
  show ∃ r, some (Ieee.double.nearest false (2 * whole + (whole * whole != n).toNat) ((-1074 + (i : Int) - more) / 2 - 1)) = some r ∧ _
  obtain ⟨V, hV⟩ : ∃ V, 2 * whole + (whole * whole != n).toNat = V := ⟨_, rfl⟩
  rw [hV]
  obtain ⟨E, hE⟩ : ∃ E : Int, (-1074 + (i : Int) - more) / 2 = E := ⟨_, rfl⟩
  have hE2 : 2 * E = -1074 + (i : Int) - more := by omega
  rw [hE]
  obtain ⟨u, w, huw⟩ : ∃ u w : Nat, E - 1 = -1074 + (u : Int) - (w : Int) := by
    by_cases hp : 0 ≤ E - 1 + 1074
    · exact ⟨(E - 1 + 1074).toNat, 0, by omega⟩
    · exact ⟨0, (-(E - 1 + 1074)).toNat, by omega⟩
  rw [D64.nearest_gen false V _ u w huw, D64.word_pos32]
  refine ⟨_, rfl, D64.Q_le _ _, ?_⟩
  -- the whole root is great enough
  have hbig : 2 ^ (1074 + 2 * k) ≤ m * 2 ^ i := by rw [← h2]; exact h
  have hn2 : 2 ^ (1074 + 2 * k) * 2 ^ more ≤ n * 2 ^ i := by
    rw [← hn, Nat.mul_right_comm]; exact Nat.mul_le_mul_right _ hbig
  -- n is at least (2 ^ g) ^ 2 where g = k - E, or any number where that is not above 0
  have hwg : ∀ g : Nat, (g : Int) ≤ (k : Int) - E ∨ g = 0 → 2 ^ g ≤ whole := by
    intro g hg
    have hg2 : 2 ^ g * 2 ^ g ≤ n := by
      rcases hg with hg | rfl
      · refine Nat.le_of_mul_le_mul_right (c := 2 ^ i) (Nat.le_trans ?_ hn2) (Nat.two_pow_pos i)
        rw [← Nat.pow_add, ← Nat.pow_add, ← Nat.pow_add]
        exact Nat.pow_le_pow_right (by decide) (by omega)
      · exact Nat.pos_of_ne_zero hn0
    rw [← hw]
    refine rootFrom_ge n _ 0 _ hg2 ?_
    rw [Nat.zero_add]
    refine (Nat.pow_lt_pow_iff_right (show 1 < 2 by decide)).2 ?_
    have : g + g ≤ n.log2 := by
      rw [← Nat.pow_add] at hg2
      exact (Nat.le_log2 hn0).2 hg2
    omega
  obtain ⟨g, hg⟩ : ∃ g : Nat, g = ((k : Int) - E).toNat := ⟨_, rfl⟩
  have hwh := hwg g (by omega)
  have hVg : 2 ^ (g + 1) ≤ V := by rw [Nat.pow_succ]; omega
  have hle : 2 ^ (1074 + k) * 2 ^ w ≤ V * 2 ^ u := by
    refine Nat.le_trans ?_ (Nat.mul_le_mul_right _ hVg)
    rw [← Nat.pow_add, ← Nat.pow_add]
    exact Nat.pow_le_pow_right (by decide) (by omega)
  have := D64.Q_mono _ _ w hle
  have hq := D64.Q_scale (2 ^ (1074 + k)) 0 w
  rw [Nat.zero_add] at hq
  rwa [hq] at this

end Go.Proofs.Ytfdcfalkidcdnaa
namespace Go.Proofs.Ytfdcfalkidcdnaa
set_option linter.unusedVariables false
set_option maxRecDepth 100000

theorem e149 : (2 : Nat) ^ 149 = 713623846352979940529142984724747568191373312 := by decide +kernel
/-- The middle depth, by whole numbers: the area is at most 2 ^ 75 times what is wet. -/
theorem mid_nat {D q p w b u W a : Nat} (f1 : p * 713623846352979940529142984724747568191373312 ≤ 2 * (b * D)) (f2 : q ≤ 2 * (w + p)) (f2p : p ≤ q) (f3 : a * 713623846352979940529142984724747568191373312 ≤ 2 * (D * q)) (f3' : D * q < 173291855882550928723650886508942731464777317210988535948154973788413831737851601439998400381508723631086950685087723239310884864) (f4 : D ≤ u) (f4' : u ≤ W) (f4w : w ≤ W) (f5 : b < 13164036458569648337239753460458804039861886925068638906788872192)
    (f6 : 46768052394588893382517914646921056628989841375232 ≤ b → D * 65536 ≤ 2 * u) (f7 : 95780971304118053647396689196894323976171195136475136 ≤ b → D * 134217728 ≤ 2 * u) : a ≤ W * 37778931862957161709568 := by
  by_cases c1 : q ≤ 13479973333575319897333507543509815336818572211270286240551805124608
  · have h1 : D * q ≤ D * 13479973333575319897333507543509815336818572211270286240551805124608 := Nat.mul_le_mul_left _ c1
    omega
  · have hD : D < 12855504354071922204335696738729300820177623950262342682411008 := by
      refine Nat.lt_of_not_le fun hle => ?_
      have h1 : 12855504354071922204335696738729300820177623950262342682411008 * 13479973333575319897333507543509815336818572211270286240551805124608 ≤ D * q := Nat.mul_le_mul hle (by omega)
      omega
    by_cases c2 : p ≤ w
    · have h1 : D * q ≤ 12855504354071922204335696738729300820177623950262342682411008 * q := Nat.mul_le_mul_right _ (by omega)
      omega
    · have hDq : D * q ≤ D * (4 * p) := Nat.mul_le_mul_left _ (by omega)
      have hDp : D * p ≤ D * q := Nat.mul_le_mul_left _ f2p
      have e4 : D * (4 * p) = 4 * (D * p) := by rw [Nat.mul_left_comm]
      by_cases c3 : 46768052394588893382517914646921056628989841375232 ≤ b
      · have g6 := f6 c3
        by_cases c4 : 95780971304118053647396689196894323976171195136475136 ≤ b
        · have g7 := f7 c4
          have hbD : b * D ≤ 13164036458569648337239753460458804039861886925068638906788872192 * D := Nat.mul_le_mul_right _ (by omega)
          have hp : p ≤ 226156424291633194186662080095093570025917938800079226639565593765455331328 := by
            refine Nat.le_of_not_lt fun hlt => ?_
            have h2 : 6129982163463555433433388108601236734474956488734408704 ≤ D := by omega
            have h1 : 6129982163463555433433388108601236734474956488734408704 * 226156424291633194186662080095093570025917938800079226639565593765455331328 ≤ D * p := Nat.mul_le_mul h2 (by omega)
            omega
          have h3 : D * p ≤ D * 226156424291633194186662080095093570025917938800079226639565593765455331328 := Nat.mul_le_mul_left _ hp
          omega
        · have hbD : b * D ≤ 95780971304118053647396689196894323976171195136475136 * D := Nat.mul_le_mul_right _ (by omega)
          have hp : p ≤ 110427941548649020598956093796432407239217743554726184882600387580788736 := by omega
          have h3 : D * p ≤ D * 110427941548649020598956093796432407239217743554726184882600387580788736 := Nat.mul_le_mul_left _ hp
          omega
      · have hbD : b * D ≤ 46768052394588893382517914646921056628989841375232 * D := Nat.mul_le_mul_right _ (by omega)
        omega

theorem widr_pos {x : Nat} (h : x < 2139095040) : cvt .f32 x .f64 = some (widr x) := by
  have hr : rg x = x := Nat.mod_eq_of_lt (by omega)
  have := widen_word (x := x) (by rw [hr]; exact h)
  have hs : (x / 2147483648 % 2 == 1) = false := by rw [Nat.div_eq_of_lt (by omega)]; rfl
  rw [hs, D64.word_pos32] at this
  exact this

theorem lift_ge {M W k c s t : Nat} (h : 2 ^ (t + k) ≤ M) (hw : W = M * 2 ^ c) (hs : s = t + c) : 2 ^ (s + k) ≤ W := by
  rw [hw, hs, show t + c + k = (t + k) + c by omega, Nat.pow_add]
  exact Nat.mul_le_mul_right _ h
theorem drop_Q {R k c s t : Nat} (h : 2 ^ (s + k) ≤ R) (hs : s = t + c) : Q (2 ^ (t + k)) 0 ≤ Q R c := by
  rw [hs, show t + c + k = (t + k) + c by omega, Nat.pow_add] at h
  have := Q_mono _ _ c h
  rwa [Q_at] at this
theorem narrow_pos {r : Nat} (hr : r < 9218868437227405312) : cvt .f64 r .f32 = some (Q (D64.mag (D64.rg r)) 925) := by
  obtain ⟨m, i, g1, g2, _⟩ := D64.fin_read2 r (by omega)
  have hs : (r / 9223372036854775808 % 2 == 1) = false := by rw [Nat.div_eq_of_lt (by omega)]; rfl
  unfold cvt
  rw [if_neg (by decide), g1, hs]
  show some (Ieee.single.nearest false m (-1074 + i)) = _
  rw [nearest_gen _ _ _ i 925 (by omega)]
  unfold D64.rg
  rw [g2, word_pos32]
theorem root_some {x r : Nat} (h1 : rootF x = some r) (hr : r < 9218868437227405312) : rootO (some x) = some (Q (D64.mag (D64.rg r)) 925) := by
  unfold rootO
  simp only [Option.bind_some]
  rw [h1]
  exact narrow_pos hr
theorem exact_1 (k : Nat) (hk : k ≤ 100) {r : Nat} (hr : r < 9218868437227405312) (h : D64.Q (2 ^ (1074 + k)) 0 ≤ r) : 2 ^ (1074 + k) ≤ D64.mag r := by
  have hE := D64.Q_exact 1 (1074 + k) (by decide) (by omega) (by omega)
  rw [Nat.one_mul] at hE
  have := D64.mag_mono h hr
  rwa [hE.2] at this
/-- A root is at least 2 ^ k where the number is at least 2 ^ (2 k). -/
theorem root_ge (k : Nat) (hk : k ≤ 100) {x : Nat} (hx : FN x) (h0 : 0 < rg x) (h : 2 ^ (149 + 2 * k) ≤ mag (rg x)) : ∃ z, rootO (some x) = some z ∧ NN z ∧ Q (2 ^ (149 + k)) 0 ≤ rg z := by
  have hlt : x < 2139095040 := by unfold FN at hx; rcases hx with hx | rfl; exact hx; exact absurd h0 (by decide)
  have hr : rg x = x := Nat.mod_eq_of_lt (by omega)
  obtain ⟨w1, w2⟩ := widr_fin (x := x) (by rw [hr]; exact hlt)
  obtain ⟨r, hq, hq1, hq2⟩ := sqrt_ge k (v := widr x) w1 (lift_ge (c := 925) (t := 149) (s := 1074) (k := 2 * k) h w2 rfl)
  have hroot : rootF x = some r := by
    unfold rootF
    rw [widr_pos hlt, Option.bind_some]
    exact hq
  have hw1 := widr_mono (x := x) (y := 2139095039) (by rw [hr]; show x ≤ 2139095039; omega) (by decide)
  have hw2 := widr_high
  obtain ⟨v, hv⟩ : ∃ v, widr x = v := ⟨_, rfl⟩
  rw [hv] at hw1 hq
  have hsm : Sm 1147 r := sqrt_small (x := v) (by unfold Sm; omega) hq
  have hrf : r < 9218868437227405312 := by unfold Sm at hsm; omega
  have hrr : D64.rg r = r := Nat.mod_eq_of_lt (by omega)
  have hle := Q_le (D64.mag (D64.rg r)) 925
  have hge := drop_Q (c := 925) (t := 149) (s := 1074) (k := k) (exact_1 k hk hrf hq2) rfl
  rw [root_some hroot hrf, hrr]
  rw [hrr] at hle
  obtain ⟨l, hl⟩ : ∃ l, Q (D64.mag r) 925 = l := ⟨_, rfl⟩
  rw [hl] at hle hge ⊢
  have hlr : rg l = l := Nat.mod_eq_of_lt (by omega)
  exact ⟨l, rfl, .inl hle, by rw [hlr]; exact hge⟩

theorem inf_write : Ieee.single.write (.infinity false) = 2139095040 := by decide +kernel
theorem nn_inf {x : Nat} (h : NN x) (h' : ¬ FN x) : x = 2139095040 := by unfold NN at h; unfold FN at h'; omega
theorem add_inf {x : Nat} (hx : FN x) : floatBits .add .f32 x 2139095040 = some 2139095040 := by
  obtain ⟨s, m, k, h1, _⟩ := fn_read hx
  have hd : floatBits .add .f32 x 2139095040 = ((FloatKind.f32.decode x).sum (FloatKind.f32.decode 2139095040)).map Ieee.single.write := rfl
  rw [hd, h1, decode_inf]
  show some (Ieee.single.write (.infinity false)) = _
  rw [inf_write]
/-- A sum that is finite has finite parts. -/
theorem addN {x y : Nat} (hx : FN x) (hy : NN y) : ∃ z, floatBits .add .f32 x y = some z ∧ NN z ∧ (rg z < 2139095040 → FN y) := by
  by_cases h : FN y
  · obtain ⟨z, h1, h2, _⟩ := add_fn hx h
    exact ⟨z, h1, h2, fun _ => h⟩
  · obtain rfl := nn_inf hy h
    exact ⟨_, add_inf hx, .inl (Nat.le_refl _), fun h => absurd h (by decide)⟩
theorem pos_read {x : Nat} (hx : FN x) (h0 : 0 < rg x) : ∃ m k : Nat, FloatKind.f32.decode x = .number false m (-149 + k) ∧ m ≠ 0 := by
  obtain ⟨s, m, k, h1, h2, h3, _⟩ := fn_read hx
  have hm := mag_pos h0 hx.rlt
  have hm0 : m ≠ 0 := by intro h; rw [h, Nat.zero_mul] at h2; omega
  cases s
  · exact ⟨m, k, h1, hm0⟩
  · exact absurd (h3 rfl) hm0
theorem mul_inf_l {y : Nat} (hy : FN y) (h0 : 0 < rg y) : floatBits .mul .f32 2139095040 y = some 2139095040 := by
  obtain ⟨m, k, h1, hm⟩ := pos_read hy h0
  have hd : floatBits .mul .f32 2139095040 y = ((FloatKind.f32.decode 2139095040).product (FloatKind.f32.decode y)).map Ieee.single.write := rfl
  rw [hd, h1, decode_inf]
  simp only [Ieee.Datum.product, if_neg hm, Option.map_some, Bool.xor_false, inf_write]
theorem mul_inf_r {y : Nat} (hy : FN y) (h0 : 0 < rg y) : floatBits .mul .f32 y 2139095040 = some 2139095040 := by
  obtain ⟨m, k, h1, hm⟩ := pos_read hy h0
  have hd : floatBits .mul .f32 y 2139095040 = ((FloatKind.f32.decode y).product (FloatKind.f32.decode 2139095040)).map Ieee.single.write := rfl
  rw [hd, h1, decode_inf]
  simp only [Ieee.Datum.product, if_neg hm, Option.map_some, Bool.xor_false, inf_write]
theorem mul_inf_2 : floatBits .mul .f32 2139095040 2139095040 = some 2139095040 := by decide +kernel
/-- A product of what is above 0 that is finite has finite parts. -/
theorem mulN {x y : Nat} (hx : NN x) (hy : NN y) (x0 : 0 < rg x) (y0 : 0 < rg y) : ∃ z, floatBits .mul .f32 x y = some z ∧ NN z ∧ (rg z < 2139095040 → FN x ∧ FN y) := by
  by_cases h : FN x
  · by_cases h' : FN y
    · obtain ⟨z, h1, h2, _⟩ := mul_fn h h'
      exact ⟨z, h1, h2, fun _ => ⟨h, h'⟩⟩
    · obtain rfl := nn_inf hy h'
      exact ⟨_, mul_inf_r h x0, .inl (Nat.le_refl _), fun h => absurd h (by decide)⟩
  · obtain rfl := nn_inf hx h
    by_cases h' : FN y
    · exact ⟨_, mul_inf_l h' y0, .inl (Nat.le_refl _), fun h => absurd h (by decide)⟩
    · obtain rfl := nn_inf hy h'
      exact ⟨_, mul_inf_2, .inl (Nat.le_refl _), fun h => absurd h (by decide)⟩
theorem mulN1 {x y : Nat} (hx : FN x) (hy : NN y) (x0 : 0 < rg x) : ∃ z, floatBits .mul .f32 x y = some z ∧ NN z ∧ (rg z < 2139095040 → FN y) := by
  by_cases h' : FN y
  · obtain ⟨z, h1, h2, _⟩ := mul_fn hx h'
    exact ⟨z, h1, h2, fun _ => h'⟩
  · obtain rfl := nn_inf hy h'
    exact ⟨_, mul_inf_r hx x0, .inl (Nat.le_refl _), fun h => absurd h (by decide)⟩
theorem root_inf : rootO (some 2139095040) = some 2139095040 := by decide +kernel
theorem rung_one : Q (2 ^ (149 + 0)) 0 = 1065353216 := by decide +kernel
theorem mag_1 : mag 1065353216 = 2 ^ (149 + 2 * 0) := by decide +kernel
/-- A root of what is at least 1. -/
theorem rootN {x : Nat} (hx : NN x) (h1 : 1065353216 ≤ rg x) : ∃ z, rootO (some x) = some z ∧ NN z ∧ 1065353216 ≤ rg z ∧ (rg z < 2139095040 → FN x) := by
  by_cases h : FN x
  · obtain ⟨z, a, b, c⟩ := root_ge 0 (by decide) h (by omega) (by rw [← mag_1]; exact mag_mono h1 h.rlt)
    rw [rung_one] at c
    exact ⟨z, a, b, c, fun _ => h⟩
  · obtain rfl := nn_inf hx h
    exact ⟨_, root_inf, .inl (Nat.le_refl _), by decide, fun h => absurd h (by decide)⟩

/-- What is wet is great where the banks are. -/
theorem wet_ge (k : Nat) (hk : k ≤ 100) {b1 b2 r1 R t u : Nat} (hb1 : FN b1) (hb2 : FN b2) (hr1 : FN r1) (hu : rg u < 2139095040) (e1 : Q (2 ^ (149 + 2 * k)) 0 < 2139095040 ∧ mag (Q (2 ^ (149 + 2 * k)) 0) = 2 ^ (149 + 2 * k)) (e2 : Q (2 ^ (149 + k)) 0 < 2139095040 ∧ mag (Q (2 ^ (149 + k)) 0) = 2 ^ (149 + k))
    (g2 : rg b2 = Q (mag (rg b1) * mag (rg b1)) 149) (g3 : rg b2 ≤ rg r1) (g4 : rootO (some r1) = some R) (hR : rg R < 2139095040) (g5 : rg u = Q (mag (rg t) * mag (rg R)) 149) (t0 : 0 < mag (rg t)) (hb : 2 ^ (149 + k) ≤ mag (rg b1)) : mag (rg t) * 2 ^ k ≤ 2 * mag (rg u) := by
  have h1 : Q (2 ^ (149 + 2 * k)) 0 ≤ rg b2 := by
    rw [g2]
    refine Q_down e1.1 ?_
    rw [e1.2, ← Nat.pow_add, show 149 + 2 * k + 149 = (149 + k) + (149 + k) by omega, Nat.pow_add]
    exact Nat.mul_le_mul hb hb
  have h2 : 2 ^ (149 + 2 * k) ≤ mag (rg r1) := by
    rw [← e1.2]; exact mag_mono (Nat.le_trans h1 g3) hr1.rlt
  have h0 : 0 < rg r1 := by
    refine Nat.pos_of_ne_zero fun h => ?_
    rw [h, mag_zero] at h2
    have := Nat.two_pow_pos (149 + 2 * k)
    omega
  obtain ⟨R', a, _, c⟩ := root_ge k hk hr1 h0 h2
  obtain rfl : R = R' := by rw [g4] at a; exact Option.some.inj a
  have h3 : 2 ^ (149 + k) ≤ mag (rg R) := by rw [← e2.2]; exact mag_mono c hR
  have h4 : mag (rg t) * 2 ^ (149 + k) ≤ mag (rg t) * mag (rg R) := Nat.mul_le_mul_left _ h3
  have h5 : 2 ^ 149 ≤ mag (rg t) * mag (rg R) := by
    refine Nat.le_trans ?_ h4
    rw [Nat.pow_add, Nat.mul_left_comm]
    exact Nat.le_mul_of_pos_right _ (Nat.mul_pos t0 (Nat.two_pow_pos k))
  rw [g5] at hu ⊢
  have h6 := Q_half hu h5
  refine Nat.le_of_mul_le_mul_right (c := 2 ^ 149) ?_ (Nat.two_pow_pos 149)
  rw [Nat.mul_assoc, ← Nat.pow_add, Nat.add_comm k 149, Nat.mul_assoc]
  exact Nat.le_trans h4 h6

def K75 : Nat := Q (2 ^ (149 + 75)) 0
theorem two_nn : FN 1073741824 := .inl (by decide)
theorem mag_2 : mag (rg 1073741824) = 2 * 2 ^ 149 := by decide +kernel
theorem fin_lt {x : Nat} (h : fin32o (some x) = true) : rg x < 2139095040 := fin_some h

theorem mid_le {A0 A1 A2 A3 D : Option Nat} {a0 a1 d : Nat} (ha0 : Is32 A0 a0) (ha1 : Is32 A1 a1) (hd : Is32 D d) (h : (midS A0 A1 A2 A3 D).2 = true) : ∃ z, (midS A0 A1 A2 A3 D).1 = some z ∧ NN z ∧ rg z ≤ K75 := by
  unfold midS at h ⊢
  split at h
  case isFalse => cases h
  case isTrue hc =>
  rw [if_pos hc]
  simp only [Bool.and_eq_true, canS, secO] at hc
  obtain ⟨⟨⟨⟨⟨⟨⟨hA, hB⟩, _⟩, _⟩, _⟩, hP⟩, hfa⟩, hfw⟩ := hc
  obtain ⟨rfl, n0⟩ := amt_fn ha0 hA
  obtain ⟨rfl, n1⟩ := amt_fn ha1 hB
  obtain ⟨rfl, nd, d0⟩ := pos_fn hd hP
  -- the area
  obtain ⟨p, hp, np, hp1, _⟩ := mul_fn n1 nd
  obtain ⟨q, hq, nq, hqp⟩ := addN n0 np
  have hq1 : fop .add .f32 (some a0) (fop .mul .f32 (some a1) (some d)) = some q := by
    show fop .add .f32 (some a0) (floatBits .mul .f32 a1 d) = some q
    rw [hp]; exact hq
  have ha1' : areaU (some a0) (some a1) (some d) = floatBits .mul .f32 d q := by
    unfold areaU; rw [hq1]; rfl
  obtain ⟨ar, har, nar, harf⟩ := mulN1 nd nq d0
  rw [ha1', har] at hfa h ⊢
  have far := fin_lt hfa
  have fq := harf far
  have fp := hqp fq.rlt
  -- what is wet
  obtain ⟨b2, hb2, nb2, hb21, _⟩ := mul_fn n1 n1
  obtain ⟨r1, hr1, nr1, hr1f⟩ := addN nn_onef nb2
  have hr1o : fop .add .f32 (some 1065353216) (fop .mul .f32 (some a1) (some a1)) = some r1 := by
    show fop .add .f32 (some 1065353216) (floatBits .mul .f32 a1 a1) = some r1
    rw [hb2]; exact hr1
  have hr1g : 1065353216 ≤ rg r1 ∧ (FN b2 → rg b2 ≤ rg r1) := by
    by_cases hf : FN b2
    · obtain ⟨z, e1, _, _, e2, e3⟩ := add_fn nn_onef hf
      rw [e1] at hr1
      obtain rfl := Option.some.inj hr1
      exact ⟨e2, fun _ => e3⟩
    · obtain rfl := nn_inf nb2 hf
      rw [add_inf nn_onef] at hr1
      obtain rfl := Option.some.inj hr1
      exact ⟨by decide, fun h => absurd h hf⟩
  obtain ⟨R, hR, nR, hR1, hRf⟩ := rootN nr1 hr1g.1
  obtain ⟨t, ht, nt, ht1, _⟩ := mul_fn two_nn nd
  have htd : rg d ≤ rg t := by
    rw [ht1, mag_2]
    refine Q_down nd.rlt ?_
    rw [Nat.mul_comm (mag (rg d)), Nat.mul_assoc]
    have := Nat.zero_le (2 ^ 149 * mag (rg d))
    omega
  obtain ⟨u, hu, nu, huf⟩ := mulN nt nR (by omega) (by omega)
  obtain ⟨W, hW, nW, hWf⟩ := addN n0 nu
  have hwet : wetU (some a0) (some a1) (some d) = some W := by
    unfold wetU
    rw [hr1o, hR]
    show fop .add .f32 (some a0) (fop .mul .f32 (floatBits .mul .f32 1073741824 d) (some R)) = some W
    rw [ht]
    show fop .add .f32 (some a0) (floatBits .mul .f32 t R) = some W
    rw [hu]; exact hW
  rw [hwet] at hfw h ⊢
  have fW := nW.fn (fin_lt hfw)
  have fu := hWf fW.rlt
  obtain ⟨ft, fR⟩ := huf fu.rlt
  have fr1 := hRf fR.rlt
  have fb2 : FN b2 := hr1f fr1.rlt
  have far' := nar.fn far
  -- the values
  obtain ⟨q', e, _, hq2, hq3, hq4⟩ := add_fn n0 fp
  obtain rfl : q' = q := by rw [hq] at e; exact (Option.some.inj e).symm
  obtain ⟨ar', e, _, har2, _⟩ := mul_fn nd fq
  obtain rfl : ar' = ar := by rw [har] at e; exact (Option.some.inj e).symm
  obtain ⟨u', e, _, hu2, _⟩ := mul_fn ft fR
  obtain rfl : u' = u := by rw [hu] at e; exact (Option.some.inj e).symm
  obtain ⟨W', e, _, hW2, hW3, hW4⟩ := add_fn n0 fu
  obtain rfl : W' = W := by rw [hW] at e; exact (Option.some.inj e).symm
  have D0 : 0 < mag (rg d) := mag_pos d0 nd.rlt
  have hdt := mag_mono htd ft.rlt
  have htu : rg t ≤ rg u' := by
    rw [hu2]
    refine Q_down ft.rlt (Nat.mul_le_mul_left _ ?_)
    have := mag_mono hR1 fR.rlt
    rwa [mag_1] at this
  have hwg : ∀ k, k ≤ 100 → (Q (2 ^ (149 + 2 * k)) 0 < 2139095040 ∧ mag (Q (2 ^ (149 + 2 * k)) 0) = 2 ^ (149 + 2 * k)) → (Q (2 ^ (149 + k)) 0 < 2139095040 ∧ mag (Q (2 ^ (149 + k)) 0) = 2 ^ (149 + k)) → 2 ^ (149 + k) ≤ mag (rg a1) → mag (rg d) * 2 ^ k ≤ 2 * mag (rg u') := by
    intro k hk e1 e2 hb
    refine Nat.le_trans (Nat.mul_le_mul_right _ hdt) ?_
    exact wet_ge k hk n1 fb2 fr1 fu.rlt e1 e2 hb21 (hr1g.2 fb2) hR fR.rlt hu2 (by omega) hb
  have hfin : mag (rg ar') ≤ mag (rg W') * 37778931862957161709568 := by
    have hp' : Q (mag (rg a1) * mag (rg d)) 149 < 2139095040 := by rw [← hp1]; exact fp.rlt
    have f1 := Q_up hp'
    rw [← hp1] at f1
    have hq' : Q (mag (rg a0) + mag (rg p)) 0 < 2139095040 := by rw [← hq2]; exact fq.rlt
    have f2 := Q_up hq'
    rw [← hq2, Nat.pow_zero, Nat.mul_one] at f2
    have ha' : Q (mag (rg d) * mag (rg q')) 149 < 2139095040 := by rw [← har2]; exact far
    have f3 := Q_up ha'
    rw [← har2] at f3
    have f3' := Q_fin ha'
    have hb' : Q (mag (rg a1) * mag (rg a1)) 149 < 2139095040 := by rw [← hb21]; exact fb2.rlt
    have f5 := Q_fin hb'
    have g16 := hwg 16 (by decide) (by decide +kernel) (by decide +kernel)
    have g27 := hwg 27 (by decide) (by decide +kernel) (by decide +kernel)
    have x1 := mag_mono hq4 fq.rlt
    have x2 := mag_mono (Nat.le_trans htd htu) fu.rlt
    have x3 := mag_mono hW4 fW.rlt
    have x4 := mag_mono hW3 fW.rlt
    rw [show mag 2139095040 * 2 ^ 149 = 173291855882550928723650886508942731464777317210988535948154973788413831737851601439998400381508723631086950685087723239310884864 by decide +kernel] at f3' f5
    rw [e149] at f1 f3
    rw [show (2 : Nat) ^ (149 + 16) = 46768052394588893382517914646921056628989841375232 by decide +kernel, show (2 : Nat) ^ 16 = 65536 by decide +kernel] at g16
    rw [show (2 : Nat) ^ (149 + 27) = 95780971304118053647396689196894323976171195136475136 by decide +kernel, show (2 : Nat) ^ 27 = 134217728 by decide +kernel] at g27
    refine mid_nat f1 f2 x1 f3 f3' x2 x3 x4 ?_ g16 g27
    refine Nat.lt_of_not_le fun hle => ?_
    have := Nat.mul_le_mul hle hle
    omega
  rw [show (37778931862957161709568 : Nat) = 2 ^ 75 by decide +kernel] at hfin
  have W0 : 0 < rg W' := Nat.lt_of_lt_of_le d0 (Nat.le_trans htd (Nat.le_trans htu hW4))
  obtain ⟨z, hz, nz, hz2⟩ := quo_pow 75 far' fW W0 hfin
  have hz' : fop .quo .f32 (some ar') (some W') = some z := hz
  rw [hz'] at h ⊢
  refine ⟨z, ?_, nz, hz2⟩
  unfold onlyO at h ⊢
  split at h
  · rename_i hf; rw [if_pos hf]
  · cases h

namespace D64
/-- A number plus a lesser one below nought is below nought. -/
theorem add_less {x y : Nat} (hx : rg x < 9218868437227405312) (hy : rg y < 9218868437227405312) (sy : (y / 9223372036854775808 % 2 == 1) = true) (hlt : rg x < rg y) : ∃ z, floatBits .add .f64 x y = some z ∧ (z / 9223372036854775808 % 2 == 1) = true := by
  obtain ⟨m, k, h1, h2, _⟩ := fin_read2 x hx
  obtain ⟨n, l, g1, g2, _⟩ := fin_read2 y hy
  have hd : floatBits .add .f64 x y = ((FloatKind.f64.decode x).sum (FloatKind.f64.decode y)).map Ieee.double.write := rfl
  have h2' : mag (rg x) = m * 2 ^ k := h2
  have g2' : mag (rg y) = n * 2 ^ l := g2
  rw [hd, h1, g1, sy]
  simp only [Ieee.Datum.sum, Option.map_some, Ieee.Format.write]
  obtain ⟨c, hc⟩ : ∃ c, min k l = c := ⟨_, rfl⟩
  have e0 : min (-1074 + (k : Int)) (-1074 + (l : Int)) = -1074 + c - (0 : Nat) := by omega
  have e1 : (-1074 + (k : Int) - (-1074 + c - (0 : Nat))).toNat = k - c := by omega
  have e2 : (-1074 + (l : Int) - (-1074 + c - (0 : Nat))).toNat = l - c := by omega
  rw [e0, e1, e2]
  have hs := mag_strict hlt hy
  rw [h2', g2'] at hs
  have hs2 := scale_lt hs (c := c) (d := c) (by omega) (by omega) rfl
  obtain ⟨T, hT⟩ : ∃ T, Ieee.signed (x / 9223372036854775808 % 2 == 1) m (k - c) + Ieee.signed true n (l - c) = T := ⟨_, rfl⟩
  have hT0 : T < 0 := by
    have ha := signed_abs (x / 9223372036854775808 % 2 == 1) m (k - c)
    rw [← hT, signed_neg]
    generalize Ieee.signed (x / 9223372036854775808 % 2 == 1) m (k - c) = A at *
    omega
  rw [hT, if_neg (by omega), show decide (T < 0) = true from decide_eq_true hT0, nearest_gen _ _ _ c 0 rfl]
  exact ⟨_, rfl, (word_rg true _ (Q_le _ _)).2.1⟩
def c4 : Nat := Q (mag 4616189618054758400 * mag 4604418534313441775) 1074
theorem c4_gt : 4611686018427387904 < c4 := by decide +kernel
theorem neg_all : ∀ i : Fin 147, (floatOfInt .f64 (-(((i.val : Nat) : Int) + 4)) / 9223372036854775808 % 2 == 1) = true ∧ 4616189618054758400 ≤ rg (floatOfInt .f64 (-(((i.val : Nat) : Int) + 4))) := by decide +kernel
theorem few_all : ∀ i : Fin 80, rg (floatOfInt .f64 (((i.val : Nat) : Int) - 4)) ≤ floatOfInt .f64 75 := by decide +kernel
def ln75 : Nat := Q (mag (floatOfInt .f64 75) * mag 4604418534313441775) 1074
def log75 : Nat := Q (mag 4611686018427387904 + mag ln75) 0
theorem log75_fin : log75 < 9218868437227405312 ∧ ln75 < 9218868437227405312 ∧ floatOfInt .f64 75 < 9218868437227405312 := by decide +kernel
end D64

theorem ser_sm {x : Nat} (h1 : c075 ≤ x) (h2 : x < c15) : ∃ a, fop .mul .f64 (some twoW) (fop .mul .f64 (logS x) (logQ x 13)) = some a ∧ D64.rg a ≤ 4611686018427387904 := by
  obtain ⟨a, ha, ha2⟩ : SmO 1023 (fop .mul .f64 (some twoW) (fop .mul .f64 (logS x) (logQ x 13))) :=
    SmO.mul (E := 1023) (F := 1022) (G := 1023) (sm_const (by decide)) ((logS_sm h1 h2).mul (logQ_sm h1 h2 13 (by decide)) (by decide) (by decide) (by decide) (by decide) (by decide)) (by decide) (by decide) (by decide) (by decide) (by decide)
  exact ⟨a, ha, ha2⟩
theorem ln_sg (e : Int) (he : e.natAbs ≤ 150) : ∃ b, fop .mul .f64 (some (floatOfInt .f64 e)) (some lnW) = some b ∧ D64.rg b = D64.Q (D64.mag (D64.rg (floatOfInt .f64 e)) * D64.mag 4604418534313441775) 1074 ∧ (b / 9223372036854775808 % 2 == 1) = (floatOfInt .f64 e / 9223372036854775808 % 2 == 1) := by
  have hi := D64.int_le e he
  have hm := D64.mul_sg (x := floatOfInt .f64 e) (y := lnW) (by omega) (by decide)
  have hl : D64.rg lnW = 4604418534313441775 := rfl
  rw [hl] at hm
  have hs : (lnW / 9223372036854775808 % 2 == 1) = false := by decide +kernel
  rw [hs, Bool.xor_false] at hm
  obtain ⟨r1, r2, _⟩ := D64.word_rg (floatOfInt .f64 e / 9223372036854775808 % 2 == 1) _ (D64.Q_le (D64.mag (D64.rg (floatOfInt .f64 e)) * D64.mag 4604418534313441775) 1074)
  exact ⟨_, hm, r1, r2⟩
/-- Logarithms of what is not greater than 2 ^ 75. -/
theorem logV_few {x : Nat} (h1 : c075 ≤ x) (h2 : x < c15) (e : Int) (he : -4 ≤ e) (he2 : e ≤ 75) : ∃ v, logV x e = some v ∧ D64.rg v ≤ D64.log75 := by
  obtain ⟨a, ha, har⟩ := ser_sm h1 h2
  obtain ⟨b, hb, hbr, _⟩ := ln_sg e (by omega)
  obtain ⟨f1, f2, f3⟩ := D64.log75_fin
  have hi : D64.rg (floatOfInt .f64 e) ≤ floatOfInt .f64 75 := by
    have := D64.few_all ⟨(e + 4).toNat, by omega⟩
    simp only at this
    rwa [show (((e + 4).toNat : Nat) : Int) - 4 = e by omega] at this
  have hbq : D64.rg b ≤ D64.ln75 := by
    rw [hbr]; exact D64.Q_mono _ _ 1074 (Nat.mul_le_mul_right _ (D64.mag_mono hi f3))
  obtain ⟨z, hz, hzr⟩ := D64.add_mag (x := a) (y := b) (by omega) (by omega)
  refine ⟨z, ?_, Nat.le_trans hzr ?_⟩
  · unfold logV
    rw [ha, hb]
    exact hz
  · exact D64.Q_mono _ _ 0 (Nat.add_le_add (D64.mag_mono har (by decide)) (D64.mag_mono hbq f2))
theorem logV_neg {x : Nat} (h1 : c075 ≤ x) (h2 : x < c15) (e : Int) (he : -150 ≤ e) (he2 : e ≤ -4) : ∃ v, logV x e = some v ∧ (v / 9223372036854775808 % 2 == 1) = true := by
  obtain ⟨a, ha, har⟩ := ser_sm h1 h2
  obtain ⟨b, hb, hbr, hbs⟩ := ln_sg e (by omega)
  have hn := D64.neg_all ⟨(-e - 4).toNat, by omega⟩
  simp only at hn
  rw [show -((((-e - 4).toNat : Nat) : Int) + 4) = e by omega] at hn
  have hi := D64.int_le e (by omega)
  have hc : D64.c4 ≤ D64.rg b := by
    rw [hbr]; exact D64.Q_mono _ _ 1074 (Nat.mul_le_mul_right _ (D64.mag_mono hn.2 (by omega)))
  have hgt := D64.c4_gt
  have hbf : D64.rg b < 9218868437227405312 := by
    have hl := D64.logL_fin.2
    have : D64.rg b ≤ D64.lnB := by
      rw [hbr]; exact D64.Q_mono _ _ 1074 (Nat.mul_le_mul_right _ (D64.mag_mono hi (by decide)))
    omega
  obtain ⟨z, hz, hzs⟩ := D64.add_less (x := a) (y := b) (by omega) hbf (by rw [hbs]; exact hn.1) (by omega)
  refine ⟨z, ?_, hzs⟩
  unfold logV
  rw [ha, hb]
  exact hz

theorem word_true (r : Nat) : 2147483648 ≤ Ieee.single.word true r := by
  have hw : Ieee.single.signWeight = 2147483648 := by decide
  show 2147483648 ≤ Ieee.single.signWeight + r
  omega
/-- A number below nought narrowed is below nought. -/
theorem narrow_neg {v l : Nat} (hv : (v / 9223372036854775808 % 2 == 1) = true) (hf : D64.rg v < 9218868437227405312) (h : cvt .f64 v .f32 = some l) : 2147483648 ≤ l ∧ rg l ≤ 2139095040 := by
  unfold cvt at h
  rw [if_neg (by decide)] at h
  obtain ⟨m, k, g1, _, _⟩ := D64.fin_read2 v hf
  rw [g1, hv] at h
  simp only [Option.some.injEq] at h
  have h2 : Ieee.single.nearest true m (-1074 + k) = l := h
  rw [nearest_gen _ _ _ k 925 (by omega)] at h2
  rw [← h2]
  exact ⟨word_true _, by rw [(word_rg true _ (Q_le _ _)).1]; exact Q_le _ _⟩
theorem mul_neg_rng {l : Nat} (h1 : 2147483648 ≤ l) (h2 : l < 4294967296) (h3 : rg l ≤ 2139095040) : ExpR (fop .mul .f32 (some 1068149419) (some l)) := by
  intro y hy hlt
  exfalso
  by_cases hf : rg l < 2139095040
  · have hm := mul_sg (x := 1068149419) (y := l) (by decide) hf
    have e1 : some (Ieee.single.word _ _) = some y := hm.symm.trans hy
    simp only [Option.some.injEq] at e1
    rw [show (1068149419 / 2147483648 % 2 == 1) = false by decide, show (l / 2147483648 % 2 == 1) = true by (rw [show l / 2147483648 = 1 by omega]; rfl)] at e1
    have := word_true (Q (mag (rg 1068149419) * mag (rg l)) 149)
    rw [Bool.false_xor] at e1
    omega
  · obtain rfl : l = 4286578688 := by unfold rg at *; omega
    rw [show fop .mul .f32 (some 1068149419) (some 4286578688) = some 4286578688 by decide +kernel] at hy
    simp only [Option.some.injEq] at hy
    omega
def L75 : Nat := Q (D64.mag D64.log75) 925
theorem L75_fin : L75 < 2139095040 ∧ Q (mag 1068149419 * mag L75) 149 ≤ 1116864512 := by decide +kernel
theorem mul_few_rng {l : Nat} (hll : rg l ≤ L75) : ExpR (fop .mul .f32 (some 1068149419) (some l)) := by
  obtain ⟨f1, f2⟩ := L75_fin
  intro y hy hlt
  have hm := mul_sg (x := 1068149419) (y := l) (by decide) (by omega)
  have e1 : some (Ieee.single.word _ _) = some y := hm.symm.trans hy
  simp only [Option.some.injEq] at e1
  have hr2 := (word_rg ((1068149419 / 2147483648 % 2 == 1) ^^ (l / 2147483648 % 2 == 1)) (Q (mag (rg 1068149419) * mag (rg l)) 149) (Q_le _ _)).1
  rw [e1] at hr2
  have hyr : rg y = y := Nat.mod_eq_of_lt (by omega)
  have hcr : rg 1068149419 = 1068149419 := rfl
  rw [hyr, hcr] at hr2
  have := Q_mono _ _ 149 (Nat.mul_le_mul_left (mag 1068149419) (mag_mono hll f1))
  omega
theorem narrow_few {v l : Nat} (hvr : D64.rg v ≤ D64.log75) (hc : cvt .f64 v .f32 = some l) : rg l ≤ L75 := by
  have hf := D64.log75_fin.1
  rw [narrow_rg (Nat.lt_of_le_of_lt hvr hf) hc]
  exact Q_mono _ _ 925 (D64.mag_mono hvr hf)
theorem logO_pos {z : Nat} (h0 : 0 < z) (h1 : z < 2139095040) : logO (some z) = cvtF .f64 .f32 (logV (xOf (widr z)) (eOf (widr z))) := by
  have hr : rg z = z := Nat.mod_eq_of_lt (by omega)
  unfold logO
  simp only [Option.bind_some]
  rw [if_neg (by omega), if_neg (by omega), if_neg (by omega), if_neg (by omega)]
theorem K75_is : K75 = 1694498816 := by decide +kernel
theorem widr_75 : widr 1694498816 = 4944952390852804608 := by decide +kernel
theorem eOf_75 {z : Nat} (h1 : z ≤ 1694498816) : eOf (widr z) ≤ 75 := by
  have hr : rg z = z := Nat.mod_eq_of_lt (by omega)
  have h1 := widr_mono (x := z) (y := 1694498816) (by rw [hr]; exact h1) (by decide)
  rw [widr_75] at h1
  unfold eOf
  omega
theorem cvtF_rng {v : Nat} (h : ∀ l, cvt .f64 v .f32 = some l → ExpR (fop .mul .f32 (some 1068149419) (some l))) : ExpR (fop .mul .f32 (some 1068149419) (cvtF .f64 .f32 (some v))) := by
  show ExpR (fop .mul .f32 (some 1068149419) (cvt .f64 v .f32))
  cases hl : cvt .f64 v .f32 with
  | none => intro y hy; cases hy
  | some l => exact h l hl
/-- 4/3 of a logarithm of what is not greater than 2 ^ 75. -/
theorem mul_log_few {z : Nat} (hz : NN z) (hk : rg z ≤ K75) : ExpR (fop .mul .f32 (some 1068149419) (logO (some z))) := by
  rw [K75_is] at hk
  by_cases h0 : rg z = 0
  · have : logO (some z) = some 4286578688 := by
      unfold logO
      simp only [Option.bind_some]
      rw [if_neg (by omega), if_pos h0]
    rw [this]
    exact mul_neg_rng (by decide) (by decide) (by decide)
  · have hzl : z ≤ 1694498816 := by unfold NN at hz; unfold rg at h0 hk; omega
    have hz0 : 0 < z := Nat.pos_of_ne_zero fun h => h0 (by rw [h]; rfl)
    rw [logO_pos hz0 (by omega)]
    obtain ⟨x1, x2⟩ := xOf_range (widr z)
    have he := eOf_few (x := z) hz0 (by omega)
    have he75 := eOf_75 hzl
    generalize eOf (widr z) = e at *
    generalize xOf (widr z) = x at *
    by_cases hneg : e ≤ -4
    · obtain ⟨v, hv, hvs⟩ := logV_neg x1 x2 e (by omega) hneg
      obtain ⟨v', hv', hvm⟩ := logV_mag x1 x2 e he
      obtain rfl : v = v' := by rw [hv] at hv'; exact Option.some.inj hv'
      rw [hv]
      refine cvtF_rng fun l hc => ?_
      obtain ⟨n1, n2⟩ := narrow_neg hvs (Nat.lt_of_le_of_lt hvm D64.logL_fin.1) hc
      exact mul_neg_rng n1 (cvt32_lt hc) n2
    · obtain ⟨v, hv, hvr⟩ := logV_few x1 x2 e (by omega) he75
      rw [hv]
      exact cvtF_rng fun l hc => mul_few_rng (narrow_few hvr hc)
theorem mid_rng {A0 A1 A2 A3 D : Option Nat} {a0 a1 d : Nat} (ha0 : Is32 A0 a0) (ha1 : Is32 A1 a1) (hd : Is32 D d) (h : (midS A0 A1 A2 A3 D).2 = true) : ExpR (fop .mul .f32 (some 1068149419) (logO (midS A0 A1 A2 A3 D).1)) := by
  obtain ⟨z, h1, h2, h3⟩ := mid_le ha0 ha1 hd h
  rw [h1]
  exact mul_log_few h2 h3
end Go.Proofs.Ytfdcfalkidcdnaa
