/- A root of what is not negative is not negative: plain facts on numbers. -/
import Derived.Test.YtgnkpppbhibfoaaWideD
import Derived.Test.YtgnkpppbhibfoaaRootO
import Derived.Test.YtgnkpppbhibfoaaRainA
import Derived.Test.YtgnkpppbhibfoaaMono
import Derived.Test.YtgnkpppbhibfoaaNegO
namespace Go.Proofs.Ytgnkpppbhibfoaa
set_option linter.unusedVariables false
set_option maxRecDepth 100000

theorem geq_nn {X : Option Nat} {x : Nat} (h : Is32 X x) (hc : fcmp .geq .f32 X (some 0) = true) : X = some x ∧ NN x := by
  cases X with
  | none => exact absurd hc (by decide)
  | some b =>
    obtain rfl := h.eq
    refine ⟨rfl, Classical.byContradiction fun hn => ?_⟩
    have hc' : (FloatKind.f32.format.order x 0 == some .gt || FloatKind.f32.format.order x 0 == some .eq) = true := hc
    rcases not_nn h.2 hn with h1 | h1 <;> rw [h1] at hc' <;> exact absurd hc' (by decide)
theorem gtr_nn {X : Option Nat} {x : Nat} (h : Is32 X x) (hc : fcmp .gtr .f32 X (some 0) = true) : X = some x ∧ NN x ∧ 0 < rg x := by
  cases X with
  | none => exact absurd hc (by decide)
  | some b =>
    obtain rfl := h.eq
    have hc' : (FloatKind.f32.format.order x 0 == some .gt) = true := hc
    have hn : NN x := Classical.byContradiction fun hn => by
      rcases not_nn h.2 hn with h1 | h1 <;> rw [h1] at hc' <;> exact absurd hc' (by decide)
    rw [nn_gt hn nn_zero, decide_eq_true_eq] at hc'
    exact ⟨rfl, hn, hc'⟩
theorem fin_some {x : Nat} (h : fin32o (some x) = true) : x % 2147483648 < 2139095040 := of_decide_eq_true h
theorem fin_of_fn {x : Nat} (h : FN x) : fin32o (some x) = true := decide_eq_true h.rlt
theorem amt_fn {X : Option Nat} {x : Nat} (h : Is32 X x) (ha : amtO X = true) : X = some x ∧ FN x := by
  obtain ⟨h1, h2⟩ := Bool.and_eq_true_iff.1 ha
  obtain ⟨rfl, hn⟩ := geq_nn h h1
  exact ⟨rfl, hn.fn (fin_some h2)⟩
theorem pos_fn {X : Option Nat} {x : Nat} (h : Is32 X x) (ha : posO X = true) : X = some x ∧ FN x ∧ 0 < rg x := by
  obtain ⟨h1, h2⟩ := Bool.and_eq_true_iff.1 ha
  obtain ⟨rfl, hn, hp⟩ := gtr_nn h h1
  exact ⟨rfl, hn.fn (fin_some h2), hp⟩
theorem cmp_lt {x y : Nat} (hx : NN x) (hy : NN y) : fcmp .lss .f32 (some x) (some y) = decide (rg x < rg y) := nn_lt hx hy
theorem cmp_gt {x y : Nat} (hx : NN x) (hy : NN y) : fcmp .gtr .f32 (some x) (some y) = decide (rg y < rg x) := nn_gt hx hy
theorem cmp_le {x y : Nat} (hx : NN x) (hy : NN y) : fcmp .leq .f32 (some x) (some y) = decide (rg x ≤ rg y) := by
  show (FloatKind.f32.format.order x y == some .lt || FloatKind.f32.format.order x y == some .eq) = _
  rw [nn_lt hx hy, nn_eq hx hy, Bool.eq_iff_iff]
  simp only [Bool.or_eq_true, decide_eq_true_eq]
  omega
theorem cmp_ge {x y : Nat} (hx : NN x) (hy : NN y) : fcmp .geq .f32 (some x) (some y) = decide (rg y ≤ rg x) := by
  show (FloatKind.f32.format.order x y == some .gt || FloatKind.f32.format.order x y == some .eq) = _
  rw [nn_gt hx hy, nn_eq hx hy, Bool.eq_iff_iff]
  simp only [Bool.or_eq_true, decide_eq_true_eq]
  omega
theorem mul_nn {x y : Nat} (hx : FN x) (hy : NN y) : floatBits .mul .f32 x y = none ∨ ∃ z, floatBits .mul .f32 x y = some z ∧ NN z := by
  by_cases h : rg y < 2139095040
  · obtain ⟨z, h1, h2, _⟩ := mul_fn hx (hy.fn h); exact .inr ⟨z, h1, h2⟩
  · have e : y = 2139095040 := by unfold NN at hy; unfold rg at h; omega
    subst e
    obtain ⟨s, m, k, g1, _, g3, _⟩ := fn_read hx
    have hd : floatBits .mul .f32 x 2139095040 = ((FloatKind.f32.decode x).product (FloatKind.f32.decode 2139095040)).map Ieee.single.write := rfl
    rw [hd, g1, decode_inf]
    simp only [Ieee.Datum.product]
    split
    · exact .inl rfl
    · rename_i hm
      right
      have hs : s = false := by
        cases s
        · rfl
        · exact absurd (g3 rfl) hm
      subst hs
      exact ⟨2139095040, rfl, .inl (Nat.le_refl _)⟩
/-- A product with a number that is greater than 0, the first one infinite or not. -/
theorem mul_pos_nn {x y : Nat} (hx : NN x) (hy : FN y) (h0 : 0 < rg y) : ∃ z, floatBits .mul .f32 x y = some z ∧ NN z := by
  by_cases h : rg x < 2139095040
  · obtain ⟨z, h1, h2, _⟩ := mul_fn (hx.fn h) hy; exact ⟨z, h1, h2⟩
  · have e : x = 2139095040 := by unfold NN at hx; unfold rg at h; omega
    subst e
    obtain ⟨s, m, k, g1, g2, g3, _⟩ := fn_read hy
    have hm : m ≠ 0 := by
      intro hm
      have := mag_pos h0 hy.rlt
      rw [g2, hm, Nat.zero_mul] at this
      omega
    have hs : s = false := by
      cases s
      · rfl
      · exact absurd (g3 rfl) hm
    subst hs
    have hd : floatBits .mul .f32 2139095040 y = ((FloatKind.f32.decode 2139095040).product (FloatKind.f32.decode y)).map Ieee.single.write := rfl
    rw [hd, g1, decode_inf]
    simp only [Ieee.Datum.product]
    rw [if_neg hm]
    exact ⟨2139095040, rfl, .inl (Nat.le_refl _)⟩

theorem widr_pos {x : Nat} (h : x < 2139095040) : cvt .f32 x .f64 = some (widr x) := by
  have hr : rg x = x := Nat.mod_eq_of_lt (by omega)
  have := widen_word (x := x) (by rw [hr]; exact h)
  have hs : (x / 2147483648 % 2 == 1) = false := by rw [Nat.div_eq_of_lt (by omega)]; rfl
  rw [hs, D64.word_pos32] at this
  exact this

theorem narrow_pos {r : Nat} (hr : r < 9218868437227405312) : cvt .f64 r .f32 = some (Q (D64.mag (D64.rg r)) 925) := by
  obtain ⟨m, i, g1, g2, _⟩ := D64.fin_read2 r (by omega)
  have hs : (r / 9223372036854775808 % 2 == 1) = false := by rw [Nat.div_eq_of_lt (by omega)]; rfl
  unfold cvt
  rw [if_neg (by decide), g1, hs]
  show some (Ieee.single.nearest false m (-1074 + i)) = _
  rw [nearest_gen _ _ _ i 925 (by omega)]
  unfold D64.rg
  rw [g2, word_pos32]
theorem root_some {x r : Nat} (h1 : rootF x = some r) (hr : r < 9218868437227405312) : rootO (some x) = some (Q (D64.mag (D64.rg r)) 925) := by
  unfold rootO
  simp only [Option.bind_some]
  rw [h1]
  exact narrow_pos hr
theorem sqrt_pos {v : Nat} (hv : v < 9218868437227405312) (h : 0 < D64.mag v) : ∃ r, FloatKind.f64.format.sqrt v = some r ∧ r ≤ 9218868437227405312 := by
  have hrv : D64.rg v = v := Nat.mod_eq_of_lt (by omega)
  obtain ⟨m, i, h1, h2, h3⟩ := D64.fin_read2 v (by omega)
  rw [show v % 9223372036854775808 = v from hrv] at h2
  have hs : (v / 9223372036854775808 % 2 == 1) = false := by
    have : v / 9223372036854775808 = 0 := by omega
    rw [this]; rfl
  rw [hs] at h1
  have hd0 : FloatKind.f64.format.sqrt v = ((FloatKind.f64.decode v).root 54).map Ieee.double.write := rfl
  rw [hd0, h1]
  have hm0 : m ≠ 0 := by
    intro h0; rw [h0, Nat.zero_mul] at h2
    omega
  unfold Ieee.Datum.root
  simp only
  rw [if_neg hm0, if_neg (by decide)]
  simp only [Option.map_some]
  obtain ⟨more, hmore⟩ : ∃ more, 2 * 54 - m.log2 + ((-1074 + (i : Int) - ↑(2 * 54 - m.log2)) % 2).toNat = more := ⟨_, rfl⟩
  rw [hmore]
  have heven : (-1074 + (i : Int) - more) % 2 = 0 := by omega
  have hms : m <<< more = m * 2 ^ more := Nat.shiftLeft_eq _ _
  have hn0 : m * 2 ^ more ≠ 0 := by
    have := Nat.two_pow_pos more
    intro h; rcases Nat.mul_eq_zero.1 h with h | h <;> omega
  rw [hms]
  obtain ⟨n, hn⟩ : ∃ n, m * 2 ^ more = n := ⟨_, rfl⟩
  rw [hn] at hn0 ⊢
  obtain ⟨whole, hw⟩ : ∃ x, Ieee.Datum.rootFrom n (n.log2 / 2 + 1) 0 = x := ⟨_, rfl⟩
  rw [hw]
  show ∃ r, some (Ieee.double.nearest false (2 * whole + (whole * whole != n).toNat) ((-1074 + (i : Int) - more) / 2 - 1)) = some r ∧ _
  obtain ⟨V, hV⟩ : ∃ V, 2 * whole + (whole * whole != n).toNat = V := ⟨_, rfl⟩
  rw [hV]
  obtain ⟨E, hE⟩ : ∃ E : Int, (-1074 + (i : Int) - more) / 2 = E := ⟨_, rfl⟩
  have hE2 : 2 * E = -1074 + (i : Int) - more := by omega
  rw [hE]
  obtain ⟨u, w, huw⟩ : ∃ u w : Nat, E - 1 = -1074 + (u : Int) - (w : Int) := by
    by_cases hp : 0 ≤ E - 1 + 1074
    · exact ⟨(E - 1 + 1074).toNat, 0, by omega⟩
    · exact ⟨0, (-(E - 1 + 1074)).toNat, by omega⟩
  rw [D64.nearest_gen false V _ u w huw, D64.word_pos32]
  exact ⟨_, rfl, D64.Q_le _ _⟩
theorem root_small : Sm 1147 9218868437227405312 = False := by unfold Sm; simp
theorem root_nn {x : Nat} (hx : FN x) : ∃ z, rootO (some x) = some z ∧ NN z := by
  by_cases h9 : x = 2147483648
  · subst h9; exact ⟨2147483648, by decide +kernel, .inr rfl⟩
  by_cases h8 : x = 0
  · subst h8; exact ⟨0, by decide +kernel, .inl (by decide)⟩
  have hlt : x < 2139095040 := by unfold FN at hx; omega
  have hr : rg x = x := Nat.mod_eq_of_lt (by omega)
  obtain ⟨w1, w2⟩ := widr_fin (x := x) (by rw [hr]; exact hlt)
  have h925 : ∀ c, 0 < mag (rg x) * 2 ^ c := fun c => Nat.mul_pos (mag_pos (by rw [hr]; omega) (by rw [hr]; exact hlt)) (Nat.two_pow_pos c)
  have hm : 0 < D64.mag (widr x) := w2 ▸ h925 925
  obtain ⟨r, hq, hq1⟩ := sqrt_pos w1 hm
  have hroot : rootF x = some r := by
    unfold rootF
    rw [widr_pos hlt, Option.bind_some]
    exact hq
  have hw1 := widr_mono (x := x) (y := 2139095039) (by rw [hr]; show x ≤ 2139095039; omega) (by decide)
  have hw2 : widr 2139095039 ≤ 5183643171103440896 := by decide +kernel
  obtain ⟨v, hv⟩ : ∃ v, widr x = v := ⟨_, rfl⟩
  rw [hv] at hw1 hq
  have hsm : Sm 1147 r := sqrt_small (x := v) (by unfold Sm; omega) hq
  have hrf : r < 9218868437227405312 := by unfold Sm at hsm; omega
  exact ⟨_, root_some hroot hrf, .inl (Q_le _ _)⟩
def Nno9 (X : Option Nat) : Prop := X = none ∨ ∃ z, X = some z ∧ NN z
/-- What is infinite upwards, or no number. -/
def Up (X : Option Nat) : Prop := X = none ∨ X = some 2139095040
theorem Nno9.up {X : Option Nat} (h : Nno9 X) (hf : fin32o X = false) : Up X := by
  rcases h with rfl | ⟨z, rfl, hz⟩
  · exact .inl rfl
  · right
    have h9 : ¬ z % 2147483648 < 2139095040 := of_decide_eq_false hf
    unfold NN at hz
    congr 1
    omega
theorem sub_inf {y : Nat} (hy : FN y) : floatBits .sub .f32 2139095040 y = some 2139095040 := by
  obtain ⟨s, m, k, g1, _⟩ := fn_read hy
  have hd : floatBits .sub .f32 2139095040 y = ((FloatKind.f32.decode 2139095040).sum (FloatKind.f32.decode y).opposite).map Ieee.single.write := rfl
  rw [hd, g1, decode_inf]
  rfl
theorem Up.sub {X : Option Nat} (h : Up X) {y : Nat} (hy : FN y) : Up (fop .sub .f32 X (some y)) := by
  rcases h with rfl | rfl
  · exact .inl rfl
  · exact .inr (sub_inf hy)
theorem Up.mul {X : Option Nat} (h : Up X) {q : Nat} (hq : NN q) : Up (fop .mul .f32 (some q) X) := by
  rcases h with rfl | rfl
  · exact .inl rfl
  · show Up (floatBits .mul .f32 q 2139095040)
    by_cases h : rg q < 2139095040
    · obtain ⟨s, m, k, g1, _, g3, _⟩ := fn_read (hq.fn h)
      have hd : floatBits .mul .f32 q 2139095040 = ((FloatKind.f32.decode q).product (FloatKind.f32.decode 2139095040)).map Ieee.single.write := rfl
      rw [hd, g1, decode_inf]
      simp only [Ieee.Datum.product]
      split
      · exact .inl rfl
      · rename_i hm
        have hs : s = false := by
          cases s
          · rfl
          · exact absurd (g3 rfl) hm
        subst hs
        exact .inr rfl
    · have e : q = 2139095040 := by unfold NN at hq; unfold rg at h; omega
      subst e
      exact .inr (by decide +kernel)
theorem Up.add {X : Option Nat} (h : Up X) {a : Nat} (ha : FN a) : Up (fop .add .f32 (some a) X) := by
  rcases h with rfl | rfl
  · exact .inl rfl
  · right
    show floatBits .add .f32 a 2139095040 = _
    obtain ⟨s, m, k, g1, _⟩ := fn_read ha
    have hd : floatBits .add .f32 a 2139095040 = ((FloatKind.f32.decode a).sum (FloatKind.f32.decode 2139095040)).map Ieee.single.write := rfl
    rw [hd, g1, decode_inf]
    rfl
theorem Up.fin {X : Option Nat} (h : Up X) : fin32o X = false := by
  rcases h with rfl | rfl
  · rfl
  · decide
theorem Up.lss {X : Option Nat} (h : Up X) : fcmp .lss .f32 X (some 0) = false := by
  rcases h with rfl | rfl
  · rfl
  · decide +kernel
theorem flow_nno {r a : Nat} (hr : FN r) (ha : FN a) : Nno9 (fop .mul .f32 (fop .mul .f32 (some r) (some a)) (rootO (some a))) := by
  obtain ⟨p, hp, hpn, _⟩ := mul_fn hr ha
  obtain ⟨z, hz, hzn⟩ := root_nn ha
  have e1 : fop .mul .f32 (some r) (some a) = some p := hp
  rw [e1, hz]
  show Nno9 (floatBits .mul .f32 p z)
  by_cases h : rg p < 2139095040
  · rcases mul_nn (hpn.fn h) hzn with h1 | ⟨v, h1, h2⟩
    · exact .inl h1
    · exact .inr ⟨v, h1, h2⟩
  · have e : p = 2139095040 := by unfold NN at hpn; unfold rg at h; omega
    subst e
    by_cases h2 : rg z < 2139095040
    · by_cases h0 : rg z = 0
      · left
        have : z = 0 ∨ z = 2147483648 := by unfold NN at hzn; unfold rg at h0; omega
        rcases this with rfl | rfl <;> decide +kernel
      · obtain ⟨v, h3, h4⟩ := mul_pos_nn hpn (hzn.fn h2) (by omega)
        exact .inr ⟨v, h3, h4⟩
    · have e : z = 2139095040 := by unfold NN at hzn; unfold rg at h2; omega
      subst e
      exact .inr ⟨2139095040, by decide +kernel, .inl (Nat.le_refl _)⟩
theorem geq_of {v : Nat} (hv : v < 4294967296) (hf : fin32o (some v) = true) (hl : fcmp .lss .f32 (some v) (some 0) = false) : fcmp .geq .f32 (some v) (some 0) = true := by
  by_cases h : NN v
  · rw [cmp_ge h nn_zero]
    exact decide_eq_true (Nat.zero_le _)
  · rcases not_nn hv h with h1 | h1
    · exfalso
      have hc : fin32' v = true := hf
      have h9 : v % 2147483648 < 2139095040 := of_decide_eq_true hf
      obtain ⟨m, k, g1, _⟩ := fin_read v h9
      have hd : FloatKind.f32.format.order v 0 = (FloatKind.f32.decode v).order (FloatKind.f32.decode 0) := rfl
      rw [hd, g1] at h1
      have h0 : FloatKind.f32.decode 0 = .number false 0 (-149) := by decide +kernel
      rw [h0] at h1
      simp [Ieee.Datum.order] at h1
    · exfalso
      have hc : fcmp .lss .f32 (some v) (some 0) = true := by
        show (FloatKind.f32.format.order v 0 == some .lt) = true
        rw [h1]; rfl
      rw [hl] at hc; cases hc
end Go.Proofs.Ytgnkpppbhibfoaa
