/- Quarters of turns: what is left of a number from 0 to 2 when quarters are taken from it. -/
import Derived.Test.YtpaldmhlcgdmkabAngleV
namespace Go.Proofs.Ytpaldmhlcgdmkab

def ge025 (f : Nat) : Bool := FloatKind.f64.format.order f 4598175219545276416 == some .gt || FloatKind.f64.format.order f 4598175219545276416 == some .eq
theorem dec_qt : FloatKind.f64.decode 4598175219545276416 = .number false 4503599627370496 (-54) := by decide +kernel

theorem ge_range {f : Nat} (hs : Sm 1023 f) (hf : f < 18446744073709551616) (hg : ge025 f = true) : 4598175219545276416 ≤ f ∧ f ≤ 4611686018427387904 := by
  have hord : FloatKind.f64.format.order f 4598175219545276416 = (FloatKind.f64.decode f).order (.number false 4503599627370496 (-54)) := by rw [← dec_qt]; rfl
  unfold Sm at hs
  have lt_no : FloatKind.f64.format.order f 4598175219545276416 = some .lt → False := by
    intro h
    unfold ge025 at hg
    rw [h] at hg
    exact Bool.false_ne_true hg
  by_cases hneg : 9223372036854775808 ≤ f
  · exfalso
    apply lt_no
    have hsg : (f / 9223372036854775808 % 2 == 1) = true := by rw [show f / 9223372036854775808 = 1 by omega]; rfl
    obtain ⟨m, i, hd⟩ : ∃ m i, FloatKind.f64.decode f = .number true m i := by
      rw [read_double, hsg]
      split
      · exact ⟨_, _, rfl⟩
      · rw [if_pos (by omega)]; exact ⟨_, _, rfl⟩
    rw [hord, hd]
    simp only [Ieee.Datum.order, Ieee.signed, if_true, Bool.false_eq_true, if_false, Nat.shiftLeft_eq, Option.some.injEq]
    show compareOfLessAndEq _ _ = _
    unfold compareOfLessAndEq
    have hp := Nat.two_pow_pos (-54 - min i (-54)).toNat
    generalize 2 ^ (-54 - min i (-54)).toNat = t at *
    generalize m * 2 ^ (i - min i (-54)).toNat = c
    rw [if_pos (by omega)]
  · refine ⟨?_, by omega⟩
    by_cases hlt : f < 4598175219545276416
    · exfalso
      apply lt_no
      by_cases hn : 4503599627370496 ≤ f
      · rw [order_pos hn (by omega) (by omega) (by omega), if_pos hlt]
      · have hd : FloatKind.f64.decode f = .number false f (-1074) := by
          have hm : f % 9223372036854775808 = f := by omega
          have hs2 : (f / 9223372036854775808 % 2 == 1) = false := by rw [show f / 9223372036854775808 = 0 by omega]; rfl
          rw [read_double, hm, if_pos (by omega), hs2]
        rw [hord, hd]
        have e0 : min (-1074 : Int) (-54) = -1074 := by decide
        have e1 : (-1074 - -1074 : Int).toNat = 0 := by decide
        have e2 : (-54 - -1074 : Int).toNat = 1020 := by decide
        simp only [Ieee.Datum.order, e0, e1, e2, Ieee.signed, Bool.false_eq_true, if_false, Nat.shiftLeft_eq, Nat.pow_zero, Nat.mul_one, Option.some.injEq]
        show compareOfLessAndEq _ _ = _
        unfold compareOfLessAndEq
        have hp := Nat.two_pow_pos 1020
        generalize 2 ^ 1020 = t at *
        rw [if_pos (by omega)]
    · omega

theorem near_lt (T : Nat) (h : T < 4503599627370496) : Ieee.double.nearest false T (-54) < 4598175219545276416 := by
  have hpo := near_po T (-54)
  by_cases hc : T ≤ 2251799813685248
  · have := sm_near false T (-54) 51 hc 1019 (by decide) (by decide) (by decide)
    unfold Sm at this
    omega
  · have hl : T.log2 = 51 := (Nat.log2_eq_iff (by omega)).2 ⟨by omega, by omega⟩
    unfold Ieee.Format.nearest
    rw [if_neg (by omega), hl]
    have hf : (Ieee.double.fractionBits : Int) = 52 := rfl
    have hlp : Ieee.double.leastPlace = -1074 := by decide
    rw [hf, hlp]
    have hlast : max ((-54 : Int) + ((51 : Nat) : Int) - 52) (-1074) = -55 := by decide
    simp only [hlast, hB]
    have a1 : ((-54 : Int) - -55).toNat = 1 := by decide
    have a2 : ((-55 : Int) - -54).toNat = 0 := by decide
    have a3 : ((-55 : Int) - -1074).toNat = 1019 := by decide
    have a4 : Ieee.Toward.even.cut false (T <<< 1) 0 = T <<< 1 := by unfold Ieee.Toward.cut; simp [Nat.mod_one]
    rw [a1, a2, a3, a4, Nat.shiftLeft_eq, hI, Nat.min_eq_left (by omega)]
    unfold Ieee.Format.word
    rw [if_neg Bool.false_ne_true]
    omega

theorem ar1 (f : Nat) (hE : f / 4503599627370496 = 1022) (hc : f % 4503599627370496 < 2251799813685248) : 4593671619917905920 + (2*(f % 4503599627370496) + 4503599627370496) + 1125899906842624 ≤ f := by omega
theorem ar2 (f : Nat) (hE : f / 4503599627370496 = 1022) : 4598175219545276416 + (f % 4503599627370496 + 2251799813685248) + 1125899906842624 ≤ f := by omega
theorem ar3 (f : Nat) (hE : f / 4503599627370496 = 1023) (hc : f % 4503599627370496 < 1125899906842624) : 4598175219545276416 + (2*(f % 4503599627370496) + 6755399441055744) + 1125899906842624 ≤ f := by omega
theorem ar4 (f : Nat) (hE : f / 4503599627370496 = 1023) : 4602678819172646912 + (f % 4503599627370496 + 3377699720527872) + 1125899906842624 ≤ f := by omega
theorem q_step {f : Nat} (h1 : 4598175219545276416 ≤ f) (h2 : f ≤ 4611686018427387904) : ∃ g, floatBits .sub .f64 f 4598175219545276416 = some g ∧ (g + 1125899906842624 ≤ f ∨ g < 4598175219545276416) := by
  have hd : floatBits .sub .f64 f 4598175219545276416 = ((FloatKind.f64.decode f).sum (FloatKind.f64.decode 4598175219545276416).opposite).map Ieee.double.write := rfl
  rw [hd, dec_qt, pos_decode (by omega) (by omega)]
  have hm := Nat.mod_lt f (show 4503599627370496 > 0 by decide)
  have hE : f / 4503599627370496 = 1021 ∨ f / 4503599627370496 = 1022 ∨ f / 4503599627370496 = 1023 ∨ f / 4503599627370496 = 1024 := by omega
  simp only [Ieee.Datum.opposite, Ieee.Datum.sum, Option.map_some]
  refine ⟨_, rfl, ?_⟩
  simp only [Ieee.Format.write]
  have hneg : Ieee.signed (!false) 4503599627370496 0 = -4503599627370496 := by decide
  have fin : ∀ (b : Bool) (T m k q : Nat) (p : Int), b = false → (p + 1074).toNat * 4503599627370496 = q → T = m * 2 ^ k → (-54 : Int) = p - k → 4503599627370496 ≤ m → m < 9007199254740992 → -1074 ≤ p → p ≤ 0 → Ieee.double.nearest b T (-54) = q + m := by
    intro b T m k q p hb hq hT hp h1 h2 h3 h4
    subst hb; subst hq
    rw [hT, hp, nearest_norm false m k p h1 h2 h3]
    exact word_pos _ (by omega)
  rcases hE with hE | hE | hE | hE
  · rw [hE]
    have e0 : (-1074 + ((1021 - 1 : Nat) : Int)) = -54 := by decide
    rw [e0, Int.min_self, Int.sub_self, Int.toNat_zero, hneg]
    have ht : Ieee.signed false (4503599627370496 + f % 4503599627370496) 0 + -4503599627370496 = ((f % 4503599627370496 : Nat) : Int) := by
      simp only [Ieee.signed, Bool.false_eq_true, if_false, Nat.shiftLeft_zero]; omega
    rw [ht]
    generalize f % 4503599627370496 = r at *
    right
    have hsg : (if ((r : Nat) : Int) = 0 then (false && !false) else decide (((r : Nat) : Int) < 0)) = false := by
      split
      · rfl
      · rw [decide_eq_false_iff_not]; omega
    rw [hsg, Int.natAbs_natCast]
    exact near_lt r hm
  · rw [hE]
    have e0 : (-1074 + ((1022 - 1 : Nat) : Int)) = -53 := by decide
    have e1 : min (-53 : Int) (-54) = -54 := by decide
    have e2 : (-53 - -54 : Int).toNat = 1 := by decide
    have e3 : (-54 - -54 : Int).toNat = 0 := by decide
    rw [e0, e1, e2, e3, hneg]
    have ht : Ieee.signed false (4503599627370496 + f % 4503599627370496) 1 + -4503599627370496 = ((2 * (f % 4503599627370496) + 4503599627370496 : Nat) : Int) := by
      simp only [Ieee.signed, Bool.false_eq_true, if_false, Nat.shiftLeft_eq]; omega
    rw [ht, Int.natAbs_natCast, if_neg (by omega)]
    have hn : decide (((2 * (f % 4503599627370496) + 4503599627370496 : Nat) : Int) < 0) = false := by rw [decide_eq_false_iff_not]; omega
    left
    by_cases hc : f % 4503599627370496 < 2251799813685248
    · rw [fin _ _ (2 * (f % 4503599627370496) + 4503599627370496) 0 4593671619917905920 (-54) hn (by decide +kernel) (by omega) (by decide) (by omega) (by omega) (by decide) (by decide)]
      exact ar1 f hE hc
    · rw [fin _ _ (f % 4503599627370496 + 2251799813685248) 1 4598175219545276416 (-53) hn (by decide +kernel) (by omega) (by decide) (by omega) (by omega) (by decide) (by decide)]
      exact ar2 f hE
  · rw [hE]
    have e0 : (-1074 + ((1023 - 1 : Nat) : Int)) = -52 := by decide
    have e1 : min (-52 : Int) (-54) = -54 := by decide
    have e2 : (-52 - -54 : Int).toNat = 2 := by decide
    have e3 : (-54 - -54 : Int).toNat = 0 := by decide
    rw [e0, e1, e2, e3, hneg]
    have ht : Ieee.signed false (4503599627370496 + f % 4503599627370496) 2 + -4503599627370496 = ((4 * (f % 4503599627370496) + 13510798882111488 : Nat) : Int) := by
      simp only [Ieee.signed, Bool.false_eq_true, if_false, Nat.shiftLeft_eq]; omega
    rw [ht, Int.natAbs_natCast, if_neg (by omega)]
    have hn : decide (((4 * (f % 4503599627370496) + 13510798882111488 : Nat) : Int) < 0) = false := by rw [decide_eq_false_iff_not]; omega
    left
    by_cases hc : f % 4503599627370496 < 1125899906842624
    · rw [fin _ _ (2 * (f % 4503599627370496) + 6755399441055744) 1 4598175219545276416 (-53) hn (by decide +kernel) (by omega) (by decide) (by omega) (by omega) (by decide) (by decide)]
      exact ar3 f hE hc
    · rw [fin _ _ (f % 4503599627370496 + 3377699720527872) 2 4602678819172646912 (-52) hn (by decide +kernel) (by omega) (by decide) (by omega) (by omega) (by decide) (by decide)]
      exact ar4 f hE
  · have hz : f % 4503599627370496 = 0 := by omega
    rw [hE, hz]
    have e0 : (-1074 + ((1024 - 1 : Nat) : Int)) = -51 := by decide
    have e1 : min (-51 : Int) (-54) = -54 := by decide
    have e2 : (-51 - -54 : Int).toNat = 3 := by decide
    have e3 : (-54 - -54 : Int).toNat = 0 := by decide
    rw [e0, e1, e2, e3, hneg]
    left
    have : Ieee.double.nearest (if Ieee.signed false (4503599627370496 + 0) 3 + -4503599627370496 = 0 then false && !false else decide (Ieee.signed false (4503599627370496 + 0) 3 + -4503599627370496 < 0)) (Ieee.signed false (4503599627370496 + 0) 3 + -4503599627370496).natAbs (-54) = 4610560118520545280 := by decide +kernel
    rw [this]; omega

/-- What is left behind some quarters. -/
def pF (y : Nat) : Nat → Option Nat
  | 0 => sF1 y
  | j + 1 => fop .sub .f64 (pF y j) (some 4598175219545276416)
def PI (y j f : Nat) : Prop := pF y j = some f ∧ f < 18446744073709551616 ∧ Sm 1023 f ∧ j ≤ 13 ∧ (j = 0 ∨ j * 1125899906842624 + f ≤ 4611686018427387904 ∨ f < 4598175219545276416) ∧ ∀ k f', k < j → pF y k = some f' → ge025 f' = true

theorem write_lt (d : Ieee.Datum) (h : ∀ s f, d ≠ .nan s f) : Ieee.double.write d < 18446744073709551616 := by
  have hw : ∀ (b : Bool) r, r ≤ 9218868437227405312 → Ieee.double.word b r < 18446744073709551616 := fun b r hr => by
    unfold Ieee.Format.word
    rw [hS]
    split <;> omega
  cases d with
  | nan s f => exact absurd rfl (h s f)
  | infinity s => exact hw _ _ (by rw [hI]; exact Nat.le_refl _)
  | number s m e =>
    show Ieee.double.nearest s m e < _
    unfold Ieee.Format.nearest
    split
    · exact hw _ _ (by decide)
    · exact hw _ _ (by rw [hI]; exact Nat.min_le_right ..)

theorem sub_lt {x y r : Nat} (h : floatBits .sub .f64 x y = some r) : r < 18446744073709551616 := by
  have hd : floatBits .sub .f64 x y = ((FloatKind.f64.decode x).sum (FloatKind.f64.decode y).opposite).map Ieee.double.write := rfl
  rw [hd] at h
  cases hs : (FloatKind.f64.decode x).sum (FloatKind.f64.decode y).opposite with
  | none => rw [hs] at h; cases h
  | some d =>
    rw [hs] at h
    simp only [Option.map_some, Option.some.injEq] at h
    subst h
    refine write_lt d ?_
    rintro s f rfl
    revert hs
    cases FloatKind.f64.decode x <;> cases (FloatKind.f64.decode y).opposite <;> simp [Ieee.Datum.sum]
    all_goals first | (split <;> simp) | simp
theorem add_lt {x y r : Nat} (h : floatBits .add .f64 x y = some r) : r < 18446744073709551616 := by
  have hd : floatBits .add .f64 x y = ((FloatKind.f64.decode x).sum (FloatKind.f64.decode y)).map Ieee.double.write := rfl
  rw [hd] at h
  cases hs : (FloatKind.f64.decode x).sum (FloatKind.f64.decode y) with
  | none => rw [hs] at h; cases h
  | some d =>
    rw [hs] at h
    simp only [Option.map_some, Option.some.injEq] at h
    subst h
    refine write_lt d ?_
    rintro s f rfl
    revert hs
    cases FloatKind.f64.decode x <;> cases FloatKind.f64.decode y <;> simp [Ieee.Datum.sum]
    all_goals first | (split <;> simp) | simp

theorem PI.start {y f : Nat} (h : y % 9223372036854775808 < 4841369599423283200) (hf : Rp .f64 (sF1 y) f) : PI y 0 f := by
  obtain ⟨b, hb, hs⟩ := sF1_sm h
  rw [hb] at hf
  obtain rfl : f = b := hf
  refine ⟨hb, ?_, hs, by decide, .inl rfl, fun k f' hk => absurd hk (by omega)⟩
  obtain ⟨p, q, hp, hq, hc⟩ : ∃ p, ∃ q : Nat, partV y = some p ∧ q = f ∧ (f = p ∨ floatBits .add .f64 p oneW = some f) := by
    obtain ⟨_, p, hp, _⟩ := part_sm h
    refine ⟨p, f, hp, rfl, ?_⟩
    unfold sF1 at hb
    rw [hp] at hb
    split at hb
    · exact .inr hb
    · left; injection hb with hb; exact hb.symm
  rcases hc with hc | hc
  · have : floatBits .sub .f64 y (floatOfInt .f64 (cutI y)) = some p := hp
    rw [hc]; exact sub_lt this
  · exact add_lt hc
theorem PI.next {y j f : Nat} (h : PI y j f) (hg : ge025 f = true) : ∃ g, floatBits .sub .f64 f 4598175219545276416 = some g ∧ PI y (j + 1) g ∧ g + 1 - 4598175219545276416 < f + 1 - 4598175219545276416 ∧ j ≤ 12 := by
  obtain ⟨hp, hf, hs, hj, hI, hk⟩ := h
  obtain ⟨h1, h2⟩ := ge_range hs hf hg
  obtain ⟨g, hg1, hg2⟩ := q_step h1 h2
  have hj2 : j * 1125899906842624 + f ≤ 4611686018427387904 := by omega
  have hgf : g < f := by omega
  refine ⟨g, hg1, ⟨?_, by omega, by unfold Sm; omega, by omega, by omega, ?_⟩, by omega, by omega⟩
  · show fop .sub .f64 (pF y j) _ = _
    rw [hp]; exact hg1
  · intro k f' hkj hkf
    by_cases he : k = j
    · subst he
      rw [hp] at hkf
      injection hkf with e
      rw [← e]; exact hg
    · exact hk k f' (by omega) hkf

theorem PI.unique {y j f j' f' : Nat} (h : PI y j f) (hg : ge025 f = false) (h' : PI y j' f') (hg' : ge025 f' = false) : j = j' ∧ f = f' := by
  have hle : ∀ {a b : Nat} {p q : Nat}, PI y a p → ge025 p = false → PI y b q → ge025 q = false → ¬ a < b := by
    intro a b p q ha hp hb _ hlt
    have := hb.2.2.2.2.2 a p hlt ha.1
    rw [hp] at this
    exact Bool.false_ne_true this
  have h1 := hle h hg h' hg'
  have h2 := hle h' hg' h hg
  have he : j = j' := by omega
  subst he
  refine ⟨rfl, ?_⟩
  have := h.1.symm.trans h'.1
  injection this

def pA (f : Nat) : Nat := (floatBits .sub .f64 4598175219545276416 f).getD 0
theorem pA_some {f : Nat} (hs : Sm 1023 f) : floatBits .sub .f64 4598175219545276416 f = some (pA f) ∧ pA f % 9223372036854775808 < 4841369599423283200 := by
  obtain ⟨r, hr, hm⟩ : SmO 1024 (fop .sub .f64 (some 4598175219545276416) (some f)) := SmO.sub (E := 1022) (F := 1023) (sm_const (by decide)) ⟨f, rfl, hs⟩ (by decide) (by decide) (by decide) (by decide) (by decide)
  have h1 : floatBits .sub .f64 4598175219545276416 f = some r := hr
  have h2 : pA f = r := by unfold pA; rw [h1]; rfl
  rw [h2]
  unfold Sm at hm
  exact ⟨h1, by omega⟩
/-- The parts, ahead of the narrowing. -/
def pRe (f j : Nat) : Option Nat := if j = 1 then fop .sub .f64 (some 0) (sV f) else if j = 2 then fop .sub .f64 (some 0) (sV (pA f)) else if j = 3 then sV f else sV (pA f)
def pIm (f j : Nat) : Option Nat := if j = 1 then sV (pA f) else if j = 2 then fop .sub .f64 (some 0) (sV f) else if j = 3 then fop .sub .f64 (some 0) (sV (pA f)) else sV f
theorem zero_sub_sm {o : Option Nat} (h : SmO 1132 o) : SmO 1133 (fop .sub .f64 (some 0) o) := SmO.sub (E := 1022) (sm_const (by decide)) h (by decide) (by decide) (by decide) (by decide) (by decide)
theorem sm_up {o : Option Nat} {E F : Nat} (h : SmO E o) (hE : E ≤ F) : SmO F o := by
  obtain ⟨b, hb, hm⟩ := h
  exact ⟨b, hb, sm_mono hm hE⟩
theorem pRe_sm {f : Nat} (hs : Sm 1023 f) (j : Nat) : SmO 1133 (pRe f j) := by
  have h1 := sV_sm (y := f) (by unfold Sm at hs; omega)
  have h2 := sV_sm (pA_some hs).2
  unfold pRe
  repeat' split
  · exact zero_sub_sm h1
  · exact zero_sub_sm h2
  · exact sm_up h1 (by decide)
  · exact sm_up h2 (by decide)
theorem pIm_sm {f : Nat} (hs : Sm 1023 f) (j : Nat) : SmO 1133 (pIm f j) := by
  have h1 := sV_sm (y := f) (by unfold Sm at hs; omega)
  have h2 := sV_sm (pA_some hs).2
  unfold pIm
  repeat' split
  · exact sm_up h2 (by decide)
  · exact zero_sub_sm h1
  · exact zero_sub_sm h2
  · exact sm_up h1 (by decide)
end Go.Proofs.Ytpaldmhlcgdmkab
