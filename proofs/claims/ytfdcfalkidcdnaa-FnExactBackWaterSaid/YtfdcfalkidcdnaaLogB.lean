/- Logarithms are not too great: plain facts on numbers. -/
import Derived.Test.YtfdcfalkidcdnaaLogO
namespace Go.Proofs.Ytfdcfalkidcdnaa
set_option linter.unusedVariables false
set_option maxRecDepth 100000

namespace D64
def lnB : Nat := Q (mag 4639481672377565184 * mag 4604418534313441775) 1074
def logL : Nat := Q (mag 4611686018427387904 + mag lnB) 0
theorem logL_fin : logL < 9218868437227405312 ∧ lnB < 9218868437227405312 := by decide +kernel
theorem int_all : ∀ i : Fin 301, rg (floatOfInt .f64 (((i.val : Nat) : Int) - 150)) ≤ 4639481672377565184 := by decide +kernel
theorem int_le (e : Int) (h : e.natAbs ≤ 150) : rg (floatOfInt .f64 e) ≤ 4639481672377565184 := by
  have := int_all ⟨(e + 150).toNat, by omega⟩
  simp only at this
  rwa [show (((e + 150).toNat : Nat) : Int) - 150 = e by omega] at this
end D64

/-- A logarithm, but for its sign. -/
theorem logV_mag {x : Nat} (h1 : c075 ≤ x) (h2 : x < c15) (e : Int) (he : e.natAbs ≤ 150) : ∃ v, logV x e = some v ∧ D64.rg v ≤ D64.logL := by
  obtain ⟨a, ha, ha2⟩ : SmO 1023 (fop .mul .f64 (some twoW) (fop .mul .f64 (logS x) (logQ x 13))) :=
    SmO.mul (E := 1023) (F := 1022) (G := 1023) (sm_const (by decide)) ((logS_sm h1 h2).mul (logQ_sm h1 h2 13 (by decide)) (by decide) (by decide) (by decide) (by decide) (by decide)) (by decide) (by decide) (by decide) (by decide) (by decide)
  have hi := D64.int_le e he
  obtain ⟨f1, f2⟩ := D64.logL_fin
  have hm := D64.mul_sg (x := floatOfInt .f64 e) (y := lnW) (by omega) (by decide)
  have hl : D64.rg lnW = 4604418534313441775 := rfl
  rw [hl] at hm
  have hbq : D64.Q (D64.mag (D64.rg (floatOfInt .f64 e)) * D64.mag 4604418534313441775) 1074 ≤ D64.lnB := D64.Q_mono _ _ 1074 (Nat.mul_le_mul_right _ (D64.mag_mono hi (by decide)))
  have e1 : fop .mul .f64 (some (floatOfInt .f64 e)) (some lnW) = some _ := hm
  have har : D64.rg a ≤ 4611686018427387904 := ha2
  generalize hw : Ieee.double.word ((floatOfInt .f64 e / 9223372036854775808 % 2 == 1) ^^ (lnW / 9223372036854775808 % 2 == 1)) (D64.Q (D64.mag (D64.rg (floatOfInt .f64 e)) * D64.mag 4604418534313441775) 1074) = b at *
  have hbr : D64.rg b ≤ D64.lnB := by
    rw [← hw, (D64.word_rg _ _ (D64.Q_le _ _)).1]; exact hbq
  obtain ⟨z, hz, hzr⟩ := D64.add_mag (x := a) (y := b) (by omega) (by omega)
  refine ⟨z, ?_, Nat.le_trans hzr ?_⟩
  · unfold logV
    rw [ha, e1]
    exact hz
  · exact D64.Q_mono _ _ 0 (Nat.add_le_add (D64.mag_mono har (by decide)) (D64.mag_mono hbr f2))

theorem widr_low : 3936146074321813504 ≤ widr 1 := by decide +kernel
theorem widr_high : widr 2139095039 ≤ 5183643171103440896 := by decide +kernel
theorem eOf_few {x : Nat} (h0 : 0 < x) (h1 : x < 2139095040) : (eOf (widr x)).natAbs ≤ 150 := by
  have hr : rg x = x := Nat.mod_eq_of_lt (by omega)
  have a := widr_mono (x := 1) (y := x) (by rw [hr]; exact h0) (by rw [hr]; exact h1)
  have b := widr_mono (x := x) (y := 2139095039) (by rw [hr]; show x ≤ 2139095039; omega) (by decide)
  have := widr_low
  have := widr_high
  unfold eOf
  omega

/-- A 64-bit number narrowed, but for its sign. -/
theorem narrow_rg {v l : Nat} (hv : D64.rg v < 9218868437227405312) (h : cvt .f64 v .f32 = some l) : rg l = Q (D64.mag (D64.rg v)) 925 := by
  obtain ⟨m, k, g1, g2, _⟩ := D64.fin_read2 v hv
  unfold cvt at h
  rw [if_neg (by decide), g1] at h
  simp only [Option.some.injEq] at h
  have h2 : Ieee.single.nearest (v / 9223372036854775808 % 2 == 1) m (-1074 + k) = l := h
  rw [nearest_gen _ _ _ k 925 (by omega)] at h2
  rw [← h2, (word_rg _ _ (Q_le _ _)).1]
  unfold D64.rg
  rw [g2]

def logL32 : Nat := Q (D64.mag D64.logL) 925
theorem logL32_fin : logL32 < 2139095040 := by decide +kernel
/-- A logarithm is infinite, or not too great. -/
theorem logO_mag {X : Option Nat} {l : Nat} (h : logO X = some l) : l = 2139095040 ∨ l = 4286578688 ∨ rg l ≤ logL32 := by
  cases X with
  | none => cases h
  | some x =>
    unfold logO at h
    simp only [Option.bind_some] at h
    split at h
    · cases h
    · rename_i a
      split at h
      · simp only [Option.some.injEq] at h; exact .inr (.inl h.symm)
      · rename_i b
        split at h
        · simp only [Option.some.injEq] at h; exact .inl h.symm
        · rename_i c
          split at h
          · cases h
          · rename_i d
            have hlt : x < 2139095040 := by unfold rg at a b; omega
            have hpos : 0 < x := by unfold rg at b; omega
            obtain ⟨v, hv, hvr⟩ := logV_mag (xOf_range (widr x)).1 (xOf_range (widr x)).2 (eOf (widr x)) (eOf_few hpos hlt)
            rw [hv] at h
            have h2 : cvt .f64 v .f32 = some l := h
            have f1 := D64.logL_fin.1
            rw [narrow_rg (by omega) h2]
            exact .inr (.inr (Q_mono _ _ 925 (D64.mag_mono hvr f1)))

/-- A product with a logarithm, by a number that is not too great. -/
theorem mul_log_rng {c : Nat} (hc : c < 2139095040) (hc0 : 0 < c) (hb : Q (mag c * mag logL32) 149 ≤ 1116864512) (hi : fop .mul .f32 (some c) (some 2139095040) = some 2139095040) (hj : fop .mul .f32 (some c) (some 4286578688) = some 4286578688) (X : Option Nat) :
    ExpR (fop .mul .f32 (some c) (logO X)) := by
  intro z hz hlt
  cases hl : logO X with
  | none => rw [hl] at hz; cases hz
  | some l =>
    rw [hl] at hz
    rcases logO_mag hl with rfl | rfl | h
    · rw [hi] at hz; simp only [Option.some.injEq] at hz; omega
    · rw [hj] at hz; simp only [Option.some.injEq] at hz; omega
    · have hf := logL32_fin
      have hm := mul_sg (x := c) (y := l) (by unfold rg; omega) (by omega)
      have e1 : some (Ieee.single.word _ _) = some z := hm.symm.trans hz
      simp only [Option.some.injEq] at e1
      have hr := (word_rg ((c / 2147483648 % 2 == 1) ^^ (l / 2147483648 % 2 == 1)) (Q (mag (rg c) * mag (rg l)) 149) (Q_le _ _)).1
      rw [e1] at hr
      have hcr : rg c = c := Nat.mod_eq_of_lt (by omega)
      have hzr : rg z = z := Nat.mod_eq_of_lt (by omega)
      rw [hcr, hzr] at hr
      have := Q_mono _ _ 149 (Nat.mul_le_mul_left (mag c) (mag_mono h hf))
      omega
theorem thirds_rng (X : Option Nat) : ExpR (fop .mul .f32 (some 1059760811) (logO X)) :=
  mul_log_rng (by decide) (by decide) (by decide +kernel) (by decide +kernel) (by decide +kernel) X
end Go.Proofs.Ytfdcfalkidcdnaa
