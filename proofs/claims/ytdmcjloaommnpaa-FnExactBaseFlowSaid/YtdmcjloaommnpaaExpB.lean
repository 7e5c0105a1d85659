/- The exponential function of numbers that are not too great is not too great: plain facts on numbers. -/
import Derived.Test.YtdmcjloaommnpaaWideD
import Derived.Test.YtdmcjloaommnpaaRootO
namespace Go.Proofs.Ytdmcjloaommnpaa
set_option linter.unusedVariables false
set_option maxRecDepth 100000

/-- The exponential function of a 64-bit number, as it is made. -/
def xT (Y : Option Nat) : Option Nat := fop .quo .f64 Y (some 4643211215818981376)
def xP (Y : Option Nat) : Nat → Option Nat
  | 0 => some 4607182418800017408
  | j + 1 => fop .add .f64 (some 4607182418800017408) (fop .quo .f64 (fop .mul .f64 (xT Y) (xP Y j)) (some (floatOfInt .f64 (12 - (j : Int)))))
def xS (Y : Option Nat) : Nat → Option Nat
  | 0 => xP Y 12
  | j + 1 => fop .mul .f64 (xS Y j) (xS Y j)

namespace D64
def t73 : Nat := Q (mag (widr 1116864512)) 8
def bR (r : Nat) : Nat := Q (mag t73 * mag r) 1074
def bP : Nat → Nat
  | 0 => 4607182418800017408
  | j + 1 => Q (mag 4607182418800017408 + mag (bR (bP j))) 0
def bS : Nat → Nat
  | 0 => bP 12
  | j + 1 => Q (mag (bS j) * mag (bS j)) 1074
theorem bP_all : ∀ j : Fin 13, bP j.val < 9218868437227405312 ∧ 4607182418800017408 ≤ bP j.val ∧ bR (bP j.val) < 9218868437227405312 := by decide +kernel
theorem bS_all : ∀ j : Fin 9, bS j.val < 9218868437227405312 := by decide +kernel
theorem bS_last : bS 8 ≤ (1147 + 1) * 4503599627370496 := by decide +kernel
theorem k_all : ∀ j : Fin 12, 4607182418800017408 ≤ floatOfInt .f64 (12 - ((j.val : Nat) : Int)) ∧ floatOfInt .f64 (12 - ((j.val : Nat) : Int)) < 9218868437227405312 := by decide +kernel
theorem t200 : Q (mag (widr 1128792064)) 8 ≤ 4607182418800017408 := by decide +kernel
theorem t73_fin : t73 < 9218868437227405312 := by decide +kernel

theorem rg_self {r : Nat} (h : r < 9218868437227405312) : rg r = r := Nat.mod_eq_of_lt (by omega)
theorem one_mag : Q (mag 4607182418800017408) 0 = 4607182418800017408 := Q_mag _ (by decide)

/-- One step of the sum. -/
theorem step_p {s : Bool} {rt p k B' : Nat} (hrt : rt < 9218868437227405312) (hp : FN p) (hk1 : 4607182418800017408 ≤ k) (hk2 : k < 9218868437227405312)
    (hR : Q (mag rt * mag (rg p)) 1074 < 9218868437227405312) (hneg : s = true → Q (mag rt * mag (rg p)) 1074 ≤ 4607182418800017408) (hone : 4607182418800017408 ≤ B') (hB : B' < 9218868437227405312)
    (hpos : s = false → Q (mag 4607182418800017408 + mag (Q (mag rt * mag (rg p)) 1074)) 0 ≤ B') :
    ∃ z, fop .add .f64 (some 4607182418800017408) (fop .quo .f64 (fop .mul .f64 (some (Ieee.double.word s rt)) (some p)) (some k)) = some z ∧ FN z ∧ rg z ≤ B' := by
  obtain ⟨w1, w2, _⟩ := word_rg s rt (Nat.le_of_lt hrt)
  have hm := mul_sg (x := Ieee.double.word s rt) (y := p) (by rw [w1]; exact hrt) hp.rlt
  rw [w1, w2] at hm
  obtain ⟨R, hRe⟩ : ∃ R, Q (mag rt * mag (rg p)) 1074 = R := ⟨_, rfl⟩
  rw [hRe] at hm hR hneg hpos
  have hsp : (p / 9223372036854775808 % 2 == 1) = true → R = 0 := by
    intro h
    rw [beq_iff_eq] at h
    have : p = 9223372036854775808 := by unfold FN at hp; omega
    rw [← hRe, this]
    show Q (mag rt * mag 0) 1074 = 0
    rw [mag_zero, Nat.mul_zero, Q_zero]
  obtain ⟨s', hs'⟩ : ∃ s', (s ^^ (p / 9223372036854775808 % 2 == 1)) = s' := ⟨_, rfl⟩
  rw [hs'] at hm
  obtain ⟨v1, v2, _⟩ := word_rg s' R (Nat.le_of_lt hR)
  have hkk : FN k := .inl hk2
  obtain ⟨r, hq, hr⟩ := quo_le (x := Ieee.double.word s' R) (y := k) (by rw [v1]; exact hR) hkk (by rw [rg_self hk2]; exact hk1)
  rw [v1] at hr
  rw [v2] at hq
  have e1 : fop .mul .f64 (some (Ieee.double.word s rt)) (some p) = some (Ieee.double.word s' R) := hm
  have e2 : fop .quo .f64 (some (Ieee.double.word s' R)) (some k) = some (Ieee.double.word s' r) := hq
  rw [e1, e2]
  show ∃ z, floatBits .add .f64 4607182418800017408 (Ieee.double.word s' r) = some z ∧ FN z ∧ rg z ≤ B'
  have hrf : r < 9218868437227405312 := by omega
  have hrF : FN r := .inl hrf
  have h1F : FN 4607182418800017408 := .inl (by decide)
  have h1r : rg 4607182418800017408 = 4607182418800017408 := rfl
  cases s' with
  | false =>
    rw [word_pos32]
    obtain ⟨z, hz, hn, hzr, _⟩ := add_fn h1F hrF
    rw [h1r, rg_self hrf] at hzr
    have hle : rg z ≤ B' := by
      rw [hzr]
      cases s with
      | false => exact Nat.le_trans (Q_mono _ _ 0 (Nat.add_le_add_left (mag_mono hr hR) _)) (hpos rfl)
      | true =>
        have hpt : (p / 9223372036854775808 % 2 == 1) = true := by
          cases h : (p / 9223372036854775808 % 2 == 1)
          · rw [h] at hs'; cases hs'
          · rfl
        have := hsp hpt
        have hr0 : r = 0 := by omega
        rw [hr0, mag_zero, Nat.add_zero, one_mag]
        exact hone
    exact ⟨z, hz, hn.fn (by omega), hle⟩
  | true =>
    rw [add_neg hrf]
    have hr1 : r ≤ 4607182418800017408 := by
      cases s with
      | true => exact Nat.le_trans hr (hneg rfl)
      | false =>
        have hpt : (p / 9223372036854775808 % 2 == 1) = true := by
          cases h : (p / 9223372036854775808 % 2 == 1)
          · rw [h] at hs'; cases hs'
          · rfl
        have := hsp hpt
        omega
    obtain ⟨z, hz, hn, hle, _⟩ := sub_fn h1F hrF (by rw [h1r, rg_self hrf]; exact hr1)
    rw [h1r] at hle
    exact ⟨z, hz, hn, Nat.le_trans hle hone⟩

def bd (s : Bool) (f : Nat → Nat) (j : Nat) : Nat := if s then 4607182418800017408 else f j
theorem one_one : Q (mag 4607182418800017408 * mag 4607182418800017408) 1074 = 4607182418800017408 := by
  have h1F : FN 4607182418800017408 := .inl (by decide)
  decide +kernel

theorem xP_bound {Y : Option Nat} {s : Bool} {rt : Nat} (hT : xT Y = some (Ieee.double.word s rt)) (hrt : rt ≤ bd s (fun _ => t73) 0) : ∀ j, j ≤ 12 → ∃ p, xP Y j = some p ∧ FN p ∧ rg p ≤ bd s bP j
  | 0, _ => ⟨4607182418800017408, rfl, .inl (by decide), by unfold bd; cases s <;> exact Nat.le_refl _⟩
  | j + 1, h => by
    obtain ⟨p, hp, hF, hle⟩ := xP_bound hT hrt j (by omega)
    have hk := k_all ⟨j, by omega⟩
    have hb := bP_all ⟨j, by omega⟩
    have hb1 := bP_all ⟨j + 1, by omega⟩
    simp only at hk hb hb1
    have hgoal : xP Y (j + 1) = fop .add .f64 (some 4607182418800017408) (fop .quo .f64 (fop .mul .f64 (xT Y) (xP Y j)) (some (floatOfInt .f64 (12 - (j : Int))))) := rfl
    rw [hgoal, hT, hp]
    unfold bd at hrt hle ⊢
    cases s with
    | true =>
      simp only [if_true] at hrt hle ⊢
      have hR : Q (mag rt * mag (rg p)) 1074 ≤ 4607182418800017408 := by
        have := Q_mono _ _ 1074 (Nat.mul_le_mul (mag_mono hrt (by decide)) (mag_mono hle (by decide)))
        rwa [one_one] at this
      exact step_p (by omega) hF hk.1 hk.2 (by omega) (fun _ => hR) (Nat.le_refl _) (by decide) (fun h => by cases h)
    | false =>
      simp only [Bool.false_eq_true, if_false] at hrt hle ⊢
      have ht := t73_fin
      have hR : Q (mag rt * mag (rg p)) 1074 ≤ bR (bP j) := Q_mono _ _ 1074 (Nat.mul_le_mul (mag_mono hrt ht) (mag_mono hle hb.1))
      refine step_p (by omega) hF hk.1 hk.2 (by omega) (fun h => by cases h) hb1.2.1 hb1.1 (fun _ => ?_)
      show _ ≤ Q (mag 4607182418800017408 + mag (bR (bP j))) 0
      exact Q_mono _ _ 0 (Nat.add_le_add_left (mag_mono hR hb.2.2) _)

theorem xS_bound {Y : Option Nat} {s : Bool} {rt : Nat} (hT : xT Y = some (Ieee.double.word s rt)) (hrt : rt ≤ bd s (fun _ => t73) 0) : ∀ j, j ≤ 8 → ∃ p, xS Y j = some p ∧ FN p ∧ rg p ≤ bd s bS j
  | 0, _ => xP_bound hT hrt 12 (Nat.le_refl _)
  | j + 1, h => by
    obtain ⟨p, hp, hF, hle⟩ := xS_bound hT hrt j (by omega)
    have hb := bS_all ⟨j, by omega⟩
    have hb1 := bS_all ⟨j + 1, by omega⟩
    simp only at hb hb1
    have hgoal : xS Y (j + 1) = fop .mul .f64 (xS Y j) (xS Y j) := rfl
    rw [hgoal, hp]
    obtain ⟨z, hz, hn, hzr, _⟩ := mul_fn hF hF
    refine ⟨z, hz, ?_⟩
    have hle2 : rg z ≤ bd s bS (j + 1) := by
      rw [hzr]
      unfold bd at hle ⊢
      cases s with
      | true =>
        simp only [if_true] at hle ⊢
        have h5 := mag_mono hle (by decide)
        have := Q_mono _ _ 1074 (Nat.mul_le_mul h5 h5)
        rwa [one_one] at this
      | false =>
        simp only [Bool.false_eq_true, if_false] at hle ⊢
        have h5 := mag_mono hle hb
        exact Q_mono _ _ 1074 (Nat.mul_le_mul h5 h5)
    refine ⟨hn.fn ?_, hle2⟩
    unfold bd at hle2
    cases s with
    | true => simp only [if_true] at hle2; omega
    | false => simp only [Bool.false_eq_true, if_false] at hle2; omega
end D64

/-- Of which numbers the exponential function is not too great: those of at most 73, and of at least -200. -/
def Rng (x : Nat) : Prop := rg x < 2139095040 ∧ ((x / 2147483648 % 2 == 1) = true ∧ rg x ≤ 1128792064 ∨ (x / 2147483648 % 2 == 1) = false ∧ rg x ≤ 1116864512)

theorem exp_ok {x p : Nat} (h : Rng x) (hp : Rp .f64 (xS (cvt .f32 x .f64) 8) p) : tooGreat .f64 p .f32 = false := by
  obtain ⟨hf, hr⟩ := h
  obtain ⟨hw, _⟩ := widr_fin hf
  obtain ⟨v1, v2, _⟩ := D64.word_rg (x / 2147483648 % 2 == 1) (widr x) (Nat.le_of_lt hw)
  have hT : xT (cvt .f32 x .f64) = some (Ieee.double.word (x / 2147483648 % 2 == 1) (D64.Q (D64.mag (widr x)) 8)) := by
    rw [widen_word hf]
    show floatBits .quo .f64 _ 4643211215818981376 = _
    rw [D64.quo_256 (by rw [v1]; exact hw), v1, v2]
  have hmono : ∀ c, rg x ≤ rg c → rg c < 2139095040 → D64.Q (D64.mag (widr x)) 8 ≤ D64.Q (D64.mag (widr c)) 8 := fun c h1 h2 =>
    D64.Q_mono _ _ 8 (D64.mag_mono (widr_mono h1 h2) (widr_fin h2).1)
  have hrt : D64.Q (D64.mag (widr x)) 8 ≤ D64.bd (x / 2147483648 % 2 == 1) (fun _ => D64.t73) 0 := by
    unfold D64.bd
    rcases hr with ⟨h1, h2⟩ | ⟨h1, h2⟩
    · rw [h1, if_pos rfl]
      exact Nat.le_trans (hmono 1128792064 h2 (by decide)) D64.t200
    · rw [h1, if_neg (by decide)]
      exact hmono 1116864512 h2 (by decide)
  obtain ⟨q, hq, hF, hle⟩ := D64.xS_bound hT hrt 8 (Nat.le_refl _)
  rw [hq] at hp
  obtain rfl : p = q := hp
  refine narrow_ok (E := 1147) ?_ (by decide)
  unfold Sm
  have hl := D64.bS_last
  have h3 : D64.rg p ≤ (1147 + 1) * 4503599627370496 := by
    unfold D64.bd at hle
    split at hle <;> omega
  exact h3
end Go.Proofs.Ytdmcjloaommnpaa
