/- The exponential function of numbers that are not too great: the program and its model alike. -/
import Derived.Test.YtdmcjloaommnpaaExpB
import Derived.Test.YtdmcjloaommnpaaWid
import Derived.ProofKit
import Derived.OpenShut
import Derived.Below
namespace Go.Proofs.Ytdmcjloaommnpaa
open Go.RowKit
set_option linter.unusedVariables false
set_option linter.unusedSimpArgs false
set_option maxRecDepth 100000

theorem xP_next {Y : Option Nat} {j t p a b z : Nat} (ht : Rp .f64 (xT Y) t) (hp : Rp .f64 (xP Y j) p) (ha : Rp .f64 (floatBits .mul .f64 t p) a) (hb : Rp .f64 (floatBits .quo .f64 a (floatOfInt .f64 (12 - (j : Int)))) b) (hz : Rp .f64 (floatBits .add .f64 4607182418800017408 b) z) : Rp .f64 (xP Y (j + 1)) z :=
  Rp.fop (Rp.refl _ _) (Rp.fop (ht.fop hp ha) (Rp.refl _ _) hb) hz
theorem xS_next {Y : Option Nat} {j p z : Nat} (hp : Rp .f64 (xS Y j) p) (hz : Rp .f64 (floatBits .mul .f64 p p) z) : Rp .f64 (xS Y (j + 1)) z := hp.fop hp hz









/-- The exponential function of a number that may be no number. -/
def expO (X : Option Nat) : Option Nat := X.bind fun x =>
  if (x / 2147483648 % 2 == 1) = true ∧ 1128792064 < rg x ∧ rg x ≤ 2139095040 then some 0 else if x = 2139095040 then some 2139095040 else cvtF .f64 .f32 (xS (cvt .f32 x .f64) 8)
/-- Not too great. -/
def ExpR (X : Option Nat) : Prop := ∀ x, X = some x → x < 2139095040 → x ≤ 1116864512

theorem f32_facts {x : Nat} (hx : x < 4294967296) (h : Rng x) : (FloatKind.f32.format.order x 1128792064 == some .gt) = false ∧ (FloatKind.f32.format.order x 3276275712 == some .lt) = false := by
  obtain ⟨hf, h1⟩ := h
  rcases h1 with ⟨h1, h2⟩ | ⟨h1, h2⟩
  · rw [order_mix (y := 1128792064) hf (by decide) h1 (by decide) (by decide), order_neg (y := 3276275712) hf (by decide) h1 (by decide)]
    exact ⟨rfl, decide_eq_false (by show ¬ 1128792064 < rg x; omega)⟩
  · have hn : NN x := by
      rw [beq_eq_false_iff_ne] at h1
      unfold rg at hf
      exact .inl (by omega)
    rw [nn_gt hn (.inl (by decide)), order_mix2 (y := 3276275712) hn (by decide) (by decide) (by decide)]
    exact ⟨decide_eq_false (by show ¬ 1128792064 < rg x; omega), rfl⟩
theorem f64_facts {x : Nat} (h : Rng x) {r : Nat} (hr : cvt .f32 x .f64 = some r) :
    FloatKind.f64.format.order r r = some .eq ∧ (FloatKind.f64.format.order r 4641240890982006784 == some .gt) = false ∧ (FloatKind.f64.format.order r 13864612927836782592 == some .lt) = false := by
  obtain ⟨hf, h1⟩ := h
  obtain ⟨hw, hmg⟩ := widr_fin hf
  rw [widen_word hf] at hr
  simp only [Option.some.injEq] at hr
  obtain ⟨v1, v2, _⟩ := D64.word_rg (x / 2147483648 % 2 == 1) (widr x) (Nat.le_of_lt hw)
  rw [hr] at v1 v2
  have hle : ∀ c, rg x ≤ rg c → rg c < 2139095040 → widr x ≤ widr c := fun c a b => widr_mono a b
  have h200 : widr 1128792064 = 4641240890982006784 := by decide +kernel
  have h73 : widr 1116864512 ≤ 4641240890982006784 := by decide +kernel
  have hself : FloatKind.f64.format.order r r = some .eq := by
    rw [order_self_64, if_neg (by unfold D64.rg at v1; omega)]
  refine ⟨hself, ?_⟩
  rcases h1 with ⟨h1, h2⟩ | ⟨h1, h2⟩
  · rw [h1] at v2
    have h3 := hle 1128792064 h2 (by decide)
    rw [D64.order_mix (y := 4641240890982006784) (by rw [v1]; exact hw) (by decide) v2 (by decide) (by decide), D64.order_neg (y := 13864612927836782592) (by rw [v1]; exact hw) (by decide) v2 (by decide), v1]
    exact ⟨rfl, decide_eq_false (by show ¬ 4641240890982006784 < widr x; omega)⟩
  · have h3 := hle 1116864512 h2 (by decide)
    rw [h1] at v2
    have hn : D64.NN r := by
      have hb : r < 18446744073709551616 := by rw [← hr]; exact (D64.word_rg _ _ (Nat.le_of_lt hw)).2.2
      rw [beq_eq_false_iff_ne] at v2
      unfold D64.rg at v1
      exact .inl (by omega)
    rw [D64.nn_gt hn (.inl (by decide)), D64.order_mix2 (y := 13864612927836782592) hn (by decide) (by decide) (by decide), v1]
    exact ⟨decide_eq_false (by show ¬ 4641240890982006784 < widr x; omega), rfl⟩
theorem of_scaled {a b c : Nat} (h : a * 2 ^ c ≤ b * 2 ^ c) : a ≤ b := Nat.le_of_mul_le_mul_right h (Nat.two_pow_pos c)
theorem widr_strict {x y : Nat} (h : rg x < rg y) (hy : rg y < 2139095040) : widr x < widr y := by
  rcases Nat.lt_or_ge (widr x) (widr y) with h1 | h1
  · exact h1
  · exfalso
    have a := D64.mag_mono h1 (widr_fin (x := x) (by omega)).1
    rw [(widr_fin hy).2, (widr_fin (x := x) (by omega)).2] at a
    have b := mag_strict h hy
    have c := of_scaled (c := 925) a
    omega
theorem f32_low {x : Nat} (hx : x < 4294967296) (h1 : (x / 2147483648 % 2 == 1) = true) (h2 : 1128792064 < rg x) (h3 : rg x ≤ 2139095040) : (FloatKind.f32.format.order x 1128792064 == some .gt) = false ∧ (FloatKind.f32.format.order x 3276275712 == some .lt) = true := by
  by_cases hf : rg x < 2139095040
  · rw [order_mix (y := 1128792064) hf (by decide) h1 (by decide) (by decide), order_neg (y := 3276275712) hf (by decide) h1 (by decide)]
    exact ⟨rfl, decide_eq_true h2⟩
  · have : x = 4286578688 := by rw [beq_iff_eq] at h1; unfold rg at *; omega
    subst this
    decide +kernel
theorem f64_low {x : Nat} (hx : x < 4294967296) (h1 : (x / 2147483648 % 2 == 1) = true) (h2 : 1128792064 < rg x) (h3 : rg x ≤ 2139095040) {r : Nat} (hr : cvt .f32 x .f64 = some r) :
    FloatKind.f64.format.order r r = some .eq ∧ (FloatKind.f64.format.order r 4641240890982006784 == some .gt) = false ∧ (FloatKind.f64.format.order r 13864612927836782592 == some .lt) = true := by
  by_cases hf : rg x < 2139095040
  · obtain ⟨hw, hmg⟩ := widr_fin hf
    rw [widen_word hf] at hr
    simp only [Option.some.injEq] at hr
    obtain ⟨v1, v2, _⟩ := D64.word_rg (x / 2147483648 % 2 == 1) (widr x) (Nat.le_of_lt hw)
    rw [hr] at v1 v2
    rw [h1] at v2
    have h200 : widr 1128792064 = 4641240890982006784 := by decide +kernel
    have hlt : 4641240890982006784 < widr x := by
      rw [← h200]
      exact widr_strict (x := 1128792064) h2 hf
    have hself : FloatKind.f64.format.order r r = some .eq := by
      rw [order_self_64, if_neg (by unfold D64.rg at v1; omega)]
    refine ⟨hself, ?_⟩
    rw [D64.order_mix (y := 4641240890982006784) (by rw [v1]; exact hw) (by decide) v2 (by decide) (by decide), D64.order_neg (y := 13864612927836782592) (by rw [v1]; exact hw) (by decide) v2 (by decide), v1]
    exact ⟨rfl, decide_eq_true (by show 4641240890982006784 < widr x; exact hlt)⟩
  · have : x = 4286578688 := by rw [beq_iff_eq] at h1; unfold rg at *; omega
    subst this
    have : cvt .f32 4286578688 .f64 = some 18442240474082181120 := by decide +kernel
    rw [this] at hr
    obtain rfl : 18442240474082181120 = r := by simpa using hr
    decide +kernel
theorem xS_none : xS none 8 = none := rfl



theorem expO_ne (X : Option Nat) : ∃ z, Is32 (expO X) z := Is32.ne _ fun b hb => by
  cases X with
  | none => cases hb
  | some x =>
    unfold expO at hb
    simp only [Option.bind_some] at hb
    split at hb
    · simp only [Option.some.injEq] at hb; omega
    · split at hb
      · simp only [Option.some.injEq] at hb; omega
      · exact cvtF32_lt hb
end Go.Proofs.Ytdmcjloaommnpaa
