/- How great results can be: coarse bounds, so that narrowing is never too great. -/
import Derived.Test.YtdmcjloaommnpaaFloOps
namespace Go.Proofs.Ytdmcjloaommnpaa

/-- The number, or none, of few places above the least. -/
def Sm (E : Nat) (x : Nat) : Prop := x % 9223372036854775808 ≤ (E + 1) * 4503599627370496

theorem dparts {x E : Nat} {s : Bool} {m : Nat} {i : Int} (hx : Sm E x) (h : FloatKind.f64.decode x = .number s m i) : m < 9007199254740992 ∧ -1074 ≤ i ∧ i ≤ E - 1074 := by
  unfold Sm at hx
  rw [read_double] at h
  split at h
  · simp only [Ieee.Datum.number.injEq] at h; omega
  · split at h
    · simp only [Ieee.Datum.number.injEq] at h
      have := Nat.mod_lt (x % 9223372036854775808) (show 4503599627370496 > 0 by decide)
      omega
    · split at h <;> cases h

theorem sm_nearest (neg : Bool) (mag : Nat) (place : Int) (n : Nat) (hm : mag < 2 ^ n) (E : Nat) (hE1 : 1 ≤ E) (hE : place + n + 1022 ≤ E) : Sm E (Ieee.double.nearest neg mag place) := by
  obtain ⟨r, hr, he⟩ := nearest_small Ieee.double neg mag place n hm E hE1 (by simp only [Ieee.Format.leastPlace, Ieee.double]; omega)
  have hb : Ieee.double.binade = 4503599627370496 := by decide +kernel
  have hs : Ieee.double.signWeight = 9223372036854775808 := by decide +kernel
  have hi : Ieee.double.infRung = 9218868437227405312 := by decide +kernel
  rw [hb] at hr
  unfold Sm
  rw [he, ← hs, word_mod Ieee.double neg _ (by rw [hs, hi]; omega), hi]
  omega

/-- What is not too great for 32 bits. -/
theorem narrow_ok {x E : Nat} (h : Sm E x) (hE : E ≤ 1147) : tooGreat .f64 x .f32 = false := by
  unfold tooGreat
  rw [if_neg (by decide)]
  cases hd : FloatKind.f64.decode x with
  | nan g f => rfl
  | infinity g => rfl
  | number g m e =>
    obtain ⟨h1, h2, h3⟩ := dparts h hd
    show (Ieee.single.read (Ieee.single.nearest g m e)).isInfinity = false
    exact not_inf_of_small Ieee.single g m e 53 (by simpa using h1) 252 (by decide) (by simp only [Ieee.Format.leastPlace, Ieee.single]; omega) (by decide +kernel) (by decide +kernel)

theorem narrow_inf {x : Nat} (h : ∀ s m i, FloatKind.f64.decode x ≠ .number s m i) : tooGreat .f64 x .f32 = false := by
  unfold tooGreat
  rw [if_neg (by decide)]
  cases hd : FloatKind.f64.decode x with
  | nan g f => rfl
  | infinity g => rfl
  | number g m e => exact absurd hd (h g m e)

theorem read_word_inf (neg : Bool) : ∃ s, FloatKind.f64.decode (Ieee.double.word neg Ieee.double.infRung) = .infinity s := by
  cases neg
  · exact ⟨false, by decide +kernel⟩
  · exact ⟨true, by decide +kernel⟩

theorem widen_cases (x : Nat) : (∃ r, cvt .f32 x .f64 = some r ∧ Sm 1151 r) ∨ (∃ r, cvt .f32 x .f64 = some r ∧ ∃ s, FloatKind.f64.decode r = .infinity s) ∨ cvt .f32 x .f64 = none := by
  unfold cvt
  rw [if_neg (by decide)]
  cases hd : FloatKind.f32.decode x with
  | nan g f => exact .inr (.inr rfl)
  | infinity g => exact .inr (.inl ⟨_, rfl, read_word_inf g⟩)
  | number g m e =>
    obtain ⟨h1, h2, h3⟩ := single_parts hd
    exact .inl ⟨_, rfl, sm_nearest g m e 24 h1 1151 (by decide) (by omega)⟩

theorem rootFrom_le (n : Nat) : ∀ (todo root : Nat), Ieee.Datum.rootFrom n todo root + 1 ≤ root + 2 ^ todo
  | 0, root => by simp [Ieee.Datum.rootFrom]
  | todo + 1, root => by
    unfold Ieee.Datum.rootFrom
    have h1 := rootFrom_le n todo (root + 1 <<< todo)
    have h2 := rootFrom_le n todo root
    have e : 1 <<< todo = 2 ^ todo := by rw [Nat.shiftLeft_eq, Nat.one_mul]
    rw [e] at h1 ⊢
    simp only
    rw [Nat.pow_succ]
    split <;> omega

theorem log2_shift (m k : Nat) (h0 : m ≠ 0) : (m <<< k).log2 = m.log2 + k := by
  rw [Nat.shiftLeft_eq]
  have hp := Nat.two_pow_pos k
  have hne : m * 2 ^ k ≠ 0 := by
    intro h
    rcases Nat.mul_eq_zero.1 h with h | h <;> omega
  refine (Nat.log2_eq_iff hne).2 ⟨?_, ?_⟩
  · rw [Nat.pow_add]; exact Nat.mul_le_mul_right _ (Nat.log2_self_le h0)
  · rw [show m.log2 + k + 1 = (m.log2 + 1) + k by omega, Nat.pow_add]; exact Nat.mul_lt_mul_of_pos_right Nat.lt_log2_self hp

theorem sqrt_small {x r : Nat} (hx : Sm 1151 x) (h : FloatKind.f64.format.sqrt x = some r) : Sm 1147 r := by
  have hd0 : FloatKind.f64.format.sqrt x = ((FloatKind.f64.decode x).root 54).map Ieee.double.write := rfl
  rw [hd0] at h
  cases hd : FloatKind.f64.decode x with
  | nan g f => rw [hd] at h; cases h
  | infinity g =>
    exfalso
    have : (FloatKind.f64.decode x).isInfinity = true := by rw [hd]; rfl
    have h2 : x % Ieee.double.signWeight = Ieee.double.infRung := read_inf this
    have hs : Ieee.double.signWeight = 9223372036854775808 := by decide +kernel
    have hi : Ieee.double.infRung = 9218868437227405312 := by decide +kernel
    rw [hs, hi] at h2
    unfold Sm at hx; omega
  | number s m i =>
    obtain ⟨h1, h2, h3⟩ := dparts hx hd
    rw [hd] at h
    unfold Ieee.Datum.root at h
    simp only at h
    split at h
    · rename_i h0
      simp only [Option.map_some, Option.some.injEq] at h
      subst h0; subst h
      exact sm_nearest s 0 i 1 (by decide) 1147 (by decide) (by omega)
    · rename_i h0
      split at h
      · cases h
      · simp only [Option.map_some, Option.some.injEq] at h
        subst h
        generalize hmore : 2 * 54 - m.log2 + ((i - ↑(2 * 54 - m.log2)) % 2).toNat = more
        have hl : m.log2 < 53 := (Nat.log2_lt h0).2 (by simpa using h1)
        have hn : (m <<< more).log2 = m.log2 + more := by
          exact log2_shift m more h0
        have hw := rootFrom_le (m <<< more) ((m <<< more).log2 / 2 + 1) 0
        rw [hn] at hw ⊢
        generalize Ieee.Datum.rootFrom (m <<< more) ((m.log2 + more) / 2 + 1) 0 = whole at *
        have ht : ((whole * whole != m <<< more)).toNat ≤ 1 := Bool.toNat_le _
        refine sm_nearest false _ _ ((m.log2 + more) / 2 + 2) ?_ 1147 (by decide) (by omega)
        rw [show (m.log2 + more) / 2 + 2 = ((m.log2 + more) / 2 + 1) + 1 by omega, Nat.pow_succ]
        omega
end Go.Proofs.Ytdmcjloaommnpaa
