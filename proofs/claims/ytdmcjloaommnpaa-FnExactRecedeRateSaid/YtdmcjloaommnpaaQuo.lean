/- Numbers divided by 1; sums with what is not finite: plain facts on 32-bit numbers. -/
import Derived.Test.YtdmcjloaommnpaaFloOps
namespace Go.Proofs.Ytdmcjloaommnpaa

theorem log2_shiftQ (m k : Nat) (hm : m ≠ 0) : (m <<< k).log2 = m.log2 + k := by
  rw [Nat.shiftLeft_eq, Nat.log2_eq_iff (Nat.mul_ne_zero hm (Nat.ne_of_gt (Nat.two_pow_pos k)))]
  have h1 : 2 ^ m.log2 ≤ m := Nat.log2_self_le hm
  have h2 : m < 2 ^ (m.log2 + 1) := Nat.lt_log2_self
  constructor
  · rw [Nat.pow_add]; exact Nat.mul_le_mul_right _ h1
  · rw [show m.log2 + k + 1 = (m.log2 + 1) + k by omega, Nat.pow_add]
    exact Nat.mul_lt_mul_of_pos_right h2 (Nat.two_pow_pos k)

theorem cut_backQ (neg : Bool) (m k : Nat) (hm : m ≠ 0) : Ieee.Toward.even.cut neg (m <<< k) k = m := by
  unfold Ieee.Toward.cut
  simp only
  rw [log2_shiftQ m k hm, Nat.min_eq_left (by omega), Nat.shiftLeft_eq, Nat.shiftLeft_eq, Nat.one_mul, Nat.mul_div_cancel _ (Nat.two_pow_pos k), Nat.mul_mod_left]
  simp

/-- What a 32-bit number tells, told with more digits, is written as the number. -/
theorem write_back (x : Nat) (hx : x < 4294967296) (g : Bool) (m : Nat) (e : Int) (h : FloatKind.f32.decode x = .number g m e) (k : Nat) : Ieee.single.nearest g (m <<< k) (e - k) = x := by
  have hl : m ≠ 0 → m.log2 ≤ 23 := fun h0 => by
    have := (single_parts h).1
    have : m.log2 < 24 := (Nat.log2_lt h0).2 this
    omega
  have hcore : m ≠ 0 → max (e + m.log2 - 23) (-149) = e → Ieee.single.nearest g (m <<< k) (e - k) = Ieee.single.word g (min ((e + 149).toNat * 8388608 + m) 2139095040) := by
    intro h0 hlast
    have hne : m <<< k ≠ 0 := by rw [Nat.shiftLeft_eq]; exact Nat.mul_ne_zero h0 (Nat.ne_of_gt (Nat.two_pow_pos k))
    unfold Ieee.Format.nearest
    rw [if_neg hne]
    simp only [log2_shiftQ m k h0]
    have h1 : max (e - (k : Int) + ((m.log2 + k : Nat) : Int) - (Ieee.single.fractionBits : Int)) Ieee.single.leastPlace = e := by
      have : Ieee.single.leastPlace = -149 := by decide
      rw [this]
      show max (e - (k : Int) + ((m.log2 + k : Nat) : Int) - 23) (-149) = e
      rw [← hlast]
      congr 1
      omega
    rw [h1]
    have h2 : (e - (k : Int) - e).toNat = 0 := by omega
    have h3 : (e - (e - (k : Int))).toNat = k := by omega
    rw [h2, h3, Nat.shiftLeft_zero, cut_backQ g m k h0]
    have h4 : e - Ieee.single.leastPlace = e + 149 := by
      have : Ieee.single.leastPlace = -149 := by decide
      omega
    rw [h4]
    rfl
  have hword : ∀ r, r = x % 2147483648 → g = (x / 2147483648 % 2 == 1) → Ieee.single.word g r = x := by
    intro r hr hg
    unfold Ieee.Format.word
    have hw : Ieee.single.signWeight = 2147483648 := by decide
    rw [hw]
    have h2 : x / 2147483648 < 2 := by omega
    cases hgb : g
    · rw [hgb] at hg
      have : x / 2147483648 % 2 ≠ 1 := by intro hh; rw [hh] at hg; exact absurd hg (by decide)
      simp; omega
    · rw [hgb] at hg
      have : x / 2147483648 % 2 = 1 := by simpa using hg.symm
      simp; omega
  rw [read_single] at h
  split at h
  · rename_i h1
    simp only [Ieee.Datum.number.injEq] at h
    obtain ⟨hg, hm, he⟩ := h
    by_cases h0 : m = 0
    · subst h0
      rw [Nat.zero_shiftLeft]
      unfold Ieee.Format.nearest
      rw [if_pos rfl]
      exact hword 0 (by omega) hg.symm
    · have hm2 : m.log2 < 23 := (Nat.log2_lt h0).2 (by omega)
      rw [hcore h0 (by omega), ← he]
      refine hword _ ?_ hg.symm
      rw [Nat.min_eq_left (by show (-149 + 149 : Int).toNat * 8388608 + m ≤ _; omega)]
      show (-149 + 149 : Int).toNat * 8388608 + m = _
      omega
  · split at h
    · rename_i h1 h2
      simp only [Ieee.Datum.number.injEq] at h
      obtain ⟨hg, hm, he⟩ := h
      have hmb : m < 16777216 := by have := Nat.mod_lt (x % 2147483648) (show 8388608 > 0 by decide); omega
      have h0 : m ≠ 0 := by omega
      have hlg : m.log2 = 23 := (Nat.log2_eq_iff h0).2 ⟨by show 8388608 ≤ m; omega, by show m < 16777216; exact hmb⟩
      have he2 : (-149 : Int) ≤ e := by omega
      rw [hcore h0 (by rw [hlg]; omega)]
      refine hword _ ?_ hg.symm
      have he3 : (e + 149).toNat = x % 2147483648 / 8388608 - 1 := by omega
      rw [he3]
      have hq : 1 ≤ x % 2147483648 / 8388608 := by omega
      rw [Nat.min_eq_left (by omega)]
      omega
    · split at h <;> cases h

/-- A number divided by 1 is itself. -/
theorem quo_one (x : Nat) (hx : x < 4294967296) (hn : (FloatKind.f32.decode x).isNaN = false) : floatBits .quo .f32 x 1065353216 = some x := by
  have hone : FloatKind.f32.decode 1065353216 = .number false 8388608 (-23) := by decide +kernel
  show ((FloatKind.f32.decode x).quotient 25 (FloatKind.f32.decode 1065353216)).map FloatKind.f32.format.write = some x
  rw [hone]
  cases hd : FloatKind.f32.decode x with
  | nan s f => rw [hd] at hn; cases hn
  | infinity s =>
    simp only [Ieee.Datum.quotient, Option.map_some, Bool.xor_false, Ieee.Format.write]
    congr 1
    rw [read_single] at hd
    split at hd
    · cases hd
    · split at hd
      · cases hd
      · split at hd
        · simp only [Ieee.Datum.infinity.injEq] at hd
          have h2 : x / 2147483648 < 2 := by omega
          show Ieee.single.word s 2139095040 = x
          unfold Ieee.Format.word
          have hw : Ieee.single.signWeight = 2147483648 := by decide
          rw [hw]
          cases s
          · have : x / 2147483648 % 2 ≠ 1 := by intro hh; rw [hh] at hd; exact absurd hd (by decide)
            simp; omega
          · have : x / 2147483648 % 2 = 1 := by simpa using hd
            simp; omega
        · cases hd
  | number s m e =>
    have hp := single_parts hd
    have hq : (Ieee.Datum.number s m e).quotient 25 (.number false 8388608 (-23)) = some (.number s (m <<< (25 + 23 - m.log2 - 22)) (e - ((25 + 23 - m.log2 - 22 : Nat) : Int))) := by
      have hl2 : Nat.log2 8388608 = 23 := by decide +kernel
      have hml : m.log2 ≤ 23 := by
        by_cases h0 : m = 0
        · subst h0; decide
        · have : m.log2 < 24 := (Nat.log2_lt h0).2 hp.1
          omega
      simp only [Ieee.Datum.quotient, hl2]
      rw [if_neg (by decide)]
      simp only [Bool.xor_false]
      obtain ⟨t, ht⟩ : ∃ t, 25 + 23 - m.log2 = t + 23 := ⟨25 - m.log2, by omega⟩
      rw [ht]
      have e1 : m <<< (t + 23) = (m * 2 ^ t) * 8388608 := by rw [Nat.shiftLeft_eq, Nat.pow_add, ← Nat.mul_assoc]
      rw [e1, Nat.mul_div_cancel _ (by decide), Nat.mul_mod_left]
      have e2 : m <<< (t + 23 - 22) = 2 * (m * 2 ^ t) := by
        rw [show t + 23 - 22 = t + 1 by omega, Nat.shiftLeft_eq, Nat.pow_succ, Nat.mul_comm 2, Nat.mul_assoc]
      rw [e2]
      simp
      omega
    rw [hq]
    simp only [Option.map_some, Ieee.Format.write]
    congr 1
    exact write_back x hx s m e hd _

def fin32' (x : Nat) : Bool := decide (x % 2147483648 < 2139095040)
theorem not_fin32 {x : Nat} (h : fin32' x = false) : (∃ s, FloatKind.f32.decode x = .infinity s) ∨ (FloatKind.f32.decode x).isNaN = true := by
  unfold fin32' at h
  rw [decide_eq_false_iff_not] at h
  rw [read_single, if_neg (by omega), if_neg h]
  split
  · exact .inl ⟨_, rfl⟩
  · exact .inr rfl
theorem fin32_decode {x : Nat} (h : ∀ s m e, FloatKind.f32.decode x ≠ .number s m e) : fin32' x = false := by
  unfold fin32'
  rw [decide_eq_false_iff_not]
  intro hf
  rw [read_single] at h
  split at h
  · exact h _ _ _ rfl
  · exact h _ _ _ rfl

/-- What is not finite stays so under sums. -/
theorem add_not_fin (x y z : Nat) (h : fin32' x = false) (hz : Rp .f32 (floatBits .add .f32 x y) z) : fin32' z = false := by
  have hd : floatBits .add .f32 x y = ((FloatKind.f32.decode x).sum (FloatKind.f32.decode y)).map FloatKind.f32.format.write := rfl
  rw [hd] at hz
  have hnan : ∀ r, Rp .f32 none r → fin32' r = false := fun r hr => fin32_decode fun s m e he => by have := hr.1; rw [he] at this; cases this
  have hinf : ∀ s, fin32' (FloatKind.f32.format.write (.infinity s)) = false := fun s => by cases s <;> decide +kernel
  rcases not_fin32 h with ⟨s, hs⟩ | hs
  · rw [hs] at hz
    cases hy : FloatKind.f32.decode y with
    | nan t f => rw [hy] at hz; exact hnan z hz
    | infinity t =>
      rw [hy] at hz
      simp only [Ieee.Datum.sum] at hz
      split at hz
      · obtain rfl : z = _ := hz
        exact hinf s
      · exact hnan z hz
    | number t m e =>
      rw [hy] at hz
      obtain rfl : z = _ := hz
      exact hinf s
  · obtain ⟨s, f, hsf⟩ : ∃ s f, FloatKind.f32.decode x = .nan s f := by
      cases hx : FloatKind.f32.decode x with
      | nan s f => exact ⟨s, f, rfl⟩
      | infinity s => rw [hx] at hs; cases hs
      | number s m e => rw [hx] at hs; cases hs
    rw [hsf] at hz
    exact hnan z hz
end Go.Proofs.Ytdmcjloaommnpaa
