/- What a number is without its sign: plain facts on 32-bit numbers. -/
import Derived.Test.YtgjgggclcmcpgacHalf
import Derived.Test.YtgjgggclcmcpgacWideD
import Derived.Test.YtgjgggclcmcpgacRootO
namespace Go.Proofs.Ytgjgggclcmcpgac
set_option linter.unusedVariables false
set_option maxRecDepth 100000

/-- Without its sign. -/
def absO (X : Option Nat) : Option Nat := X.map (· % 2147483648)

theorem neg_decode {x : Nat} {s : Bool} {m : Nat} {e : Int} (h : FloatKind.f32.decode x = .number s m e) : FloatKind.f32.decode (x % 2147483648) = .number false m e := by
  rw [read_single] at h ⊢
  have h1 : x % 2147483648 % 2147483648 = x % 2147483648 := Nat.mod_mod _ _
  have h2 : (x % 2147483648 / 2147483648 % 2 == 1) = false := by
    rw [beq_eq_false_iff_ne]; omega
  rw [h1, h2]
  split at h
  · rename_i h3
    rw [if_pos h3]
    simp only [Ieee.Datum.number.injEq] at h
    obtain ⟨_, rfl, rfl⟩ := h
    rfl
  · rename_i h3
    rw [if_neg h3]
    split at h
    · rename_i h4
      rw [if_pos h4]
      simp only [Ieee.Datum.number.injEq] at h
      obtain ⟨_, rfl, rfl⟩ := h
      rfl
    · split at h <;> cases h

/-- 0 less a number that is not greater than 0, is it without its sign. -/
theorem zero_sub (x : Nat) (hx : x < 4294967296) (h : FloatKind.f32.format.order x 0 = some .lt ∨ FloatKind.f32.format.order x 0 = some .eq) : floatBits .sub .f32 0 x = some (x % 2147483648) := by
  have hd : floatBits .sub .f32 0 x = ((FloatKind.f32.decode 0).sum (FloatKind.f32.decode x).opposite).map Ieee.single.write := rfl
  have ho : FloatKind.f32.format.order x 0 = (FloatKind.f32.decode x).order (FloatKind.f32.decode 0) := rfl
  have h0 : FloatKind.f32.decode 0 = .number false 0 (-149) := by decide +kernel
  rw [ho, h0] at h
  rw [hd, h0]
  cases hx2 : FloatKind.f32.decode x with
  | nan s f => rw [hx2] at h; rcases h with h | h <;> cases h
  | infinity s =>
    rw [hx2] at h
    have hr : x % 2147483648 = 2139095040 := by
      rw [read_single] at hx2
      split at hx2
      · cases hx2
      · split at hx2
        · cases hx2
        · split at hx2
          · assumption
          · cases hx2
    cases s with
    | false => rcases h with h | h <;> simp [Ieee.Datum.order] at h
    | true =>
      rw [hr]
      decide +kernel
  | number s m e =>
    have hp := single_parts hx2
    obtain ⟨k, rfl⟩ : ∃ k : Nat, e = -149 + k := ⟨(e + 149).toNat, by omega⟩
    rw [hx2] at h
    have hle : Ieee.signed s m k ≤ 0 := by
      simp only [Ieee.Datum.order] at h
      have e1 : min (-149 + (k : Int)) (-149) = -149 := by omega
      rw [e1, show (-149 + (k : Int) - -149).toNat = k by omega] at h
      have e2 : Ieee.signed false 0 (-149 - -149 : Int).toNat = 0 := rfl
      rw [e2] at h
      have hcmp : ∀ a : Int, (some (compare a 0) = some Ordering.lt ∨ some (compare a 0) = some Ordering.eq) → a ≤ 0 := by
        intro a ha
        have hdef : compare a 0 = compareOfLessAndEq a 0 := rfl
        rw [hdef] at ha
        unfold compareOfLessAndEq at ha
        split at ha
        · omega
        · split at ha
          · omega
          · rcases ha with ha | ha <;> cases ha
      exact hcmp _ h
    have hneg : Ieee.signed (!s) m k = ((m * 2 ^ k : Nat) : Int) := by
      unfold Ieee.signed at hle ⊢
      rw [Nat.shiftLeft_eq] at hle ⊢
      cases s
      · simp only [Bool.false_eq_true, if_false] at hle
        simp only [Bool.not_false, if_true]
        omega
      · rfl
    simp only [Ieee.Datum.opposite, Ieee.Datum.sum]
    have e1 : min (-149) (-149 + (k : Int)) = -149 := by omega
    rw [e1, show (-149 + (k : Int) - -149).toNat = k by omega, hneg]
    have e2 : Ieee.signed false 0 (-149 - -149 : Int).toNat = 0 := rfl
    rw [e2, Int.zero_add, Int.natAbs_natCast]
    have e3 : (if ((m * 2 ^ k : Nat) : Int) = 0 then false && !s else decide (((m * 2 ^ k : Nat) : Int) < 0)) = false := by
      split
      · rfl
      · rw [decide_eq_false]; omega
    rw [e3]
    simp only [Option.map_some, Ieee.Format.write]
    have hw := write_back (x % 2147483648) (by omega) false m (-149 + k) (neg_decode hx2) k
    rw [Nat.shiftLeft_eq, show (-149 + (k : Int) - k) = -149 by omega] at hw
    rw [hw]

theorem absO_le {X : Option Nat} {x : Nat} (hx : Is32 X x) (h : fcmp .leq .f32 X (some 0) = true) : fop .sub .f32 (some 0) X = absO X := by
  cases X with
  | none => cases h
  | some b =>
    obtain rfl := hx.eq
    refine zero_sub x hx.2 ?_
    simp only [fcmp, ford, Option.bind_some, Bool.or_eq_true, beq_iff_eq] at h
    exact h
/-- What is written is no not-a-number. -/
theorem write_num {d : Ieee.Datum} (h : ∀ s f, d ≠ .nan s f) : Ieee.single.write d % 2147483648 ≤ 2139095040 := by
  have hinf : Ieee.single.infRung = 2139095040 := by decide +kernel
  have hw : Ieee.single.signWeight = 2147483648 := by decide
  have key : ∀ s r, r ≤ 2139095040 → Ieee.single.word s r % 2147483648 ≤ 2139095040 := fun s r hr => by
    have := word_mod Ieee.single s r (by rw [hw]; omega)
    rw [hw] at this; omega
  cases d with
  | nan s f => exact absurd rfl (h s f)
  | infinity s => exact key s _ (by rw [hinf]; exact Nat.le_refl _)
  | number s m e =>
    show Ieee.single.nearest s m e % _ ≤ _
    unfold Ieee.Format.nearest
    split
    · exact key _ _ (by omega)
    · refine key _ _ ?_
      rw [hinf]
      exact Nat.min_le_right _ _
/-- A quotient that is told is no not-a-number. -/
theorem quo_num {X Y : Option Nat} {b : Nat} (h : fop .quo .f32 X Y = some b) : b % 2147483648 ≤ 2139095040 := by
  cases X with
  | none => cases h
  | some x =>
    cases Y with
    | none => cases h
    | some y =>
      have h2 : ((FloatKind.f32.decode x).quotient 25 (FloatKind.f32.decode y)).map Ieee.single.write = some b := h
      obtain ⟨d, hd, rfl⟩ := Option.map_eq_some_iff.1 h2
      refine write_num fun s f hn => ?_
      subst hn
      cases hx : FloatKind.f32.decode x <;> cases hy : FloatKind.f32.decode y <;> rw [hx, hy] at hd <;> simp only [Ieee.Datum.quotient] at hd <;> first | (cases hd; done) | (split at hd <;> first | (cases hd; done) | (split at hd <;> cases hd))

theorem absO_gt {X : Option Nat} {x : Nat} (hx : Is32 X x) (hn : ∀ b, X = some b → b % 2147483648 ≤ 2139095040) (h : fcmp .leq .f32 X (some 0) = false) : absO X = X := by
  cases X with
  | none => rfl
  | some b =>
    obtain rfl := hx.eq
    have h1 := hn x rfl
    simp only [fcmp, ford, Option.bind_some, Bool.or_eq_false_iff, beq_eq_false_iff_ne] at h
    show some (x % 2147483648) = some x
    by_cases hnn : NN x
    · rcases hnn with h2 | h2
      · rw [Nat.mod_eq_of_lt (by omega)]
      · subst h2
        exact absurd (by decide +kernel) h.2
    · rcases not_nn hx.2 hnn with h2 | h2
      · exfalso
        have h3 : FloatKind.f32.format.order x 0 = (FloatKind.f32.decode x).order (FloatKind.f32.decode 0) := rfl
        have h0 : FloatKind.f32.decode 0 = .number false 0 (-149) := by decide +kernel
        have hnan := nan32_iff x
        rw [decide_eq_false (by omega)] at hnan
        rw [h3, h0] at h2
        cases hd : FloatKind.f32.decode x with
        | nan s f => rw [hd] at hnan; cases hnan
        | infinity s => rw [hd] at h2; cases h2
        | number s m e => rw [hd] at h2; cases h2
      · exact absurd h2 h.1
def sizeO (X : Option Nat) : Option Nat := if fcmp .leq .f32 X (some 0) then fop .sub .f32 (some 0) X else X
theorem sizeO_quo (X Y : Option Nat) : sizeO (fop .quo .f32 X Y) = absO (fop .quo .f32 X Y) := by
  obtain ⟨x, hx⟩ := Is32.nef (op := .quo) (by decide) X Y
  unfold sizeO
  cases h : fcmp .leq .f32 (fop .quo .f32 X Y) (some 0)
  · exact (absO_gt hx (fun b hb => quo_num hb) h).symm
  · exact absO_le hx h

/-- Widened, its sign taken off, and narrowed. -/
theorem abs_wide {X : Option Nat} {x y : Nat} (hx : Is32 X x) (hn : ∀ b, X = some b → b % 2147483648 ≤ 2139095040) (hy : Rp .f64 (cvtF .f32 .f64 X) y) :
    y < 18446744073709551616 ∧ tooGreat .f64 (y % 9223372036854775808) .f32 = false ∧ ∀ z, Rp .f32 (cvt .f64 (y % 9223372036854775808) .f32) z → Is32 (absO X) z := by
  have hnan : (FloatKind.f64.decode y).isNaN = true → y < 18446744073709551616 → absO X = none → y < 18446744073709551616 ∧ tooGreat .f64 (y % 9223372036854775808) .f32 = false ∧ ∀ z, Rp .f32 (cvt .f64 (y % 9223372036854775808) .f32) z → Is32 (absO X) z := by
    intro h1 h2 h3
    have h4 : (FloatKind.f64.decode (y % 9223372036854775808)).isNaN = true := by
      rw [nan64_iff, decide_eq_true_eq] at h1 ⊢
      omega
    obtain ⟨s, f, hd⟩ := decode_nan h4
    have hd' : FloatKind.f64.decode (y % 9223372036854775808) = .nan s f := hd
    refine ⟨h2, ?_, fun z hz => ?_⟩
    · unfold tooGreat
      rw [if_neg (by decide), hd']
    · have hc : cvt .f64 (y % 9223372036854775808) .f32 = none := by
        unfold cvt
        rw [if_neg (by decide), hd']
      rw [hc] at hz
      rw [h3]
      exact ⟨hz, hz.2⟩
  cases X with
  | none => exact hnan hy.1 hy.2 rfl
  | some b =>
    obtain rfl := hx.eq
    have h1 := hn x rfl
    by_cases hf : rg x < 2139095040
    · have hy' : Rp .f64 (cvt .f32 x .f64) y := hy
      rw [widen_word hf] at hy'
      obtain rfl : y = _ := hy'
      have hw := D64.word_rg (x / 2147483648 % 2 == 1) (widr x) (Nat.le_of_lt (widr_fin hf).1)
      have hm : Ieee.double.word (x / 2147483648 % 2 == 1) (widr x) % 9223372036854775808 = widr x := hw.1
      rw [hm]
      obtain ⟨n1, n2⟩ := narrow_widr hf
      refine ⟨hw.2.2, n2, fun z hz => ?_⟩
      rw [n1] at hz
      exact ⟨hz, by obtain rfl : z = rg x := hz; unfold rg; omega⟩
    · have he : x % 2147483648 = 2139095040 := by unfold rg at hf; omega
      have hx2 := hx.2
      have hcase : x = 2139095040 ∨ x = 4286578688 := by omega
      have key : ∀ v, (v = 2139095040 ∨ v = 4286578688) → cvt .f32 v .f64 = some 9218868437227405312 ∨ cvt .f32 v .f64 = some 18442240474082181120 := by
        rintro v (rfl | rfl)
        · left; decide +kernel
        · right; decide +kernel
      have hy' : Rp .f64 (cvt .f32 x .f64) y := hy
      have hy2 : y = 9218868437227405312 ∨ y = 18442240474082181120 := by
        rcases key x hcase with h2 | h2
        · rw [h2] at hy'; exact .inl hy'
        · rw [h2] at hy'; exact .inr hy'
      have hy3 : y % 9223372036854775808 = 9218868437227405312 := by omega
      refine ⟨by omega, by rw [hy3]; decide +kernel, fun z hz => ?_⟩
      rw [hy3, show cvt .f64 9218868437227405312 .f32 = some 2139095040 by decide +kernel] at hz
      obtain rfl : z = 2139095040 := hz
      refine ⟨?_, by decide⟩
      show 2139095040 = x % 2147483648
      exact he.symm
end Go.Proofs.Ytgjgggclcmcpgac
