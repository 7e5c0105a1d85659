/- Roots of numbers that may be no numbers: the program and its model alike. -/
import Derived.Test.YtdmcjloaommnpaaSqrt
import Derived.Test.YtdmcjloaommnpaaFk
namespace Go.Proofs.Ytdmcjloaommnpaa
open Go.RowKit
set_option linter.unusedVariables false

/-- The root of what a 32-bit number is, widened. -/
def rootF (x : Nat) : Option Nat := (cvt .f32 x .f64).bind FloatKind.f64.format.sqrt

theorem root_narrow {x z : Nat} (h : Rp .f64 (rootF x) z) : tooGreat .f64 z .f32 = false := by
  unfold rootF at h
  rcases widen_cases x with ⟨r, hr, hs⟩ | ⟨r, hr, s, hs⟩ | hr
  · rw [hr] at h
    simp only [Option.bind_some] at h
    cases hq : FloatKind.f64.format.sqrt r with
    | none => rw [hq] at h; exact nan_narrow h
    | some q => rw [hq] at h; obtain rfl : z = q := h; exact narrow_ok (sqrt_small hs hq) (by decide)
  · rw [hr] at h
    simp only [Option.bind_some] at h
    have hd0 : FloatKind.f64.format.sqrt r = ((FloatKind.f64.decode r).root 54).map Ieee.double.write := rfl
    rw [hd0, hs] at h
    cases s with
    | true => exact nan_narrow h
    | false =>
      obtain rfl : z = Ieee.double.write (.infinity false) := h
      exact narrow_inf fun s m i hd => by
        have : FloatKind.f64.decode (Ieee.double.write (.infinity false)) = .infinity false := by decide +kernel
        rw [this] at hd; cases hd
  · rw [hr] at h; exact nan_narrow h

theorem cvt32_lt {b r : Nat} (h : cvt .f64 b .f32 = some r) : r < 4294967296 := by
  unfold cvt at h
  rw [if_neg (by decide)] at h
  cases hd : FloatKind.f64.decode b with
  | nan _ _ => rw [hd] at h; cases h
  | infinity g =>
    rw [hd] at h
    simp only [Option.some.injEq] at h
    rw [← h]
    exact write_lt32 _
  | number g m e =>
    rw [hd] at h
    simp only [Option.some.injEq] at h
    rw [← h]
    exact write_lt32 _
theorem cvtF32_lt {O : Option Nat} {r : Nat} (h : cvtF .f64 .f32 O = some r) : r < 4294967296 := by
  cases O with
  | none => cases h
  | some q => exact cvt32_lt h
theorem Is32.cvtF {O : Option Nat} {z : Nat} (h : Rp .f32 (cvtF .f64 .f32 O) z) : Is32 (cvtF .f64 .f32 O) z := by
  refine ⟨h, ?_⟩
  cases ho : Go.Proofs.Ytdmcjloaommnpaa.cvtF .f64 .f32 O with
  | none => rw [ho] at h; exact h.2
  | some r => rw [ho] at h; obtain rfl : z = r := h; exact cvtF32_lt ho
theorem widen_nan {x : Nat} (h : (FloatKind.f32.decode x).isNaN = true) : cvt .f32 x .f64 = none := by
  unfold cvt
  rw [if_neg (by decide)]
  obtain ⟨s, f, hd⟩ := decode_nan h
  have hd' : FloatKind.f32.decode x = .nan s f := hd
  rw [hd']

/-- The root of a number that may be no number. -/
def rootO (X : Option Nat) : Option Nat := X.bind fun x => cvtF .f64 .f32 (rootF x)
theorem rootO_is {X : Option Nat} {x z : Nat} (hx : Is32 X x) (hz : Rp .f32 (cvtF .f64 .f32 (rootF x)) z) : Is32 (rootO X) z := by
  cases X with
  | some b => obtain rfl := hx.eq; exact Is32.cvtF hz
  | none =>
    have h0 : rootF x = none := by
      unfold rootF
      rw [widen_nan hx.1.1]; rfl
    rw [h0] at hz
    exact ⟨hz, hz.2⟩
theorem rootO_ne (X : Option Nat) : ∃ z, Is32 (rootO X) z := Is32.ne _ fun b hb => by
  cases X with
  | none => cases hb
  | some x => exact cvtF32_lt hb

set_option maxRecDepth 100000 in
set_option maxHeartbeats 400000 in
theorem l01Sqrt_o {X : Option Nat} {x : Nat} (w : World) (hx : Is32 X x) : Calls Try.prog 64 #[.float .f32 x] w (NumQ (rootO X) w) := by
  have Hg := Lib.hid (fun a b ha hb => root_narrow (x := x) (z := b) (Rp.sqrt (x := a) ha hb))
  have Hx := Lib.hid hx
  clear hx
  go_enter Try.func64, Try.ntmps64
  go_wp2_with (first | (refine wpList_cvt rfl _ _ _ rfl .f32 .f64 _ rfl (by kernel_rfl) Try.underlying30 (widen_ok _) ?_; intro y n hy) | (go_at_call 98; refine (mathSqrt_any _ _).mono ?_; rintro e w' ⟨r, m, rfl, rfl, hr⟩) | (refine wpList_cvt rfl _ _ _ rfl .f64 .f32 _ rfl (by kernel_rfl) Try.underlying26 (Hg.out _ _ (by assumption) (by assumption)) ?_; intro z q hz) | go_in | go_back)
  go_ret
  exact ⟨_, rfl, rootO_is Hx.out (Rp.cvtF (by decide) (Rp.sqrt (by assumption) (by assumption)) (by assumption)), _, rfl⟩

set_option maxRecDepth 100000 in
set_option maxHeartbeats 400000 in
theorem rootNumber_o {X : Option Nat} {x : Nat} (w : World) (hx : Is32 X x) : Calls Try.prog 67 #[.float .f32 x] w (NumQ (rootO X) w) := by
  have Hg := Lib.hid (fun a b ha hb => root_narrow (x := x) (z := b) (Rp.sqrt (x := a) ha hb))
  have Hx := Lib.hid hx
  clear hx
  go_enter Try.func67, Try.ntmps67
  go_wp2_with (first | (refine wpList_cvt rfl _ _ _ rfl .f32 .f64 _ rfl (by kernel_rfl) Try.underlying30 (widen_ok _) ?_; intro y n hy) | (go_at_call 98; refine (mathSqrt_any _ _).mono ?_; rintro e w' ⟨r, m, rfl, rfl, hr⟩) | (refine wpList_cvt rfl _ _ _ rfl .f64 .f32 _ rfl (by kernel_rfl) Try.underlying26 (Hg.out _ _ (by assumption) (by assumption)) ?_; intro z q hz) | go_in | go_back)
  go_ret
  exact ⟨_, rfl, rootO_is Hx.out (Rp.cvtF (by decide) (Rp.sqrt (by assumption) (by assumption)) (by assumption)), _, rfl⟩
end Go.Proofs.Ytdmcjloaommnpaa
