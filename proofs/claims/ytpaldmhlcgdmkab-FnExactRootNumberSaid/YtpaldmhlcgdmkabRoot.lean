/- Square roots: the program and its model alike; the walk of the law. -/
import Derived.Test.YtpaldmhlcgdmkabSame
import Derived.Test.YtpaldmhlcgdmkabSize
namespace Go.Proofs.Ytpaldmhlcgdmkab
open Go.RowKit

def RetF (k : FloatKind) (o : Option Nat) (w : World) (e : Ending) (w' : World) : Prop := ∃ r n, e = .returned (.float k r) ∧ w' = w.drewN n ∧ Rp k o r

theorem sqrt_ext (x : Nat) (w : World) : (callFunc 39 #[.float .f64 x]).run Try.prog w = ((Extern.MathSqrt.sqrt #[.float .f64 x]).run Try.prog w).andThen fun v w' => .ok (.value v) w' :=
  run_callFunc_extern Try.func39 (by kernel_rfl) (by kernel_rfl) (by kernel_rfl) (show Extern.find Try.f39 = some Extern.MathSqrt.sqrt by kernel_rfl) _ _

theorem sqrt_def (x : Nat) : Extern.MathSqrt.sqrt #[.float .f64 x] = (match FloatKind.f64.format.sqrt x with
    | some r => pure (.float .f64 r)
    | none => do pure (.float .f64 (← choose (.nanBits .f64 x x)))) := rfl

theorem sqrt_some {x r : Nat} (h : FloatKind.f64.format.sqrt x = some r) (w : World) : (callFunc 39 #[.float .f64 x]).run Try.prog w = .ok (.value (.float .f64 r)) w := by
  rw [sqrt_ext, sqrt_def, h]; rfl
theorem sqrt_none {x : Nat} (h : FloatKind.f64.format.sqrt x = none) (w : World) : (callFunc 39 #[.float .f64 x]).run Try.prog w = .ok (.value (.float .f64 ((Question.nanBits .f64 x x).cut (w.tape w.drawn (.nanBits .f64 x x))))) w.drew := by
  rw [sqrt_ext, sqrt_def, h]; rfl

set_option maxHeartbeats 400000 in
theorem mathSqrt_any (x : Nat) (w : World) : Calls Try.prog 29 #[.float .f64 x] w (RetF .f64 (FloatKind.f64.format.sqrt x) w) := by
  cases h : FloatKind.f64.format.sqrt x with
  | some r =>
    have hs := sqrt_some h
    clear h
    go_enter Try.func29, Try.ntmps29
    go_wp2_with fail
    go_ret
    exact ⟨_, 0, rfl, rfl, rfl⟩
  | none =>
    have hs := sqrt_none h
    clear h
    go_enter Try.func29, Try.ntmps29
    go_wp2_with fail
    go_ret
    exact ⟨_, 1, rfl, rfl, cutBits ..⟩

/-- The root of what a 32-bit number is, widened. -/
def rootF (x : Nat) : Option Nat := (cvt .f32 x .f64).bind FloatKind.f64.format.sqrt

theorem Rp.sqrt {X : Option Nat} {x z : Nat} (hx : Rp .f64 X x) (hz : Rp .f64 (FloatKind.f64.format.sqrt x) z) : Rp .f64 (X.bind FloatKind.f64.format.sqrt) z := by
  cases X with
  | none =>
    obtain ⟨s, f, hd⟩ := decode_nan hx.1
    have : FloatKind.f64.format.sqrt x = none := by unfold Ieee.Format.sqrt; rw [hd]; rfl
    rw [this] at hz; exact hz
  | some a => obtain rfl : x = a := hx; exact hz

theorem nan_narrow {z : Nat} (h : Rp .f64 none z) : tooGreat .f64 z .f32 = false := by
  refine narrow_inf fun s m i hd => ?_
  have := h.1
  rw [hd] at this; cases this

theorem root_narrow {x z : Nat} (h : Rp .f64 (rootF x) z) : tooGreat .f64 z .f32 = false := by
  unfold rootF at h
  rcases widen_cases x with ⟨r, hr, hs⟩ | ⟨r, hr, s, hs⟩ | hr
  · rw [hr] at h
    simp only [Option.bind_some] at h
    cases hq : FloatKind.f64.format.sqrt r with
    | none => rw [hq] at h; exact nan_narrow h
    | some q => rw [hq] at h; obtain rfl : z = q := h; exact narrow_ok (sqrt_small hs hq) (by decide)
  · rw [hr] at h
    simp only [Option.bind_some] at h
    have hd0 : FloatKind.f64.format.sqrt r = ((FloatKind.f64.decode r).root 54).map Ieee.double.write := rfl
    rw [hd0, hs] at h
    cases s with
    | true => exact nan_narrow h
    | false =>
      obtain rfl : z = Ieee.double.write (.infinity false) := h
      exact narrow_inf fun s m i hd => by
        have : FloatKind.f64.decode (Ieee.double.write (.infinity false)) = .infinity false := by decide +kernel
        rw [this] at hd; cases hd
  · rw [hr] at h; exact nan_narrow h

set_option maxHeartbeats 400000 in
theorem specRoot_any (x : Nat) (w : World) : Calls Try.prog 11 #[.float .f32 x] w (RetF .f32 (cvtF .f64 .f32 (rootF x)) w) := by
  have Hg := Lib.hid (fun a b ha hb => root_narrow (x := x) (z := b) (Rp.sqrt (x := a) ha hb))
  go_enter Try.func11, Try.ntmps11
  go_wp2_with (first | (refine wpList_cvt rfl _ _ _ rfl .f32 .f64 _ rfl (by kernel_rfl) Try.underlying22 (widen_ok _) ?_; intro y n hy) | (go_at_call 29; refine (mathSqrt_any _ _).mono ?_; rintro e w' ⟨r, m, rfl, rfl, hr⟩) | (refine wpList_cvt rfl _ _ _ rfl .f64 .f32 _ rfl (by kernel_rfl) Try.underlying28 (Hg.out _ _ (by assumption) (by assumption)) ?_; intro z q hz) | go_in | go_back)
  go_ret
  exact ⟨_, _, rfl, rfl, Rp.cvtF (by decide) (Rp.sqrt (by assumption) (by assumption)) (by assumption)⟩

set_option maxHeartbeats 400000 in
theorem implRoot_any (x : Nat) (w : World) : Calls Try.prog 12 #[.float .f32 x] w (RetF .f32 (cvtF .f64 .f32 (rootF x)) w) := by
  have Hg := Lib.hid (fun a b ha hb => root_narrow (x := x) (z := b) (Rp.sqrt (x := a) ha hb))
  go_enter Try.func12, Try.ntmps12
  go_wp2_with (first | (refine wpList_cvt rfl _ _ _ rfl .f32 .f64 _ rfl (by kernel_rfl) Try.underlying22 (widen_ok _) ?_; intro y n hy) | (go_at_call 29; refine (mathSqrt_any _ _).mono ?_; rintro e w' ⟨r, m, rfl, rfl, hr⟩) | (refine wpList_cvt rfl _ _ _ rfl .f64 .f32 _ rfl (by kernel_rfl) Try.underlying28 (Hg.out _ _ (by assumption) (by assumption)) ?_; intro z q hz) | go_in | go_back)
  go_ret
  exact ⟨_, _, rfl, rfl, Rp.cvtF (by decide) (Rp.sqrt (by assumption) (by assumption)) (by assumption)⟩

set_option maxHeartbeats 400000 in
theorem walk_FnExactRootNumber (x : Nat) (_ : x < 4294967296) (w : World) :
    Calls Try.prog 5 #[.float .f32 x] w fun e w' => e = .returned (.bool true) ∧ Grown w w' := by
  go_enter Try.func5, Try.ntmps5
  go_wp2_with fail
  refine (specRoot_any x _).mono ?_
  rintro e w' ⟨r1, n1, rfl, rfl, h1⟩
  have H1 := Lib.hid h1; clear h1
  go_wp2_with fail
  refine (implRoot_any x _).mono ?_
  rintro e w' ⟨r2, n2, rfl, rfl, h2⟩
  have H2 := Lib.hid h2; clear h2
  go_wp2_with (refine wpList_cvt rfl _ _ _ rfl .f32 .f64 _ rfl (by kernel_rfl) Try.underlying22 (widen_ok _) ?_; intro z n hz)
  refine (sameFloat_true (cvtF .f32 .f64 (cvtF .f64 .f32 (rootF x))) _ _ (Rp.cvtF (by decide) H2.out (by assumption)) (Rp.cvtF (by decide) H1.out (by assumption)) _).mono ?_
  rintro e w' ⟨rfl, n3, rfl⟩
  go_wp2_with fail
  go_ret
  exact ⟨rfl, Grown.refl _⟩
end Go.Proofs.Ytpaldmhlcgdmkab
