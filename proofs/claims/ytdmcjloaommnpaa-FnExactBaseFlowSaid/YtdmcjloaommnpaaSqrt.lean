/- Square roots. -/
import Derived.Test.YtdmcjloaommnpaaSame
import Derived.Test.YtdmcjloaommnpaaSize
import Derived.Test.YtdmcjloaommnpaaRet
namespace Go.Proofs.Ytdmcjloaommnpaa
open Go.RowKit

theorem sqrt_ext (x : Nat) (w : World) : (callFunc 108 #[.float .f64 x]).run Try.prog w = ((Extern.MathSqrt.sqrt #[.float .f64 x]).run Try.prog w).andThen fun v w' => .ok (.value v) w' :=
  run_callFunc_extern Try.func108 (by kernel_rfl) (by kernel_rfl) (by kernel_rfl) (show Extern.find Try.f108 = some Extern.MathSqrt.sqrt by kernel_rfl) _ _

theorem sqrt_def (x : Nat) : Extern.MathSqrt.sqrt #[.float .f64 x] = (match FloatKind.f64.format.sqrt x with
    | some r => pure (.float .f64 r)
    | none => do pure (.float .f64 (← choose (.nanBits .f64 x x)))) := rfl

theorem sqrt_some {x r : Nat} (h : FloatKind.f64.format.sqrt x = some r) (w : World) : (callFunc 108 #[.float .f64 x]).run Try.prog w = .ok (.value (.float .f64 r)) w := by
  rw [sqrt_ext, sqrt_def, h]; rfl
theorem sqrt_none {x : Nat} (h : FloatKind.f64.format.sqrt x = none) (w : World) : (callFunc 108 #[.float .f64 x]).run Try.prog w = .ok (.value (.float .f64 ((Question.nanBits .f64 x x).cut (w.tape w.drawn (.nanBits .f64 x x))))) w.drew := by
  rw [sqrt_ext, sqrt_def, h]; rfl

set_option maxHeartbeats 400000 in
theorem mathSqrt_any (x : Nat) (w : World) : Calls Try.prog 98 #[.float .f64 x] w (RetF .f64 (FloatKind.f64.format.sqrt x) w) := by
  cases h : FloatKind.f64.format.sqrt x with
  | some r =>
    have hs := sqrt_some h
    clear h
    go_enter Try.func98, Try.ntmps98
    go_wp2_with fail
    go_ret
    exact ⟨_, 0, rfl, rfl, rfl⟩
  | none =>
    have hs := sqrt_none h
    clear h
    go_enter Try.func98, Try.ntmps98
    go_wp2_with fail
    go_ret
    exact ⟨_, 1, rfl, rfl, cutBits ..⟩

theorem Rp.sqrt {X : Option Nat} {x z : Nat} (hx : Rp .f64 X x) (hz : Rp .f64 (FloatKind.f64.format.sqrt x) z) : Rp .f64 (X.bind FloatKind.f64.format.sqrt) z := by
  cases X with
  | none =>
    obtain ⟨s, f, hd⟩ := decode_nan hx.1
    have : FloatKind.f64.format.sqrt x = none := by unfold Ieee.Format.sqrt; rw [hd]; rfl
    rw [this] at hz; exact hz
  | some a => obtain rfl : x = a := hx; exact hz

theorem nan_narrow {z : Nat} (h : Rp .f64 none z) : tooGreat .f64 z .f32 = false := by
  refine narrow_inf fun s m i hd => ?_
  have := h.1
  rw [hd] at this; cases this

end Go.Proofs.Ytdmcjloaommnpaa
