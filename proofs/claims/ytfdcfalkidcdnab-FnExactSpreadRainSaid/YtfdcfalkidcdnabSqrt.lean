/- Square roots. -/
import Derived.Test.YtfdcfalkidcdnabSame
import Derived.Test.YtfdcfalkidcdnabSize
import Derived.Test.YtfdcfalkidcdnabRet
namespace Go.Proofs.Ytfdcfalkidcdnab
open Go.RowKit


theorem sqrt_def (x : Nat) : Extern.MathSqrt.sqrt #[.float .f64 x] = (match FloatKind.f64.format.sqrt x with
    | some r => pure (.float .f64 r)
    | none => do pure (.float .f64 (← choose (.nanBits .f64 x x)))) := rfl



theorem Rp.sqrt {X : Option Nat} {x z : Nat} (hx : Rp .f64 X x) (hz : Rp .f64 (FloatKind.f64.format.sqrt x) z) : Rp .f64 (X.bind FloatKind.f64.format.sqrt) z := by
  cases X with
  | none =>
    obtain ⟨s, f, hd⟩ := decode_nan hx.1
    have : FloatKind.f64.format.sqrt x = none := by unfold Ieee.Format.sqrt; rw [hd]; rfl
    rw [this] at hz; exact hz
  | some a => obtain rfl : x = a := hx; exact hz

theorem nan_narrow {z : Nat} (h : Rp .f64 none z) : tooGreat .f64 z .f32 = false := by
  refine narrow_inf fun s m i hd => ?_
  have := h.1
  rw [hd] at this; cases this

end Go.Proofs.Ytfdcfalkidcdnab
