/- Numbers that are asked for: the program and its model alike. -/
import Derived.Test.YtfdcfalkidcdnacFk
import Derived.Test.YtfdcfalkidcdnacFinite
namespace Go.Proofs.Ytfdcfalkidcdnac
open Go.RowKit
set_option linter.unusedVariables false
set_option linter.unusedSimpArgs false
set_option maxRecDepth 100000
attribute [local irreducible] wpV wpList Code.wp

theorem fin_o {X : Option Nat} {x : Nat} (h : Is32 X x) : fin32 x = fin32o X := by
  cases X with
  | none =>
    have h2 := h.1.1
    rw [nan32_iff, decide_eq_true_eq] at h2
    exact decide_eq_false (by omega)
  | some b => obtain rfl := h.eq; rfl

theorem isFin_o {X : Option Nat} {x : Nat} (w : World) (h : Is32 X x) : Calls Try.prog 56 #[.float .f32 x] w (SayS (fin32o X) w) :=
  (isFinite_any x h.2 w).mono fun _ _ ⟨h1, h2⟩ => ⟨_, rfl, by rw [h1, fin_o h], h2⟩
theorem l01Fin_o {X : Option Nat} {x : Nat} (w : World) (h : Is32 X x) : Calls Try.prog 52 #[.float .f32 x] w (SayQ (fin32o X) w) :=
  (l01Finite_any x w).mono fun _ _ ⟨h1, h2⟩ => ⟨_, rfl, by rw [h1, fin_o h], h2⟩

def amtO (X : Option Nat) : Bool := fcmp .geq .f32 X (some 0) && fin32o X
def posO (X : Option Nat) : Bool := fcmp .gtr .f32 X (some 0) && fin32o X
/-- A number, if it is finite. -/
def onlyO (X : Option Nat) : Option Nat × Bool := if fin32o X then (X, true) else (some 0, false)
theorem onlyO_zero : onlyO (some 0) = (some 0, true) := rfl

end Go.Proofs.Ytfdcfalkidcdnac
