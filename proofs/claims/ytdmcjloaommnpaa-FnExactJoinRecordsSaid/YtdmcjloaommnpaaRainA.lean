/- Numbers that are asked for: the program and its model alike. -/
import Derived.Test.YtdmcjloaommnpaaFk
import Derived.Test.YtdmcjloaommnpaaFinite
namespace Go.Proofs.Ytdmcjloaommnpaa
open Go.RowKit
set_option linter.unusedVariables false
set_option linter.unusedSimpArgs false
set_option maxRecDepth 100000
attribute [local irreducible] wpV wpList Code.wp

theorem fin_o {X : Option Nat} {x : Nat} (h : Is32 X x) : fin32 x = fin32o X := by
  cases X with
  | none =>
    have h2 := h.1.1
    rw [nan32_iff, decide_eq_true_eq] at h2
    exact decide_eq_false (by omega)
  | some b => obtain rfl := h.eq; rfl

theorem isFin_o {X : Option Nat} {x : Nat} (w : World) (h : Is32 X x) : Calls Try.prog 60 #[.float .f32 x] w (SayS (fin32o X) w) :=
  (isFinite_any x h.2 w).mono fun _ _ ⟨h1, h2⟩ => ⟨_, rfl, by rw [h1, fin_o h], h2⟩
theorem l01Fin_o {X : Option Nat} {x : Nat} (w : World) (h : Is32 X x) : Calls Try.prog 56 #[.float .f32 x] w (SayQ (fin32o X) w) :=
  (l01Finite_any x w).mono fun _ _ ⟨h1, h2⟩ => ⟨_, rfl, by rw [h1, fin_o h], h2⟩

def amtO (X : Option Nat) : Bool := fcmp .geq .f32 X (some 0) && fin32o X
def posO (X : Option Nat) : Bool := fcmp .gtr .f32 X (some 0) && fin32o X
/-- A number, if it is finite. -/
def onlyO (X : Option Nat) : Option Nat × Bool := if fin32o X then (X, true) else (some 0, false)
theorem onlyO_zero : onlyO (some 0) = (some 0, true) := rfl

set_option maxHeartbeats 1000000 in
theorem isAmount_o {X : Option Nat} {x : Nat} (w : World)  (hx : Is32 X x) :
    Calls Try.prog 55 #[.float .f32 x] w (SayS (amtO X) w) := by
  go_enter Try.func55, Try.ntmps55
  go_wp2_with (first | ((with_reducible refine wpList_bin ?_); refine wpList_f32 rfl _ _ _ _ _ rfl rfl rfl (by decide) (by first | assumption | exact Is32.c (by decide)) (by first | assumption | exact Is32.c (by decide)) ?_; intro z n hz) | ((with_reducible refine wpList_bin ?_); refine wpList_c32 rfl _ _ _ _ _ rfl rfl rfl (by decide) (by first | assumption | exact Is32.c (by decide)) (by first | assumption | exact Is32.c (by decide)) ?_; intro bb hbb; cases bb) | (go_at_call 60; refine (isFin_o _ (by first | assumption | exact Is32.c (by decide))).mono ?_; rintro e w' ⟨bb, hbb, rfl, rfl⟩; cases bb))
  all_goals go_ret
  all_goals (refine ⟨_, ?_, rfl, rfl⟩; simp [amtO, *])

set_option maxHeartbeats 1000000 in
theorem isPositive_o {X : Option Nat} {x : Nat} (w : World)  (hx : Is32 X x) :
    Calls Try.prog 72 #[.float .f32 x] w (SayS (posO X) w) := by
  go_enter Try.func72, Try.ntmps72
  go_wp2_with (first | ((with_reducible refine wpList_bin ?_); refine wpList_f32 rfl _ _ _ _ _ rfl rfl rfl (by decide) (by first | assumption | exact Is32.c (by decide)) (by first | assumption | exact Is32.c (by decide)) ?_; intro z n hz) | ((with_reducible refine wpList_bin ?_); refine wpList_c32 rfl _ _ _ _ _ rfl rfl rfl (by decide) (by first | assumption | exact Is32.c (by decide)) (by first | assumption | exact Is32.c (by decide)) ?_; intro bb hbb; cases bb) | (go_at_call 60; refine (isFin_o _ (by first | assumption | exact Is32.c (by decide))).mono ?_; rintro e w' ⟨bb, hbb, rfl, rfl⟩; cases bb))
  all_goals go_ret
  all_goals (refine ⟨_, ?_, rfl, rfl⟩; simp [posO, *])

set_option maxHeartbeats 1000000 in
theorem l02Least_o {X : Option Nat} {x : Nat} (w : World)  (hx : Is32 X x) :
    Calls Try.prog 57 #[.float .f32 x] w (SayQ (amtO X) w) := by
  go_enter Try.func57, Try.ntmps57
  go_wp2_with (first | ((with_reducible refine wpList_bin ?_); refine wpList_f32 rfl _ _ _ _ _ rfl rfl rfl (by decide) (by first | assumption | exact Is32.c (by decide)) (by first | assumption | exact Is32.c (by decide)) ?_; intro z n hz) | ((with_reducible refine wpList_bin ?_); refine wpList_c32 rfl _ _ _ _ _ rfl rfl rfl (by decide) (by first | assumption | exact Is32.c (by decide)) (by first | assumption | exact Is32.c (by decide)) ?_; intro bb hbb; cases bb) | (go_at_call 56; refine (l01Fin_o _ (by first | assumption | exact Is32.c (by decide))).mono ?_; rintro e w' ⟨bb, hbb, rfl, q, rfl⟩; cases bb))
  all_goals go_ret
  all_goals (refine ⟨_, ?_, rfl, (by first | exact ⟨_, rfl⟩ | exact ⟨0, rfl⟩ | exact drewC _ _ _ ⟨_, rfl⟩ | exact drewC _ _ _ (drewC _ _ _ ⟨_, rfl⟩) | exact drewC _ _ _ (drewC _ _ _ (drewC _ _ _ ⟨_, rfl⟩)) | exact drewC _ _ _ (drewC _ _ _ (drewC _ _ _ (drewC _ _ _ ⟨_, rfl⟩))))⟩; simp [amtO, *])

set_option maxHeartbeats 1000000 in
theorem finiteOnly_o {X : Option Nat} {x : Nat} (w : World)  (hx : Is32 X x) :
    Calls Try.prog 61 #[.float .f32 x] w (OnlyS (onlyO X) w) := by
  go_enter Try.func61, Try.ntmps61
  go_wp2_with (first | ((with_reducible refine wpList_bin ?_); refine wpList_f32 rfl _ _ _ _ _ rfl rfl rfl (by decide) (by first | assumption | exact Is32.c (by decide)) (by first | assumption | exact Is32.c (by decide)) ?_; intro z n hz) | ((with_reducible refine wpList_bin ?_); refine wpList_c32 rfl _ _ _ _ _ rfl rfl rfl (by decide) (by first | assumption | exact Is32.c (by decide)) (by first | assumption | exact Is32.c (by decide)) ?_; intro bb hbb; cases bb) | (go_at_call 60; refine (isFin_o _ (by first | assumption | exact Is32.c (by decide))).mono ?_; rintro e w' ⟨bb, hbb, rfl, rfl⟩; cases bb))
  all_goals go_ret2
  all_goals (refine ⟨_, _, rfl, ?_, ?_, rfl⟩; (simp [onlyO, *]); first | (simp [onlyO, *]; done) | (simp [onlyO, *]; exact Is32.c (by decide)) | (simp [onlyO, *]; assumption))

set_option maxHeartbeats 1000000 in
theorem l02Number_o {X : Option Nat} {x : Nat} (w : World)  (hx : Is32 X x) :
    Calls Try.prog 59 #[.float .f32 x] w (OnlyQ (onlyO X) w) := by
  go_enter Try.func59, Try.ntmps59
  go_wp2_with (first | ((with_reducible refine wpList_bin ?_); refine wpList_f32 rfl _ _ _ _ _ rfl rfl rfl (by decide) (by first | assumption | exact Is32.c (by decide)) (by first | assumption | exact Is32.c (by decide)) ?_; intro z n hz) | ((with_reducible refine wpList_bin ?_); refine wpList_c32 rfl _ _ _ _ _ rfl rfl rfl (by decide) (by first | assumption | exact Is32.c (by decide)) (by first | assumption | exact Is32.c (by decide)) ?_; intro bb hbb; cases bb) | (go_at_call 56; refine (l01Fin_o _ (by first | assumption | exact Is32.c (by decide))).mono ?_; rintro e w' ⟨bb, hbb, rfl, q, rfl⟩; cases bb))
  all_goals go_ret2
  all_goals (refine ⟨_, _, rfl, ?_, ?_, (by first | exact ⟨_, rfl⟩ | exact ⟨0, rfl⟩ | exact drewC _ _ _ ⟨_, rfl⟩ | exact drewC _ _ _ (drewC _ _ _ ⟨_, rfl⟩) | exact drewC _ _ _ (drewC _ _ _ (drewC _ _ _ ⟨_, rfl⟩)) | exact drewC _ _ _ (drewC _ _ _ (drewC _ _ _ (drewC _ _ _ ⟨_, rfl⟩))))⟩; (simp [onlyO, *]); first | (simp [onlyO, *]; done) | (simp [onlyO, *]; exact Is32.c (by decide)) | (simp [onlyO, *]; assumption))

end Go.Proofs.Ytdmcjloaommnpaa
