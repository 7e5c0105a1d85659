/- Snow, and what runs off of a fall: the program and its model alike. -/
import Derived.Test.YtfdcfalkidcdnabRainA
namespace Go.Proofs.Ytfdcfalkidcdnab
open Go.RowKit
set_option linter.unusedVariables false
set_option linter.unusedSimpArgs false
set_option maxRecDepth 100000
attribute [local irreducible] wpV wpList Code.wp

def shareB (X : Option Nat) : Bool := fcmp .geq .f32 X (some 0) && fcmp .leq .f32 X (some 1065353216)
def snowO (A0 A1 A2 A3 : Option Nat) : Bool := amtO A0 && amtO A2 && amtO A3 && shareB A1
def curveE (X Y : Option Nat) : Option Nat := fop .sub .f32 X (fop .mul .f32 (some 1045220557) Y)
def curveO (X Y : Option Nat) : Option Nat × Bool :=
  if amtO X && amtO Y then (if !fcmp .gtr .f32 (fop .sub .f32 X (fop .mul .f32 (some 1045220557) Y)) (some 0) then (some 0, true)
    else onlyO (fop .quo .f32 (fop .mul .f32 (fop .sub .f32 X (fop .mul .f32 (some 1045220557) Y)) (fop .sub .f32 X (fop .mul .f32 (some 1045220557) Y))) (fop .add .f32 X (fop .mul .f32 (some 1061997773) Y))))
  else (some 0, false)

set_option maxHeartbeats 1000000 in
theorem l02Share_o {X : Option Nat} {x : Nat} (w : World)  (hx : Is32 X x) :
    Calls Try.prog 112 #[.float .f32 x] w (SayS (shareB X) w) := by
  go_enter Try.func112, Try.ntmps112
  go_wp2_with (first | ((with_reducible refine wpList_bin ?_); refine wpList_f32 rfl _ _ _ _ _ rfl rfl rfl (by decide) (by first | assumption | exact Is32.c (by decide)) (by first | assumption | exact Is32.c (by decide)) ?_; intro z n hz) | ((with_reducible refine wpList_bin ?_); refine wpList_c32 rfl _ _ _ _ _ rfl rfl rfl (by decide) (by first | assumption | exact Is32.c (by decide)) (by first | assumption | exact Is32.c (by decide)) ?_; intro bb hbb; cases bb))
  all_goals go_ret
  all_goals (refine ⟨_, ?_, rfl, rfl⟩; simp [shareB, *])

set_option maxHeartbeats 1000000 in
theorem validSnow_i {A0 A1 A2 A3 : Option Nat} {a0 a1 a2 a3 : Nat} (w : World)  (ha0 : Is32 A0 a0) (ha1 : Is32 A1 a1) (ha2 : Is32 A2 a2) (ha3 : Is32 A3 a3) :
    Calls Try.prog 50 #[.agg #[.float .f32 a0, .float .f32 a1, .float .f32 a2, .float .f32 a3]] w (SayB (snowO A0 A1 A2 A3) w) := by
  go_enter Try.func50, Try.ntmps50
  go_wp2_with (first | ((with_reducible refine wpList_bin ?_); refine wpList_f32 rfl _ _ _ _ _ rfl rfl rfl (by decide) (by first | assumption | exact Is32.c (by decide)) (by first | assumption | exact Is32.c (by decide)) ?_; intro z n hz) | ((with_reducible refine wpList_bin ?_); refine wpList_c32 rfl _ _ _ _ _ rfl rfl rfl (by decide) (by first | assumption | exact Is32.c (by decide)) (by first | assumption | exact Is32.c (by decide)) ?_; intro bb hbb; cases bb) | (go_at_call 76; refine (isAmount_o _ (by first | assumption | exact Is32.c (by decide))).mono ?_; rintro e w' ⟨bb, hbb, rfl, rfl⟩; cases bb))
  all_goals go_ret
  all_goals (refine ⟨_, ?_, rfl, (by first | exact (bel1 _ _ ) | exact beld (bel1 _ _ ) _ | exact beld (beld (bel1 _ _ ) _) _ | exact Below.alloc (by first | exact (bel1 _ _ ) | exact beld (bel1 _ _ ) _) (by first | (simp; done) | (simp; omega) | omega) _ | exact beld (Below.alloc (by first | exact (bel1 _ _ ) | exact beld (bel1 _ _ ) _) (by first | (simp; done) | (simp; omega) | omega) _) _)⟩; simp [snowO, shareB, *])

set_option maxHeartbeats 8000000 in
theorem l03Snow_o {A0 A1 A2 A3 : Option Nat} {a0 a1 a2 a3 : Nat} (ba : Nat) (w : World) (hBa : Bx w ba [.float .f32 a0, .float .f32 a1, .float .f32 a2, .float .f32 a3]) (ha0 : Is32 A0 a0) (ha1 : Is32 A1 a1) (ha2 : Is32 A2 a2) (ha3 : Is32 A3 a3) :
    Calls Try.prog 69 #[.pointer (some ⟨ba, 0, none⟩)] w (SayQ (snowO A0 A1 A2 A3) w) := by
  have ca0 := hBa.c 0 rfl
  have ca1 := hBa.c 1 rfl
  have ca2 := hBa.c 2 rfl
  have ca3 := hBa.c 3 rfl
  go_enter Try.func69, Try.ntmps69
  go_wp2_with (first | ((with_reducible refine wpList_bin ?_); refine wpList_f32 rfl _ _ _ _ _ rfl rfl rfl (by decide) (by first | assumption | exact Is32.c (by decide)) (by first | assumption | exact Is32.c (by decide)) ?_; intro z n hz) | ((with_reducible refine wpList_bin ?_); refine wpList_c32 rfl _ _ _ _ _ rfl rfl rfl (by decide) (by first | assumption | exact Is32.c (by decide)) (by first | assumption | exact Is32.c (by decide)) ?_; intro bb hbb; cases bb) | (go_at_call 72; refine (l02Least_o _ (by first | assumption | exact Is32.c (by decide))).mono ?_; rintro e w' ⟨bb, hbb, rfl, q, rfl⟩; cases bb) | (go_at_call 112; refine (l02Share_o _ (by first | assumption | exact Is32.c (by decide))).mono ?_; rintro e w' ⟨bb, hbb, rfl, rfl⟩; cases bb))
  all_goals go_ret
  all_goals (refine ⟨_, ?_, rfl, (by first | exact ⟨_, rfl⟩ | exact drewC _ _ _ ⟨_, rfl⟩ | exact drewC _ _ _ (drewC _ _ _ ⟨_, rfl⟩))⟩; simp [snowO, *])

set_option maxHeartbeats 1000000 in
theorem curveRunoff_i {X : Option Nat} {x : Nat} {Y : Option Nat} {y : Nat} (w : World)  (hx : Is32 X x) (hy : Is32 Y y) :
    Calls Try.prog 60 #[.float .f32 x, .float .f32 y] w (OnlyB (curveO X Y) w) := by
  go_enter Try.func60, Try.ntmps60
  go_wp2_with (first | ((with_reducible refine wpList_bin ?_); refine wpList_f32 rfl _ _ _ _ _ rfl rfl rfl (by decide) (by first | assumption | exact Is32.c (by decide)) (by first | assumption | exact Is32.c (by decide)) ?_; intro z n hz) | ((with_reducible refine wpList_bin ?_); refine wpList_c32 rfl _ _ _ _ _ rfl rfl rfl (by decide) (by first | assumption | exact Is32.c (by decide)) (by first | assumption | exact Is32.c (by decide)) ?_; intro bb hbb; cases bb) | (go_at_call 76; refine (isAmount_o _ (by first | assumption | exact Is32.c (by decide))).mono ?_; rintro e w' ⟨bb, hbb, rfl, rfl⟩; cases bb) | (go_at_call 107; refine (finiteOnly_o _ (by first | assumption | exact Is32.c (by decide))).mono ?_; rintro e w' ⟨z, bb, rfl, hbb, hz, rfl⟩; cases bb))
  all_goals go_ret2
  all_goals (refine ⟨_, _, rfl, ?_, ?_, (by first | exact (Below.refl _ _) | exact beld (Below.refl _ _) _ | exact beld (beld (Below.refl _ _) _) _ | exact Below.alloc (by first | exact (Below.refl _ _) | exact beld (Below.refl _ _) _) (by first | (simp; done) | (simp; omega) | omega) _ | exact beld (Below.alloc (by first | exact (Below.refl _ _) | exact beld (Below.refl _ _) _) (by first | (simp; done) | (simp; omega) | omega) _) _)⟩; (simp [curveO, *]); first | (simp [curveO, *]; done) | (simp [curveO, *]; exact Is32.c (by decide)) | (simp [curveO, *]; assumption))

end Go.Proofs.Ytfdcfalkidcdnab
