/- Storms: the program and its model alike. -/
import Derived.Test.YtdoecpghlfjhiacRainA
namespace Go.Proofs.Ytdoecpghlfjhiac
open Go.RowKit
set_option linter.unusedVariables false
set_option linter.unusedSimpArgs false
set_option maxRecDepth 100000
attribute [local irreducible] wpV wpList Code.wp

def stormO (A0 A1 A2 A3 : Option Nat) : Bool := amtO A0 && amtO A2 && posO A1 && fcmp .gtr .f32 A3 (some 0) && fcmp .lss .f32 A3 (some 1065353216)
def rainU (A1 A2 A3 U : Option Nat) : Option Nat :=
  if fcmp .lss .f32 U (some 0) || fcmp .gtr .f32 U (some 1065353216) then some 0
  else fop .mul .f32 (fop .quo .f32 (fop .mul .f32 (some 1073741824) A2) A1) (if fcmp .leq .f32 U A3 then fop .quo .f32 U A3 else fop .quo .f32 (fop .sub .f32 (some 1065353216) U) (fop .sub .f32 (some 1065353216) A3))
def rainO (A0 A1 A2 A3 T : Option Nat) : Option Nat × Bool :=
  if stormO A0 A1 A2 A3 && fin32o T then onlyO (rainU A1 A2 A3 (fop .quo .f32 (fop .sub .f32 T A0) A1)) else (some 0, false)
def fallU (A2 A3 U : Option Nat) : Option Nat :=
  if !fcmp .gtr .f32 U (some 0) then some 0 else if fcmp .geq .f32 U (some 1065353216) then A2
  else if fcmp .leq .f32 U A3 then fop .mul .f32 A2 (fop .quo .f32 (fop .mul .f32 U U) A3)
  else fop .mul .f32 A2 (fop .sub .f32 (some 1065353216) (fop .quo .f32 (fop .mul .f32 (fop .sub .f32 (some 1065353216) U) (fop .sub .f32 (some 1065353216) U)) (fop .sub .f32 (some 1065353216) A3)))
def fallO (A0 A1 A2 A3 T : Option Nat) : Option Nat × Bool :=
  if stormO A0 A1 A2 A3 && fin32o T then onlyO (fallU A2 A3 (fop .quo .f32 (fop .sub .f32 T A0) A1)) else (some 0, false)

set_option maxHeartbeats 1000000 in
theorem validStorm_i {A0 A1 A2 A3 : Option Nat} {a0 a1 a2 a3 : Nat} (w : World)  (ha0 : Is32 A0 a0) (ha1 : Is32 A1 a1) (ha2 : Is32 A2 a2) (ha3 : Is32 A3 a3) :
    Calls Try.prog 206 #[.agg #[.float .f32 a0, .float .f32 a1, .float .f32 a2, .float .f32 a3]] w (SayB (stormO A0 A1 A2 A3) w) := by
  go_enter Try.func206, Try.ntmps206
  go_wp2_with (first | ((with_reducible refine wpList_bin ?_); refine wpList_f32 rfl _ _ _ _ _ rfl rfl rfl (by decide) (by first | assumption | exact Is32.c (by decide)) (by first | assumption | exact Is32.c (by decide)) ?_; intro z n hz) | ((with_reducible refine wpList_bin ?_); refine wpList_c32 rfl _ _ _ _ _ rfl rfl rfl (by decide) (by first | assumption | exact Is32.c (by decide)) (by first | assumption | exact Is32.c (by decide)) ?_; intro bb hbb; cases bb) | (go_at_call 95; refine (isAmount_o _ (by first | assumption | exact Is32.c (by decide))).mono ?_; rintro e w' ⟨bb, hbb, rfl, rfl⟩; cases bb) | (go_at_call 96; refine (isPositive_o _ (by first | assumption | exact Is32.c (by decide))).mono ?_; rintro e w' ⟨bb, hbb, rfl, rfl⟩; cases bb))
  all_goals go_ret
  all_goals (refine ⟨_, ?_, rfl, (by first | exact (bel1 _ _ ) | exact beld (bel1 _ _ ) _ | exact beld (beld (bel1 _ _ ) _) _ | exact Below.alloc (by first | exact (bel1 _ _ ) | exact beld (bel1 _ _ ) _) (by first | (simp; done) | (simp; omega) | omega) _ | exact beld (Below.alloc (by first | exact (bel1 _ _ ) | exact beld (bel1 _ _ ) _) (by first | (simp; done) | (simp; omega) | omega) _) _)⟩; simp [stormO, *])

set_option maxHeartbeats 8000000 in
theorem l03Storm_o {A0 A1 A2 A3 : Option Nat} {a0 a1 a2 a3 : Nat} (ba : Nat) (w : World) (hBa : Bx w ba [.float .f32 a0, .float .f32 a1, .float .f32 a2, .float .f32 a3]) (ha0 : Is32 A0 a0) (ha1 : Is32 A1 a1) (ha2 : Is32 A2 a2) (ha3 : Is32 A3 a3) :
    Calls Try.prog 147 #[.pointer (some ⟨ba, 0, none⟩)] w (SayQ (stormO A0 A1 A2 A3) w) := by
  have ca0 := hBa.c 0 rfl
  have ca1 := hBa.c 1 rfl
  have ca2 := hBa.c 2 rfl
  have ca3 := hBa.c 3 rfl
  go_enter Try.func147, Try.ntmps147
  go_wp2_with (first | ((with_reducible refine wpList_bin ?_); refine wpList_f32 rfl _ _ _ _ _ rfl rfl rfl (by decide) (by first | assumption | exact Is32.c (by decide)) (by first | assumption | exact Is32.c (by decide)) ?_; intro z n hz) | ((with_reducible refine wpList_bin ?_); refine wpList_c32 rfl _ _ _ _ _ rfl rfl rfl (by decide) (by first | assumption | exact Is32.c (by decide)) (by first | assumption | exact Is32.c (by decide)) ?_; intro bb hbb; cases bb) | (go_at_call 91; refine (l02Least_o _ (by first | assumption | exact Is32.c (by decide))).mono ?_; rintro e w' ⟨bb, hbb, rfl, q, rfl⟩; cases bb) | (go_at_call 116; refine (l02Above_o _ (by first | assumption | exact Is32.c (by decide))).mono ?_; rintro e w' ⟨bb, hbb, rfl, q, rfl⟩; cases bb))
  all_goals go_ret
  all_goals (refine ⟨_, ?_, rfl, (by first | exact ⟨_, rfl⟩ | exact ⟨0, rfl⟩ | exact drewC _ _ _ ⟨_, rfl⟩ | exact drewC _ _ _ (drewC _ _ _ ⟨_, rfl⟩) | exact drewC _ _ _ (drewC _ _ _ (drewC _ _ _ ⟨_, rfl⟩)) | exact drewC _ _ _ (drewC _ _ _ (drewC _ _ _ (drewC _ _ _ ⟨_, rfl⟩))))⟩; simp [stormO, *])

set_option maxHeartbeats 1000000 in
theorem shareAt_o {A0 A1 A2 A3 : Option Nat} {a0 a1 a2 a3 : Nat} {T : Option Nat} {t : Nat} (w : World)  (ha0 : Is32 A0 a0) (ha1 : Is32 A1 a1) (ha2 : Is32 A2 a2) (ha3 : Is32 A3 a3) (ht : Is32 T t) :
    Calls Try.prog 232 #[.agg #[.float .f32 a0, .float .f32 a1, .float .f32 a2, .float .f32 a3], .float .f32 t] w (NumB ((fop .quo .f32 (fop .sub .f32 T A0) A1)) w) := by
  go_enter Try.func232, Try.ntmps232
  go_wp2_with (first | ((with_reducible refine wpList_bin ?_); refine wpList_f32 rfl _ _ _ _ _ rfl rfl rfl (by decide) (by first | assumption | exact Is32.c (by decide)) (by first | assumption | exact Is32.c (by decide)) ?_; intro z n hz) | ((with_reducible refine wpList_bin ?_); refine wpList_c32 rfl _ _ _ _ _ rfl rfl rfl (by decide) (by first | assumption | exact Is32.c (by decide)) (by first | assumption | exact Is32.c (by decide)) ?_; intro bb hbb; cases bb))
  all_goals go_ret
  all_goals (refine ⟨_, rfl, ?_, (by first | exact (bel1 _ _ ) | exact beld (bel1 _ _ ) _ | exact beld (beld (bel1 _ _ ) _) _ | exact Below.alloc (by first | exact (bel1 _ _ ) | exact beld (bel1 _ _ ) _) (by first | (simp; done) | (simp; omega) | omega) _ | exact beld (Below.alloc (by first | exact (bel1 _ _ ) | exact beld (bel1 _ _ ) _) (by first | (simp; done) | (simp; omega) | omega) _) _)⟩; first | assumption  | (simp [*]; done) | (simp [*]; exact Is32.c (by decide)) | (simp [*]; assumption))

end Go.Proofs.Ytdoecpghlfjhiac
