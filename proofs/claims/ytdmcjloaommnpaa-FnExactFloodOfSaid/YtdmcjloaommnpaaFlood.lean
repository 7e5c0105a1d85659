/- Floods of years: the program and its model alike. -/
import Derived.Test.YtdmcjloaommnpaaRainA
import Derived.Test.YtdmcjloaommnpaaLogO
import Derived.Test.YtdmcjloaommnpaaNegO
namespace Go.Proofs.Ytdmcjloaommnpaa
open Go.RowKit
set_option linter.unusedVariables false
set_option linter.unusedSimpArgs false
set_option maxRecDepth 100000
attribute [local irreducible] wpV wpList Code.wp

def floodU (P S Y : Option Nat) : Option Nat := fop .sub .f32 P (fop .mul .f32 S (logO (negO (logO (fop .sub .f32 (some 1065353216) (fop .quo .f32 (some 1065353216) Y))))))
def floodO (P S Y : Option Nat) : Option Nat × Bool := if fin32o P && amtO S && fcmp .gtr .f32 Y (some 1065353216) && fin32o Y then onlyO (floodU P S Y) else (some 0, false)

set_option maxHeartbeats 4000000 in
theorem floodOf_i {P : Option Nat} {p : Nat} {S : Option Nat} {s : Nat} {Y : Option Nat} {y : Nat} (w : World)  (hp : Is32 P p) (hs : Is32 S s) (hy : Is32 Y y) :
    Calls Try.prog 20 #[.float .f32 p, .float .f32 s, .float .f32 y] w (OnlyB (floodO P S Y) w) := by
  go_enter Try.func20, Try.ntmps20
  go_wp2_with (first | ((with_reducible refine wpList_bin ?_); refine wpList_f32 rfl _ _ _ _ _ rfl rfl rfl (by decide) (by first | assumption | exact Is32.c (by decide) | exact Is32.neg (by assumption)) (by first | assumption | exact Is32.c (by decide) | exact Is32.neg (by assumption)) ?_; intro z n hz) | ((with_reducible refine wpList_bin ?_); refine wpList_c32 rfl _ _ _ _ _ rfl rfl rfl (by decide) (by first | assumption | exact Is32.c (by decide) | exact Is32.neg (by assumption)) (by first | assumption | exact Is32.c (by decide) | exact Is32.neg (by assumption)) ?_; intro bb hbb; cases bb) | (go_at_call 60; refine (isFin_o _ (by first | assumption | exact Is32.c (by decide))).mono ?_; rintro e w' ⟨bb, hbb, rfl, rfl⟩; cases bb) | (go_at_call 55; refine (isAmount_o _ (by first | assumption | exact Is32.c (by decide))).mono ?_; rintro e w' ⟨bb, hbb, rfl, rfl⟩; cases bb) | (go_at_call 62; refine (logNumber_o _ (by first | assumption | exact Is32.c (by decide) | exact Is32.neg (by assumption))).mono ?_; rintro e w' ⟨z, rfl, hz, q, rfl⟩) | (go_at_call 61; refine (finiteOnly_o _ (by first | assumption | exact Is32.c (by decide))).mono ?_; rintro e w' ⟨z, bb, rfl, hbb, hz, rfl⟩; cases bb))
  all_goals go_ret2
  all_goals (refine ⟨_, _, rfl, ?_, ?_, (by first | exact (Below.refl _ _) | exact beld (Below.refl _ _) _ | exact beld (beld (Below.refl _ _) _) _ | exact Below.alloc (by first | exact (Below.refl _ _) | exact beld (Below.refl _ _) _) (by first | (simp; done) | (simp; omega) | omega) _ | exact beld (Below.alloc (by first | exact (Below.refl _ _) | exact beld (Below.refl _ _) _) (by first | (simp; done) | (simp; omega) | omega) _) _)⟩; (simp [floodO, floodU, *]); first | (simp [floodO, floodU, *]; done) | (simp [floodO, floodU, *]; exact Is32.c (by decide)) | (simp [floodO, floodU, *]; assumption))

set_option maxHeartbeats 4000000 in
theorem floodOf_s {P : Option Nat} {p : Nat} {S : Option Nat} {s : Nat} {Y : Option Nat} {y : Nat} (w : World)  (hp : Is32 P p) (hs : Is32 S s) (hy : Is32 Y y) :
    Calls Try.prog 19 #[.float .f32 p, .float .f32 s, .float .f32 y] w (OnlyB (floodO P S Y) w) := by
  go_enter Try.func19, Try.ntmps19
  go_wp2_with (first | ((with_reducible refine wpList_bin ?_); refine wpList_f32 rfl _ _ _ _ _ rfl rfl rfl (by decide) (by first | assumption | exact Is32.c (by decide) | exact Is32.neg (by assumption)) (by first | assumption | exact Is32.c (by decide) | exact Is32.neg (by assumption)) ?_; intro z n hz) | ((with_reducible refine wpList_bin ?_); refine wpList_c32 rfl _ _ _ _ _ rfl rfl rfl (by decide) (by first | assumption | exact Is32.c (by decide) | exact Is32.neg (by assumption)) (by first | assumption | exact Is32.c (by decide) | exact Is32.neg (by assumption)) ?_; intro bb hbb; cases bb) | (go_at_call 56; refine (l01Fin_o _ (by first | assumption | exact Is32.c (by decide))).mono ?_; rintro e w' ⟨bb, hbb, rfl, q, rfl⟩; cases bb) | (go_at_call 57; refine (l02Least_o _ (by first | assumption | exact Is32.c (by decide))).mono ?_; rintro e w' ⟨bb, hbb, rfl, q, rfl⟩; cases bb) | (go_at_call 58; refine (l01Log_o _ (by first | assumption | exact Is32.c (by decide) | exact Is32.neg (by assumption))).mono ?_; rintro e w' ⟨z, rfl, hz, q, rfl⟩) | (go_at_call 59; refine (l02Number_o _ (by first | assumption | exact Is32.c (by decide))).mono ?_; rintro e w' ⟨z, bb, rfl, hbb, hz, q, rfl⟩; cases bb))
  all_goals go_ret2
  all_goals (refine ⟨_, _, rfl, ?_, ?_, (by first | exact (Below.refl _ _) | exact beld (Below.refl _ _) _ | exact beld (beld (Below.refl _ _) _) _ | exact Below.alloc (by first | exact (Below.refl _ _) | exact beld (Below.refl _ _) _) (by first | (simp; done) | (simp; omega) | omega) _ | exact beld (Below.alloc (by first | exact (Below.refl _ _) | exact beld (Below.refl _ _) _) (by first | (simp; done) | (simp; omega) | omega) _) _)⟩; (simp [floodO, floodU, *]); first | (simp [floodO, floodU, *]; done) | (simp [floodO, floodU, *]; exact Is32.c (by decide)) | (simp [floodO, floodU, *]; assumption))

end Go.Proofs.Ytdmcjloaommnpaa
