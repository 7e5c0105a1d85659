/- Powers by logarithms: the program and its model alike. -/
import Derived.Test.YtgjgggclcmcpgacRainA
import Derived.Test.YtgjgggclcmcpgacLogB
namespace Go.Proofs.Ytgjgggclcmcpgac
open Go.RowKit
set_option linter.unusedVariables false
set_option linter.unusedSimpArgs false
set_option maxRecDepth 100000
attribute [local irreducible] wpV wpList Code.wp

def powO (X : Option Nat) : Option Nat := expO (fop .mul .f32 (some 1059760811) (logO X))
theorem powO_ne (X : Option Nat) : ∃ z, Is32 (powO X) z := expO_ne _

set_option maxHeartbeats 1000000 in
theorem powerTo_o {X : Option Nat} {x : Nat}  (w : World)  (hx : Is32 X x) :
    Calls Try.prog 78 #[.float .f32 x, .float .f32 1059760811] w (NumQ (powO X) w) := by
  go_enter Try.func78, Try.ntmps78
  go_wp2_with (first | ((with_reducible refine wpList_bin ?_); refine wpList_f32 rfl _ _ _ _ _ rfl rfl rfl (by decide) (by first | assumption | exact Is32.c (by decide)) (by first | assumption | exact Is32.c (by decide)) ?_; intro z n hz) | ((with_reducible refine wpList_bin ?_); refine wpList_c32 rfl _ _ _ _ _ rfl rfl rfl (by decide) (by first | assumption | exact Is32.c (by decide)) (by first | assumption | exact Is32.c (by decide)) ?_; intro bb hbb; cases bb) | (go_at_call 133; refine (logNumber_o _ (by first | assumption | exact Is32.c (by decide))).mono ?_; rintro e w' ⟨z, rfl, hz, q, rfl⟩) | (go_at_call 101; refine (expNumber_o _ (by first | assumption | exact Is32.c (by decide)) (thirds_rng _)).mono ?_; rintro e w' ⟨z, rfl, hz, q, rfl⟩))
  all_goals go_ret
  all_goals (refine ⟨_, rfl, ?_, (by first | exact ⟨_, rfl⟩ | exact drewC _ _ _ ⟨_, rfl⟩ | exact drewC _ _ _ (drewC _ _ _ ⟨_, rfl⟩))⟩; first | assumption  | (simp [powO, *]; done) | (simp [powO, *]; exact Is32.c (by decide)) | (simp [powO, *]; assumption))

def levelO (S C F : Option Nat) : Option Nat × Bool := if posO S && fin32o C && posO F then onlyO (fop .add .f32 C (powO (fop .quo .f32 F S))) else (some 0, false)

set_option maxHeartbeats 8000000 in
theorem levelFor_i {S : Option Nat} {s : Nat} {C : Option Nat} {c : Nat} {F : Option Nat} {f : Nat} (w : World)  (hs : Is32 S s) (hc : Is32 C c) (hf : Is32 F f) :
    Calls Try.prog 19 #[.float .f32 s, .float .f32 c, .float .f32 f] w (OnlyB (levelO S C F) w) := by
  go_enter Try.func19, Try.ntmps19
  go_wp2_with (first | ((with_reducible refine wpList_bin ?_); refine wpList_f32 rfl _ _ _ _ _ rfl rfl rfl (by decide) (by first | assumption | exact Is32.c (by decide)) (by first | assumption | exact Is32.c (by decide)) ?_; intro z n hz) | ((with_reducible refine wpList_bin ?_); refine wpList_c32 rfl _ _ _ _ _ rfl rfl rfl (by decide) (by first | assumption | exact Is32.c (by decide)) (by first | assumption | exact Is32.c (by decide)) ?_; intro bb hbb; cases bb) | (go_at_call 77; refine (isPositive_o _ (by first | assumption | exact Is32.c (by decide))).mono ?_; rintro e w' ⟨bb, hbb, rfl, rfl⟩; cases bb) | (go_at_call 71; refine (isFin_o _ (by first | assumption | exact Is32.c (by decide))).mono ?_; rintro e w' ⟨bb, hbb, rfl, rfl⟩; cases bb) | (go_at_call 78; refine (powerTo_o _ (by first | assumption | exact Is32.c (by decide))).mono ?_; rintro e w' ⟨z, rfl, hz, q, rfl⟩) | (go_at_call 73; refine (finiteOnly_o _ (by first | assumption | exact Is32.c (by decide))).mono ?_; rintro e w' ⟨z, bb, rfl, hbb, hz, rfl⟩; cases bb))
  all_goals go_ret2
  all_goals (refine ⟨_, _, rfl, ?_, ?_, (by first | exact (Below.refl _ _) | exact beld (Below.refl _ _) _ | exact beld (beld (Below.refl _ _) _) _ | exact Below.alloc (by first | exact (Below.refl _ _) | exact beld (Below.refl _ _) _) (by first | (simp; done) | (simp; omega) | omega) _ | exact beld (Below.alloc (by first | exact (Below.refl _ _) | exact beld (Below.refl _ _) _) (by first | (simp; done) | (simp; omega) | omega) _) _)⟩; (simp [levelO, *]); first | (simp [levelO, *]; done) | (simp [levelO, *]; exact Is32.c (by decide)) | (simp [levelO, *]; assumption))

set_option maxHeartbeats 8000000 in
theorem levelFor_s {S : Option Nat} {s : Nat} {C : Option Nat} {c : Nat} {F : Option Nat} {f : Nat} (w : World)  (hs : Is32 S s) (hc : Is32 C c) (hf : Is32 F f) :
    Calls Try.prog 18 #[.float .f32 s, .float .f32 c, .float .f32 f] w (OnlyB (levelO S C F) w) := by
  go_enter Try.func18, Try.ntmps18
  go_wp2_with (first | ((with_reducible refine wpList_bin ?_); refine wpList_f32 rfl _ _ _ _ _ rfl rfl rfl (by decide) (by first | assumption | exact Is32.c (by decide)) (by first | assumption | exact Is32.c (by decide)) ?_; intro z n hz) | ((with_reducible refine wpList_bin ?_); refine wpList_c32 rfl _ _ _ _ _ rfl rfl rfl (by decide) (by first | assumption | exact Is32.c (by decide)) (by first | assumption | exact Is32.c (by decide)) ?_; intro bb hbb; cases bb) | (go_at_call 74; refine (l02Above_o _ (by first | assumption | exact Is32.c (by decide))).mono ?_; rintro e w' ⟨bb, hbb, rfl, q, rfl⟩; cases bb) | (go_at_call 67; refine (l01Fin_o _ (by first | assumption | exact Is32.c (by decide))).mono ?_; rintro e w' ⟨bb, hbb, rfl, q, rfl⟩; cases bb) | (go_at_call 76; refine (l01Log_o _ (by first | assumption | exact Is32.c (by decide))).mono ?_; rintro e w' ⟨z, rfl, hz, q, rfl⟩) | (go_at_call 75; refine (l01Exp_o _ (by first | assumption | exact Is32.c (by decide)) (thirds_rng _)).mono ?_; rintro e w' ⟨z, rfl, hz, q, rfl⟩) | (go_at_call 68; refine (l02Number_o _ (by first | assumption | exact Is32.c (by decide))).mono ?_; rintro e w' ⟨z, bb, rfl, hbb, hz, q, rfl⟩; cases bb))
  all_goals go_ret2
  all_goals (refine ⟨_, _, rfl, ?_, ?_, (by first | exact (Below.refl _ _) | exact beld (Below.refl _ _) _ | exact beld (beld (Below.refl _ _) _) _ | exact Below.alloc (by first | exact (Below.refl _ _) | exact beld (Below.refl _ _) _) (by first | (simp; done) | (simp; omega) | omega) _ | exact beld (Below.alloc (by first | exact (Below.refl _ _) | exact beld (Below.refl _ _) _) (by first | (simp; done) | (simp; omega) | omega) _) _)⟩; (simp [levelO, powO, *]); first | (simp [levelO, powO, *]; done) | (simp [levelO, powO, *]; exact Is32.c (by decide)) | (simp [levelO, powO, *]; assumption))

end Go.Proofs.Ytgjgggclcmcpgac
