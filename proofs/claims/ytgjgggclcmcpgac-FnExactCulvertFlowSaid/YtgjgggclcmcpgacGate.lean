/- Gates: the program and its model alike. -/
import Derived.Test.YtgjgggclcmcpgacWeir
import Derived.Test.YtgjgggclcmcpgacMaxO
import Derived.Test.YtgjgggclcmcpgacHalf
namespace Go.Proofs.Ytgjgggclcmcpgac
open Go.RowKit
set_option linter.unusedVariables false
set_option linter.unusedSimpArgs false
set_option maxRecDepth 100000
attribute [local irreducible] wpV wpList Code.wp

def gateU (S O L B : Option Nat) : Option Nat := if !fcmp .gtr .f32 (fop .sub .f32 L (maxO B (fop .quo .f32 O (some 1073741824)))) (some 0) then some 0 else (fop .mul .f32 (fop .mul .f32 S O) (rootO (fop .mul .f32 (some 1100805571) (fop .sub .f32 L (maxO B (fop .quo .f32 O (some 1073741824)))))))
def gateM (S O L B : Option Nat) : Option Nat := if !fcmp .gtr .f32 (fop .sub .f32 L (maxO B (fop .mul .f32 (some 1056964608) O))) (some 0) then some 0 else (fop .mul .f32 (fop .mul .f32 S O) (rootO (fop .mul .f32 (some 1100805571) (fop .sub .f32 L (maxO B (fop .mul .f32 (some 1056964608) O))))))
theorem gateM_eq {S O L B : Option Nat} : gateM S O L B = gateU S O L B := by unfold gateM gateU; rw [halfO]
def gateO (S O L B : Option Nat) : Option Nat × Bool := if amtO S && amtO O && fin32o L && fin32o B then onlyO (gateU S O L B) else (some 0, false)

set_option maxHeartbeats 1000000 in
theorem half_o {X : Option Nat} {x : Nat} (w : World)  (hx : Is32 X x) :
    Calls Try.prog 80 #[.float .f32 x] w (NumQ ((fop .quo .f32 X (some 1073741824))) w) := by
  go_enter Try.func80, Try.ntmps80
  go_wp2_with (first | ((with_reducible refine wpList_bin ?_); refine wpList_f32 rfl _ _ _ _ _ rfl rfl rfl (by decide) (by first | assumption | exact Is32.c (by decide)) (by first | assumption | exact Is32.c (by decide)) ?_; intro z n hz) | ((with_reducible refine wpList_bin ?_); refine wpList_c32 rfl _ _ _ _ _ rfl rfl rfl (by decide) (by first | assumption | exact Is32.c (by decide)) (by first | assumption | exact Is32.c (by decide)) ?_; intro bb hbb; cases bb))
  all_goals go_ret
  all_goals (refine ⟨_, rfl, ?_, (by first | exact ⟨_, rfl⟩ | exact drewC _ _ _ ⟨_, rfl⟩ | exact drewC _ _ _ (drewC _ _ _ ⟨_, rfl⟩))⟩; first | assumption  | (simp [*]; done) | (simp [*]; exact Is32.c (by decide)) | (simp [*]; assumption))

set_option maxHeartbeats 8000000 in
theorem gateUnder_i {S : Option Nat} {s : Nat} {O : Option Nat} {o : Nat} {L : Option Nat} {l : Nat} {B : Option Nat} {b : Nat} (w : World)  (hs : Is32 S s) (ho : Is32 O o) (hl : Is32 L l) (hb : Is32 B b) :
    Calls Try.prog 21 #[.float .f32 s, .float .f32 o, .float .f32 l, .float .f32 b] w (OnlyB (gateO S O L B) w) := by
  go_enter Try.func21, Try.ntmps21
  go_wp2_with (first | ((with_reducible refine wpList_bin ?_); refine wpList_f32 rfl _ _ _ _ _ rfl rfl rfl (by decide) (by first | assumption | exact Is32.c (by decide)) (by first | assumption | exact Is32.c (by decide)) ?_; intro z n hz) | ((with_reducible refine wpList_bin ?_); refine wpList_c32 rfl _ _ _ _ _ rfl rfl rfl (by decide) (by first | assumption | exact Is32.c (by decide)) (by first | assumption | exact Is32.c (by decide)) ?_; intro bb hbb; cases bb) | ((with_reducible refine wpList_mx ?_); refine wpList_max rfl _ _ _ rfl rfl rfl (by first | assumption | exact Is32.c (by decide)) (by first | assumption | exact Is32.c (by decide)) ?_; intro z n hz) | (go_at_call 70; refine (isAmount_o _ (by first | assumption | exact Is32.c (by decide))).mono ?_; rintro e w' ⟨bb, hbb, rfl, rfl⟩; cases bb) | (go_at_call 71; refine (isFin_o _ (by first | assumption | exact Is32.c (by decide))).mono ?_; rintro e w' ⟨bb, hbb, rfl, rfl⟩; cases bb) | (go_at_call 80; refine (half_o _ (by first | assumption | exact Is32.c (by decide))).mono ?_; rintro e w' ⟨z, rfl, hz, q, rfl⟩) | (go_at_call 72; refine (rootNumber_o _ (by first | assumption | exact Is32.c (by decide))).mono ?_; rintro e w' ⟨z, rfl, hz, q, rfl⟩) | (go_at_call 73; refine (finiteOnly_o _ (by first | assumption | exact Is32.c (by decide))).mono ?_; rintro e w' ⟨z, bb, rfl, hbb, hz, rfl⟩; cases bb))
  all_goals go_ret2
  all_goals (refine ⟨_, _, rfl, ?_, ?_, (by first | exact (Below.refl _ _) | exact beld (Below.refl _ _) _ | exact Below.alloc (by first | exact (Below.refl _ _) | exact beld (Below.refl _ _) _) (by first | (simp; done) | (simp; omega) | omega) _ | exact beld (Below.alloc (by first | exact (Below.refl _ _) | exact beld (Below.refl _ _) _) (by first | (simp; done) | (simp; omega) | omega) _) _)⟩; (simp [gateO, gateU, onlyO_zero, *]); first | (simp [gateO, gateU, onlyO_zero, *]; done) | (simp [gateO, gateU, onlyO_zero, *]; exact Is32.c (by decide)) | (simp [gateO, gateU, onlyO_zero, *]; assumption))

set_option maxHeartbeats 8000000 in
theorem l04Gate_o0 {S : Option Nat} {s : Nat} {O : Option Nat} {o : Nat} {L : Option Nat} {l : Nat} {B : Option Nat} {b : Nat} (w : World)  (hs : Is32 S s) (ho : Is32 O o) (hl : Is32 L l) (hb : Is32 B b) :
    Calls Try.prog 79 #[.float .f32 s, .float .f32 o, .float .f32 l, .float .f32 b] w (NumQ (gateM S O L B) w) := by
  go_enter Try.func79, Try.ntmps79
  go_wp2_with (first | ((with_reducible refine wpList_bin ?_); refine wpList_f32 rfl _ _ _ _ _ rfl rfl rfl (by decide) (by first | assumption | exact Is32.c (by decide)) (by first | assumption | exact Is32.c (by decide)) ?_; intro z n hz) | ((with_reducible refine wpList_bin ?_); refine wpList_c32 rfl _ _ _ _ _ rfl rfl rfl (by decide) (by first | assumption | exact Is32.c (by decide)) (by first | assumption | exact Is32.c (by decide)) ?_; intro bb hbb; cases bb) | ((with_reducible refine wpList_mx ?_); refine wpList_max rfl _ _ _ rfl rfl rfl (by first | assumption | exact Is32.c (by decide)) (by first | assumption | exact Is32.c (by decide)) ?_; intro z n hz) | (go_at_call 85; refine (l01Sqrt_o _ (by first | assumption | exact Is32.c (by decide))).mono ?_; rintro e w' ⟨z, rfl, hz, q, rfl⟩))
  all_goals go_ret
  all_goals (refine ⟨_, rfl, ?_, (by first | exact ⟨_, rfl⟩ | exact drewC _ _ _ ⟨_, rfl⟩ | exact drewC _ _ _ (drewC _ _ _ ⟨_, rfl⟩))⟩; first | assumption  | (simp [gateM, *]; done) | (simp [gateM, *]; exact Is32.c (by decide)) | (simp [gateM, *]; assumption))

theorem l04Gate_o {S : Option Nat} {s : Nat} {O : Option Nat} {o : Nat} {L : Option Nat} {l : Nat} {B : Option Nat} {b : Nat} (w : World) (hs : Is32 S s) (ho : Is32 O o) (hl : Is32 L l) (hb : Is32 B b) :
    Calls Try.prog 79 #[.float .f32 s, .float .f32 o, .float .f32 l, .float .f32 b] w (NumQ (gateU S O L B) w) := gateM_eq ▸ l04Gate_o0 w hs ho hl hb

set_option maxHeartbeats 8000000 in
theorem gateUnder_s {S : Option Nat} {s : Nat} {O : Option Nat} {o : Nat} {L : Option Nat} {l : Nat} {B : Option Nat} {b : Nat} (w : World)  (hs : Is32 S s) (ho : Is32 O o) (hl : Is32 L l) (hb : Is32 B b) :
    Calls Try.prog 20 #[.float .f32 s, .float .f32 o, .float .f32 l, .float .f32 b] w (OnlyB (gateO S O L B) w) := by
  go_enter Try.func20, Try.ntmps20
  go_wp2_with (first | ((with_reducible refine wpList_bin ?_); refine wpList_f32 rfl _ _ _ _ _ rfl rfl rfl (by decide) (by first | assumption | exact Is32.c (by decide)) (by first | assumption | exact Is32.c (by decide)) ?_; intro z n hz) | ((with_reducible refine wpList_bin ?_); refine wpList_c32 rfl _ _ _ _ _ rfl rfl rfl (by decide) (by first | assumption | exact Is32.c (by decide)) (by first | assumption | exact Is32.c (by decide)) ?_; intro bb hbb; cases bb) | (go_at_call 66; refine (l02Least_o _ (by first | assumption | exact Is32.c (by decide))).mono ?_; rintro e w' ⟨bb, hbb, rfl, q, rfl⟩; cases bb) | (go_at_call 67; refine (l01Fin_o _ (by first | assumption | exact Is32.c (by decide))).mono ?_; rintro e w' ⟨bb, hbb, rfl, q, rfl⟩; cases bb) | (go_at_call 79; refine (l04Gate_o _ (by first | assumption | exact Is32.c (by decide)) (by first | assumption | exact Is32.c (by decide)) (by first | assumption | exact Is32.c (by decide)) (by first | assumption | exact Is32.c (by decide))).mono ?_; rintro e w' ⟨z, rfl, hz, q, rfl⟩) | (go_at_call 68; refine (l02Number_o _ (by first | assumption | exact Is32.c (by decide))).mono ?_; rintro e w' ⟨z, bb, rfl, hbb, hz, q, rfl⟩; cases bb))
  all_goals go_ret2
  all_goals (refine ⟨_, _, rfl, ?_, ?_, (by first | exact (Below.refl _ _) | exact beld (Below.refl _ _) _ | exact Below.alloc (by first | exact (Below.refl _ _) | exact beld (Below.refl _ _) _) (by first | (simp; done) | (simp; omega) | omega) _ | exact beld (Below.alloc (by first | exact (Below.refl _ _) | exact beld (Below.refl _ _) _) (by first | (simp; done) | (simp; omega) | omega) _) _)⟩; (simp [gateO, *]); first | (simp [gateO, *]; done) | (simp [gateO, *]; exact Is32.c (by decide)) | (simp [gateO, *]; assumption))

end Go.Proofs.Ytgjgggclcmcpgac
