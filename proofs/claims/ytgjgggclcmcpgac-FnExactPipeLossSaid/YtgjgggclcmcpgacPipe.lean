/- Drops of pipes: the program and its model alike. -/
import Derived.Test.YtgjgggclcmcpgacWeir
import Derived.Test.YtgjgggclcmcpgacMAbs
namespace Go.Proofs.Ytgjgggclcmcpgac
open Go.RowKit
set_option linter.unusedVariables false
set_option linter.unusedSimpArgs false
set_option maxRecDepth 100000
attribute [local irreducible] wpV wpList Code.wp

set_option maxHeartbeats 8000000 in
theorem pipeLoss_i {F : Option Nat} {f : Nat} {I : Option Nat} {i : Nat} {L : Option Nat} {l : Nat} {R : Option Nat} {r : Nat} (w : World)  (hf : Is32 F f) (hi : Is32 I i) (hl : Is32 L l) (hr : Is32 R r) :
    Calls Try.prog 23 #[.float .f32 f, .float .f32 i, .float .f32 l, .float .f32 r] w (OnlyB (lossO F I L R) w) := by
  go_enter Try.func23, Try.ntmps23
  go_wp2_with (first | ((with_reducible refine wpList_bin ?_); refine wpList_f32 rfl _ _ _ _ _ rfl rfl rfl (by decide) (by first | assumption | exact Is32.c (by decide)) (by first | assumption | exact Is32.c (by decide)) ?_; intro z n hz) | ((with_reducible refine wpList_bin ?_); refine wpList_c32 rfl _ _ _ _ _ rfl rfl rfl (by decide) (by first | assumption | exact Is32.c (by decide)) (by first | assumption | exact Is32.c (by decide)) ?_; intro bb hbb; cases bb) | ((with_reducible refine wpList_cv ?_); refine wpList_narrow rfl _ _ _ rfl rfl (by kernel_rfl) Try.underlying22 Hab.out ?_; intro z q hz) | ((with_reducible refine wpList_cv ?_); refine wpList_widen rfl _ _ _ rfl rfl (by kernel_rfl) Try.underlying26 (by assumption) ?_; intro y q hy; have Hab := Lib.hid (abs_wide (by assumption) (fun b hb => quo_num hb) hy)) | (go_at_call 84; refine (mathAbs_any _ Hab.out.1 _).mono ?_; rintro e w' ⟨rfl, rfl⟩) | (go_at_call 71; refine (isFin_o _ (by first | assumption | exact Is32.c (by decide))).mono ?_; rintro e w' ⟨bb, hbb, rfl, rfl⟩; cases bb) | (go_at_call 77; refine (isPositive_o _ (by first | assumption | exact Is32.c (by decide))).mono ?_; rintro e w' ⟨bb, hbb, rfl, rfl⟩; cases bb) | (go_at_call 83; refine (pipeArea_o _ (by first | assumption | exact Is32.c (by decide))).mono ?_; rintro e w' ⟨z, rfl, hz, q, rfl⟩) | (go_at_call 73; refine (finiteOnly_o _ (by first | assumption | exact Is32.c (by decide))).mono ?_; rintro e w' ⟨z, bb, rfl, hbb, hz, rfl⟩; cases bb))
  all_goals go_ret2
  all_goals (refine ⟨_, _, rfl, ?_, ?_, (by first | exact (Below.refl _ _) | exact beld (Below.refl _ _) _ | exact Below.alloc (by first | exact (Below.refl _ _) | exact beld (Below.refl _ _) _) (by first | (simp; done) | (simp; omega) | omega) _ | exact beld (Below.alloc (by first | exact (Below.refl _ _) | exact beld (Below.refl _ _) _) (by first | (simp; done) | (simp; omega) | omega) _) _)⟩; (simp [lossO, pipeO, roundU, *]); first | (simp [lossO, pipeO, roundU, *]; done) | (simp [lossO, pipeO, roundU, *]; exact Is32.c (by decide)) | (simp [lossO, pipeO, roundU, *]; assumption))

theorem lossZ {F I : Option Nat} (h : fcmp .leq .f32 (fop .quo .f32 F (fop .mul .f32 (fop .mul .f32 (some 1061752795) I) I)) (some 0) = true) : absO (fop .quo .f32 F (fop .mul .f32 (fop .mul .f32 (some 1061752795) I) I)) = fop .sub .f32 (some 0) (fop .quo .f32 F (fop .mul .f32 (fop .mul .f32 (some 1061752795) I) I)) := by
  have := sizeO_quo F (roundU I)
  unfold roundU at this
  unfold sizeO at this
  rw [h] at this
  exact this.symm
theorem lossP {F I : Option Nat} (h : fcmp .leq .f32 (fop .quo .f32 F (fop .mul .f32 (fop .mul .f32 (some 1061752795) I) I)) (some 0) = false) : absO (fop .quo .f32 F (fop .mul .f32 (fop .mul .f32 (some 1061752795) I) I)) = (fop .quo .f32 F (fop .mul .f32 (fop .mul .f32 (some 1061752795) I) I)) := by
  have := sizeO_quo F (roundU I)
  unfold roundU at this
  unfold sizeO at this
  rw [h] at this
  exact this.symm

set_option maxHeartbeats 8000000 in
theorem pipeLoss_s {F : Option Nat} {f : Nat} {I : Option Nat} {i : Nat} {L : Option Nat} {l : Nat} {R : Option Nat} {r : Nat} (w : World)  (hf : Is32 F f) (hi : Is32 I i) (hl : Is32 L l) (hr : Is32 R r) :
    Calls Try.prog 22 #[.float .f32 f, .float .f32 i, .float .f32 l, .float .f32 r] w (OnlyB (lossO F I L R) w) := by
  go_enter Try.func22, Try.ntmps22
  go_wp2_with (first | ((with_reducible refine wpList_bin ?_); refine wpList_f32 rfl _ _ _ _ _ rfl rfl rfl (by decide) (by first | assumption | exact Is32.c (by decide)) (by first | assumption | exact Is32.c (by decide)) ?_; intro z n hz) | ((with_reducible refine wpList_bin ?_); refine wpList_c32 rfl _ _ _ _ _ rfl rfl rfl (by decide) (by first | assumption | exact Is32.c (by decide)) (by first | assumption | exact Is32.c (by decide)) ?_; intro bb hbb; cases bb) | (go_at_call 81; refine (l04Pipe_o _ (by first | assumption | exact Is32.c (by decide)) (by first | assumption | exact Is32.c (by decide)) (by first | assumption | exact Is32.c (by decide))).mono ?_; rintro e w' ⟨bb, hbb, rfl, q, rfl⟩; cases bb) | (go_at_call 67; refine (l01Fin_o _ (by first | assumption | exact Is32.c (by decide))).mono ?_; rintro e w' ⟨bb, hbb, rfl, q, rfl⟩; cases bb) | (go_at_call 82; refine (l04Round_o _ (by first | assumption | exact Is32.c (by decide))).mono ?_; rintro e w' ⟨z, rfl, hz, q, rfl⟩) | (go_at_call 68; refine (l02Number_o _ (by first | assumption | exact Is32.c (by decide))).mono ?_; rintro e w' ⟨z, bb, rfl, hbb, hz, q, rfl⟩; cases bb))
  all_goals go_ret2
  all_goals (refine ⟨_, _, rfl, ?_, ?_, (by first | exact (Below.refl _ _) | exact beld (Below.refl _ _) _ | exact Below.alloc (by first | exact (Below.refl _ _) | exact beld (Below.refl _ _) _) (by first | (simp; done) | (simp; omega) | omega) _ | exact beld (Below.alloc (by first | exact (Below.refl _ _) | exact beld (Below.refl _ _) _) (by first | (simp; done) | (simp; omega) | omega) _) _)⟩; (try have hq1 := lossZ (F := F) (I := I) (by assumption)); (try have hq2 := lossP (F := F) (I := I) (by assumption)); (simp [lossO, roundU, *]); (try have hq1 := lossZ (F := F) (I := I) (by assumption)); (try have hq2 := lossP (F := F) (I := I) (by assumption)); first | (simp [lossO, roundU, *]; done) | (simp [lossO, roundU, *]; exact Is32.c (by decide)) | (simp [lossO, roundU, *]; assumption))

end Go.Proofs.Ytgjgggclcmcpgac
