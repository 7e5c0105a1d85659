/- Weirs and pipes: the program and its model alike. -/
import Derived.Test.YtgjgggclcmcpgacRainA
import Derived.Test.YtgjgggclcmcpgacRootO
import Derived.Test.YtgjgggclcmcpgacAbsO
namespace Go.Proofs.Ytgjgggclcmcpgac
open Go.RowKit
set_option linter.unusedVariables false
set_option linter.unusedSimpArgs false
set_option maxRecDepth 100000
attribute [local irreducible] wpV wpList Code.wp

def weirU (S C L B : Option Nat) : Option Nat := if !fcmp .gtr .f32 (fop .sub .f32 L C) (some 0) then some 0 else if !fcmp .gtr .f32 B C then (fop .mul .f32 (fop .mul .f32 S (fop .sub .f32 L C)) (rootO (fop .sub .f32 L C))) else if !fcmp .lss .f32 (fop .quo .f32 (fop .sub .f32 B C) (fop .sub .f32 L C)) (some 1065353216) then some 0 else (fop .mul .f32 (fop .mul .f32 (fop .mul .f32 S (fop .sub .f32 L C)) (rootO (fop .sub .f32 L C))) (rootO (fop .sub .f32 (some 1065353216) (fop .mul .f32 (fop .quo .f32 (fop .sub .f32 B C) (fop .sub .f32 L C)) (fop .quo .f32 (fop .sub .f32 B C) (fop .sub .f32 L C))))))
def weirO (S C L B : Option Nat) : Option Nat × Bool := if amtO S && fin32o C && fin32o L && fin32o B then onlyO (weirU S C L B) else (some 0, false)
def roundU (I : Option Nat) : Option Nat := (fop .mul .f32 (fop .mul .f32 (some 1061752795) I) I)
def pipeO (I L R : Option Nat) : Bool := posO I && posO L && posO R
def lossO (F I L R : Option Nat) : Option Nat × Bool := if pipeO I L R && fin32o F then onlyO (fop .quo .f32 (fop .mul .f32 (fop .mul .f32 (fop .mul .f32 R (fop .quo .f32 L I)) (fop .quo .f32 F (roundU I))) (absO (fop .quo .f32 F (roundU I)))) (some 1100805571)) else (some 0, false)
def pflowO (D I L R : Option Nat) : Option Nat × Bool := if pipeO I L R && amtO D then onlyO (fop .mul .f32 (roundU I) (rootO (fop .quo .f32 (fop .mul .f32 (fop .mul .f32 (some 1100805571) D) I) (fop .mul .f32 R L)))) else (some 0, false)

set_option maxHeartbeats 8000000 in
theorem weirOver_i {S : Option Nat} {s : Nat} {C : Option Nat} {c : Nat} {L : Option Nat} {l : Nat} {B : Option Nat} {b : Nat} (w : World)  (hs : Is32 S s) (hc : Is32 C c) (hl : Is32 L l) (hb : Is32 B b) :
    Calls Try.prog 16 #[.float .f32 s, .float .f32 c, .float .f32 l, .float .f32 b] w (OnlyB (weirO S C L B) w) := by
  go_enter Try.func16, Try.ntmps16
  go_wp2_with (first | ((with_reducible refine wpList_bin ?_); refine wpList_f32 rfl _ _ _ _ _ rfl rfl rfl (by decide) (by first | assumption | exact Is32.c (by decide)) (by first | assumption | exact Is32.c (by decide)) ?_; intro z n hz) | ((with_reducible refine wpList_bin ?_); refine wpList_c32 rfl _ _ _ _ _ rfl rfl rfl (by decide) (by first | assumption | exact Is32.c (by decide)) (by first | assumption | exact Is32.c (by decide)) ?_; intro bb hbb; cases bb) | (go_at_call 70; refine (isAmount_o _ (by first | assumption | exact Is32.c (by decide))).mono ?_; rintro e w' ⟨bb, hbb, rfl, rfl⟩; cases bb) | (go_at_call 71; refine (isFin_o _ (by first | assumption | exact Is32.c (by decide))).mono ?_; rintro e w' ⟨bb, hbb, rfl, rfl⟩; cases bb) | (go_at_call 72; refine (rootNumber_o _ (by first | assumption | exact Is32.c (by decide))).mono ?_; rintro e w' ⟨z, rfl, hz, q, rfl⟩) | (go_at_call 73; refine (finiteOnly_o _ (by first | assumption | exact Is32.c (by decide))).mono ?_; rintro e w' ⟨z, bb, rfl, hbb, hz, rfl⟩; cases bb))
  all_goals go_ret2
  all_goals (refine ⟨_, _, rfl, ?_, ?_, (by first | exact (Below.refl _ _) | exact beld (Below.refl _ _) _ | exact Below.alloc (by first | exact (Below.refl _ _) | exact beld (Below.refl _ _) _) (by first | (simp; done) | (simp; omega) | omega) _ | exact beld (Below.alloc (by first | exact (Below.refl _ _) | exact beld (Below.refl _ _) _) (by first | (simp; done) | (simp; omega) | omega) _) _)⟩; (simp [weirO, weirU, onlyO_zero, *]); first | (simp [weirO, weirU, onlyO_zero, *]; done) | (simp [weirO, weirU, onlyO_zero, *]; exact Is32.c (by decide)) | (simp [weirO, weirU, onlyO_zero, *]; assumption))

set_option maxHeartbeats 8000000 in
theorem l04Weir_o {S : Option Nat} {s : Nat} {C : Option Nat} {c : Nat} {L : Option Nat} {l : Nat} {B : Option Nat} {b : Nat} (w : World)  (hs : Is32 S s) (hc : Is32 C c) (hl : Is32 L l) (hb : Is32 B b) :
    Calls Try.prog 69 #[.float .f32 s, .float .f32 c, .float .f32 l, .float .f32 b] w (NumQ (weirU S C L B) w) := by
  go_enter Try.func69, Try.ntmps69
  go_wp2_with (first | ((with_reducible refine wpList_bin ?_); refine wpList_f32 rfl _ _ _ _ _ rfl rfl rfl (by decide) (by first | assumption | exact Is32.c (by decide)) (by first | assumption | exact Is32.c (by decide)) ?_; intro z n hz) | ((with_reducible refine wpList_bin ?_); refine wpList_c32 rfl _ _ _ _ _ rfl rfl rfl (by decide) (by first | assumption | exact Is32.c (by decide)) (by first | assumption | exact Is32.c (by decide)) ?_; intro bb hbb; cases bb) | (go_at_call 85; refine (l01Sqrt_o _ (by first | assumption | exact Is32.c (by decide))).mono ?_; rintro e w' ⟨z, rfl, hz, q, rfl⟩))
  all_goals go_ret
  all_goals (refine ⟨_, rfl, ?_, (by first | exact ⟨_, rfl⟩ | exact drewC _ _ _ ⟨_, rfl⟩ | exact drewC _ _ _ (drewC _ _ _ ⟨_, rfl⟩))⟩; first | assumption  | (simp [weirU, *]; done) | (simp [weirU, *]; exact Is32.c (by decide)) | (simp [weirU, *]; assumption))

set_option maxHeartbeats 8000000 in
theorem weirOver_s {S : Option Nat} {s : Nat} {C : Option Nat} {c : Nat} {L : Option Nat} {l : Nat} {B : Option Nat} {b : Nat} (w : World)  (hs : Is32 S s) (hc : Is32 C c) (hl : Is32 L l) (hb : Is32 B b) :
    Calls Try.prog 15 #[.float .f32 s, .float .f32 c, .float .f32 l, .float .f32 b] w (OnlyB (weirO S C L B) w) := by
  go_enter Try.func15, Try.ntmps15
  go_wp2_with (first | ((with_reducible refine wpList_bin ?_); refine wpList_f32 rfl _ _ _ _ _ rfl rfl rfl (by decide) (by first | assumption | exact Is32.c (by decide)) (by first | assumption | exact Is32.c (by decide)) ?_; intro z n hz) | ((with_reducible refine wpList_bin ?_); refine wpList_c32 rfl _ _ _ _ _ rfl rfl rfl (by decide) (by first | assumption | exact Is32.c (by decide)) (by first | assumption | exact Is32.c (by decide)) ?_; intro bb hbb; cases bb) | (go_at_call 66; refine (l02Least_o _ (by first | assumption | exact Is32.c (by decide))).mono ?_; rintro e w' ⟨bb, hbb, rfl, q, rfl⟩; cases bb) | (go_at_call 67; refine (l01Fin_o _ (by first | assumption | exact Is32.c (by decide))).mono ?_; rintro e w' ⟨bb, hbb, rfl, q, rfl⟩; cases bb) | (go_at_call 69; refine (l04Weir_o _ (by first | assumption | exact Is32.c (by decide)) (by first | assumption | exact Is32.c (by decide)) (by first | assumption | exact Is32.c (by decide)) (by first | assumption | exact Is32.c (by decide))).mono ?_; rintro e w' ⟨z, rfl, hz, q, rfl⟩) | (go_at_call 68; refine (l02Number_o _ (by first | assumption | exact Is32.c (by decide))).mono ?_; rintro e w' ⟨z, bb, rfl, hbb, hz, q, rfl⟩; cases bb))
  all_goals go_ret2
  all_goals (refine ⟨_, _, rfl, ?_, ?_, (by first | exact (Below.refl _ _) | exact beld (Below.refl _ _) _ | exact Below.alloc (by first | exact (Below.refl _ _) | exact beld (Below.refl _ _) _) (by first | (simp; done) | (simp; omega) | omega) _ | exact beld (Below.alloc (by first | exact (Below.refl _ _) | exact beld (Below.refl _ _) _) (by first | (simp; done) | (simp; omega) | omega) _) _)⟩; (simp [weirO, *]); first | (simp [weirO, *]; done) | (simp [weirO, *]; exact Is32.c (by decide)) | (simp [weirO, *]; assumption))

set_option maxHeartbeats 1000000 in
theorem pipeArea_o {V : Option Nat} {v : Nat} (w : World)  (hv : Is32 V v) :
    Calls Try.prog 83 #[.float .f32 v] w (NumQ ((fop .mul .f32 (fop .mul .f32 (some 1061752795) V) V)) w) := by
  go_enter Try.func83, Try.ntmps83
  go_wp2_with (first | ((with_reducible refine wpList_bin ?_); refine wpList_f32 rfl _ _ _ _ _ rfl rfl rfl (by decide) (by first | assumption | exact Is32.c (by decide)) (by first | assumption | exact Is32.c (by decide)) ?_; intro z n hz) | ((with_reducible refine wpList_bin ?_); refine wpList_c32 rfl _ _ _ _ _ rfl rfl rfl (by decide) (by first | assumption | exact Is32.c (by decide)) (by first | assumption | exact Is32.c (by decide)) ?_; intro bb hbb; cases bb))
  all_goals go_ret
  all_goals (refine ⟨_, rfl, ?_, (by first | exact ⟨_, rfl⟩ | exact drewC _ _ _ ⟨_, rfl⟩ | exact drewC _ _ _ (drewC _ _ _ ⟨_, rfl⟩))⟩; first | assumption  | (simp [*]; done) | (simp [*]; exact Is32.c (by decide)) | (simp [*]; assumption))

set_option maxHeartbeats 1000000 in
theorem l04Round_o {V : Option Nat} {v : Nat} (w : World)  (hv : Is32 V v) :
    Calls Try.prog 82 #[.float .f32 v] w (NumQ ((fop .mul .f32 (fop .mul .f32 (some 1061752795) V) V)) w) := by
  go_enter Try.func82, Try.ntmps82
  go_wp2_with (first | ((with_reducible refine wpList_bin ?_); refine wpList_f32 rfl _ _ _ _ _ rfl rfl rfl (by decide) (by first | assumption | exact Is32.c (by decide)) (by first | assumption | exact Is32.c (by decide)) ?_; intro z n hz) | ((with_reducible refine wpList_bin ?_); refine wpList_c32 rfl _ _ _ _ _ rfl rfl rfl (by decide) (by first | assumption | exact Is32.c (by decide)) (by first | assumption | exact Is32.c (by decide)) ?_; intro bb hbb; cases bb))
  all_goals go_ret
  all_goals (refine ⟨_, rfl, ?_, (by first | exact ⟨_, rfl⟩ | exact drewC _ _ _ ⟨_, rfl⟩ | exact drewC _ _ _ (drewC _ _ _ ⟨_, rfl⟩))⟩; first | assumption  | (simp [*]; done) | (simp [*]; exact Is32.c (by decide)) | (simp [*]; assumption))

set_option maxHeartbeats 1000000 in
theorem l04Pipe_o {I : Option Nat} {i : Nat} {L : Option Nat} {l : Nat} {R : Option Nat} {r : Nat} (w : World)  (hi : Is32 I i) (hl : Is32 L l) (hr : Is32 R r) :
    Calls Try.prog 81 #[.float .f32 i, .float .f32 l, .float .f32 r] w (SayQ (pipeO I L R) w) := by
  go_enter Try.func81, Try.ntmps81
  go_wp2_with (first | ((with_reducible refine wpList_bin ?_); refine wpList_f32 rfl _ _ _ _ _ rfl rfl rfl (by decide) (by first | assumption | exact Is32.c (by decide)) (by first | assumption | exact Is32.c (by decide)) ?_; intro z n hz) | ((with_reducible refine wpList_bin ?_); refine wpList_c32 rfl _ _ _ _ _ rfl rfl rfl (by decide) (by first | assumption | exact Is32.c (by decide)) (by first | assumption | exact Is32.c (by decide)) ?_; intro bb hbb; cases bb) | (go_at_call 74; refine (l02Above_o _ (by first | assumption | exact Is32.c (by decide))).mono ?_; rintro e w' ⟨bb, hbb, rfl, q, rfl⟩; cases bb))
  all_goals go_ret
  all_goals (refine ⟨_, ?_, rfl, (by first | exact ⟨_, rfl⟩ | exact drewC _ _ _ ⟨_, rfl⟩ | exact drewC _ _ _ (drewC _ _ _ ⟨_, rfl⟩))⟩; simp [pipeO, *])

set_option maxHeartbeats 8000000 in
theorem pipeFlow_i {D : Option Nat} {d : Nat} {I : Option Nat} {i : Nat} {L : Option Nat} {l : Nat} {R : Option Nat} {r : Nat} (w : World)  (hd : Is32 D d) (hi : Is32 I i) (hl : Is32 L l) (hr : Is32 R r) :
    Calls Try.prog 25 #[.float .f32 d, .float .f32 i, .float .f32 l, .float .f32 r] w (OnlyB (pflowO D I L R) w) := by
  go_enter Try.func25, Try.ntmps25
  go_wp2_with (first | ((with_reducible refine wpList_bin ?_); refine wpList_f32 rfl _ _ _ _ _ rfl rfl rfl (by decide) (by first | assumption | exact Is32.c (by decide)) (by first | assumption | exact Is32.c (by decide)) ?_; intro z n hz) | ((with_reducible refine wpList_bin ?_); refine wpList_c32 rfl _ _ _ _ _ rfl rfl rfl (by decide) (by first | assumption | exact Is32.c (by decide)) (by first | assumption | exact Is32.c (by decide)) ?_; intro bb hbb; cases bb) | (go_at_call 70; refine (isAmount_o _ (by first | assumption | exact Is32.c (by decide))).mono ?_; rintro e w' ⟨bb, hbb, rfl, rfl⟩; cases bb) | (go_at_call 77; refine (isPositive_o _ (by first | assumption | exact Is32.c (by decide))).mono ?_; rintro e w' ⟨bb, hbb, rfl, rfl⟩; cases bb) | (go_at_call 83; refine (pipeArea_o _ (by first | assumption | exact Is32.c (by decide))).mono ?_; rintro e w' ⟨z, rfl, hz, q, rfl⟩) | (go_at_call 72; refine (rootNumber_o _ (by first | assumption | exact Is32.c (by decide))).mono ?_; rintro e w' ⟨z, rfl, hz, q, rfl⟩) | (go_at_call 73; refine (finiteOnly_o _ (by first | assumption | exact Is32.c (by decide))).mono ?_; rintro e w' ⟨z, bb, rfl, hbb, hz, rfl⟩; cases bb))
  all_goals go_ret2
  all_goals (refine ⟨_, _, rfl, ?_, ?_, (by first | exact (Below.refl _ _) | exact beld (Below.refl _ _) _ | exact Below.alloc (by first | exact (Below.refl _ _) | exact beld (Below.refl _ _) _) (by first | (simp; done) | (simp; omega) | omega) _ | exact beld (Below.alloc (by first | exact (Below.refl _ _) | exact beld (Below.refl _ _) _) (by first | (simp; done) | (simp; omega) | omega) _) _)⟩; (simp [pflowO, pipeO, roundU, *]); first | (simp [pflowO, pipeO, roundU, *]; done) | (simp [pflowO, pipeO, roundU, *]; exact Is32.c (by decide)) | (simp [pflowO, pipeO, roundU, *]; assumption))

set_option maxHeartbeats 8000000 in
theorem pipeFlow_s {D : Option Nat} {d : Nat} {I : Option Nat} {i : Nat} {L : Option Nat} {l : Nat} {R : Option Nat} {r : Nat} (w : World)  (hd : Is32 D d) (hi : Is32 I i) (hl : Is32 L l) (hr : Is32 R r) :
    Calls Try.prog 24 #[.float .f32 d, .float .f32 i, .float .f32 l, .float .f32 r] w (OnlyB (pflowO D I L R) w) := by
  go_enter Try.func24, Try.ntmps24
  go_wp2_with (first | ((with_reducible refine wpList_bin ?_); refine wpList_f32 rfl _ _ _ _ _ rfl rfl rfl (by decide) (by first | assumption | exact Is32.c (by decide)) (by first | assumption | exact Is32.c (by decide)) ?_; intro z n hz) | ((with_reducible refine wpList_bin ?_); refine wpList_c32 rfl _ _ _ _ _ rfl rfl rfl (by decide) (by first | assumption | exact Is32.c (by decide)) (by first | assumption | exact Is32.c (by decide)) ?_; intro bb hbb; cases bb) | (go_at_call 66; refine (l02Least_o _ (by first | assumption | exact Is32.c (by decide))).mono ?_; rintro e w' ⟨bb, hbb, rfl, q, rfl⟩; cases bb) | (go_at_call 81; refine (l04Pipe_o _ (by first | assumption | exact Is32.c (by decide)) (by first | assumption | exact Is32.c (by decide)) (by first | assumption | exact Is32.c (by decide))).mono ?_; rintro e w' ⟨bb, hbb, rfl, q, rfl⟩; cases bb) | (go_at_call 82; refine (l04Round_o _ (by first | assumption | exact Is32.c (by decide))).mono ?_; rintro e w' ⟨z, rfl, hz, q, rfl⟩) | (go_at_call 85; refine (l01Sqrt_o _ (by first | assumption | exact Is32.c (by decide))).mono ?_; rintro e w' ⟨z, rfl, hz, q, rfl⟩) | (go_at_call 68; refine (l02Number_o _ (by first | assumption | exact Is32.c (by decide))).mono ?_; rintro e w' ⟨z, bb, rfl, hbb, hz, q, rfl⟩; cases bb))
  all_goals go_ret2
  all_goals (refine ⟨_, _, rfl, ?_, ?_, (by first | exact (Below.refl _ _) | exact beld (Below.refl _ _) _ | exact Below.alloc (by first | exact (Below.refl _ _) | exact beld (Below.refl _ _) _) (by first | (simp; done) | (simp; omega) | omega) _ | exact beld (Below.alloc (by first | exact (Below.refl _ _) | exact beld (Below.refl _ _) _) (by first | (simp; done) | (simp; omega) | omega) _) _)⟩; (simp [pflowO, roundU, *]); first | (simp [pflowO, roundU, *]; done) | (simp [pflowO, roundU, *]; exact Is32.c (by decide)) | (simp [pflowO, roundU, *]; assumption))

end Go.Proofs.Ytgjgggclcmcpgac
