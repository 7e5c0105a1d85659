/- The half of a number, as the program takes it. -/
import Derived.Test.YtdoecpghlfjhiaaRainA
import Derived.Test.YtdoecpghlfjhiaaHalf
namespace Go.Proofs.Ytdoecpghlfjhiaa
open Go.RowKit
set_option linter.unusedVariables false
set_option linter.unusedSimpArgs false
set_option maxRecDepth 100000
attribute [local irreducible] wpV wpList Code.wp

set_option maxHeartbeats 1000000 in
theorem half_o {X : Option Nat} {x : Nat} (w : World)  (hx : Is32 X x) :
    Calls Try.prog 71 #[.float .f32 x] w (NumQ ((fop .quo .f32 X (some 1073741824))) w) := by
  go_enter Try.func71, Try.ntmps71
  go_wp2_with (first | ((with_reducible refine wpList_bin ?_); refine wpList_f32 rfl _ _ _ _ _ rfl rfl rfl (by decide) (by first | assumption | exact Is32.c (by decide)) (by first | assumption | exact Is32.c (by decide)) ?_; intro z n hz) | ((with_reducible refine wpList_bin ?_); refine wpList_c32 rfl _ _ _ _ _ rfl rfl rfl (by decide) (by first | assumption | exact Is32.c (by decide)) (by first | assumption | exact Is32.c (by decide)) ?_; intro bb hbb; cases bb))
  all_goals go_ret
  all_goals (refine ⟨_, rfl, ?_, (by first | exact ⟨_, rfl⟩ | exact ⟨0, rfl⟩ | exact drewC _ _ _ ⟨_, rfl⟩ | exact drewC _ _ _ (drewC _ _ _ ⟨_, rfl⟩) | exact drewC _ _ _ (drewC _ _ _ (drewC _ _ _ ⟨_, rfl⟩)) | exact drewC _ _ _ (drewC _ _ _ (drewC _ _ _ (drewC _ _ _ ⟨_, rfl⟩))))⟩; first | assumption  | (simp [*]; done) | (simp [*]; exact Is32.c (by decide)) | (simp [*]; assumption))

end Go.Proofs.Ytdoecpghlfjhiaa
