/- The least of some numbers: the program. -/
import Derived.Test.YtdoecpghlfjhiacStepM
import Derived.Test.YtdoecpghlfjhiacLeastO
import Derived.IntWalk
namespace Go.Proofs.Ytdoecpghlfjhiac
open Go.RowKit Go.Proofs
set_option linter.unusedVariables false
set_option linter.unusedSimpArgs false

set_option maxHeartbeats 1000000 in
theorem atMost_o {X Y : Option Nat} {x y : Nat} (w : World) (hx : Is32 X x) (hy : Is32 Y y) :
    Calls Try.prog 159 #[.float .f32 x, .float .f32 y] w (NumB (capO X Y) w) := by
  go_enter Try.func159, Try.ntmps159
  go_wp2_with fail
  refine (leastOf_o _ _ [y] [Y] _ hx rfl (fun i hi => by
    obtain rfl : i = 0 := by simp at hi; omega
    exact hy) (row1 _ _ _ (by simp) (by simp [go_sem])) (by simp)).mono ?_
  rintro e w' ⟨r, rfl, hr, rfl⟩
  go_wp2_with fail
  go_ret
  exact ⟨r, rfl, by rw [capO_min]; exact hr, bel1 _ _⟩
end Go.Proofs.Ytdoecpghlfjhiac
