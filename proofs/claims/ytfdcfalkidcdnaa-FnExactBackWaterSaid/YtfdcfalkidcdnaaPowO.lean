/- Powers by logarithms: the program and its model alike. -/
import Derived.Test.YtfdcfalkidcdnaaRainA
import Derived.Test.YtfdcfalkidcdnaaLogB
namespace Go.Proofs.Ytfdcfalkidcdnaa
open Go.RowKit
set_option linter.unusedVariables false
set_option linter.unusedSimpArgs false
set_option maxRecDepth 100000
attribute [local irreducible] wpV wpList Code.wp

def powO (X : Option Nat) : Option Nat := expO (fop .mul .f32 (some 1059760811) (logO X))
theorem powO_ne (X : Option Nat) : ∃ z, Is32 (powO X) z := expO_ne _

set_option maxHeartbeats 1000000 in
theorem powerTo_o {X : Option Nat} {x : Nat}  (w : World)  (hx : Is32 X x) :
    Calls Try.prog 80 #[.float .f32 x, .float .f32 1059760811] w (NumQ (powO X) w) := by
  go_enter Try.func80, Try.ntmps80
  go_wp2_with (first | ((with_reducible refine wpList_bin ?_); refine wpList_f32 rfl _ _ _ _ _ rfl rfl rfl (by decide) (by first | assumption | exact Is32.c (by decide)) (by first | assumption | exact Is32.c (by decide)) ?_; intro z n hz) | ((with_reducible refine wpList_bin ?_); refine wpList_c32 rfl _ _ _ _ _ rfl rfl rfl (by decide) (by first | assumption | exact Is32.c (by decide)) (by first | assumption | exact Is32.c (by decide)) ?_; intro bb hbb; cases bb) | (go_at_call 107; refine (logNumber_o _ (by first | assumption | exact Is32.c (by decide))).mono ?_; rintro e w' ⟨z, rfl, hz, q, rfl⟩) | (go_at_call 106; refine (expNumber_o _ (by first | assumption | exact Is32.c (by decide)) (thirds_rng _)).mono ?_; rintro e w' ⟨z, rfl, hz, q, rfl⟩))
  all_goals go_ret
  all_goals (refine ⟨_, rfl, ?_, (by first | exact ⟨_, rfl⟩ | exact drewC _ _ _ ⟨_, rfl⟩ | exact drewC _ _ _ (drewC _ _ _ ⟨_, rfl⟩))⟩; first | assumption  | (simp [powO, *]; done) | (simp [powO, *]; exact Is32.c (by decide)) | (simp [powO, *]; assumption))

end Go.Proofs.Ytfdcfalkidcdnaa
