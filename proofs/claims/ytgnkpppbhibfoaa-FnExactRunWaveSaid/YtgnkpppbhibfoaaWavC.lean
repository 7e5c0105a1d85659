/- Waves down a slope: small contracts. -/
import Derived.Test.YtgnkpppbhibfoaaWavD
import Derived.Test.YtgnkpppbhibfoaaAllOf
import Derived.Test.YtgnkpppbhibfoaaCanalA
namespace Go.Proofs.Ytgnkpppbhibfoaa
open Go.RowKit
set_option linter.unusedVariables false
set_option linter.unusedSimpArgs false
set_option maxRecDepth 100000
attribute [local irreducible] wpV wpList Code.wp

set_option maxHeartbeats 4000000 in
theorem waveLength_o {R : Option Nat} {r : Nat} {X : Option Nat} {x : Nat} {T : Option Nat} {t : Nat} (w : World)  (hr : Is32 R r) (hx : Is32 X x) (ht : Is32 T t) :
    Calls Try.prog 74 #[.float .f32 r, .float .f32 x, .float .f32 t] w (NumQ (wlenO R X T) w) := by
  go_enter Try.func74, Try.ntmps74
  go_wp2_with (first | ((with_reducible refine wpList_bin ?_); refine wpList_f32 rfl _ _ _ _ _ rfl rfl rfl (by decide) (by first | assumption | exact Is32.c (by decide)) (by first | assumption | exact Is32.c (by decide)) ?_; intro z n hz) | ((with_reducible refine wpList_bin ?_); refine wpList_c32 rfl _ _ _ _ _ rfl rfl rfl (by decide) (by first | assumption | exact Is32.c (by decide)) (by first | assumption | exact Is32.c (by decide)) ?_; intro bb hbb; cases bb) | (go_at_call 123; refine (rootNumber_o _ (by first | assumption | exact Is32.c (by decide))).mono ?_; rintro e w' ⟨z, rfl, hz, q, rfl⟩))
  all_goals go_ret
  all_goals (refine ⟨_, rfl, ?_, (by first | exact ⟨_, rfl⟩ | exact ⟨0, rfl⟩ | exact drewC _ _ _ ⟨_, rfl⟩ | exact drewC _ _ _ (drewC _ _ _ ⟨_, rfl⟩) | exact drewC _ _ _ (drewC _ _ _ (drewC _ _ _ ⟨_, rfl⟩)) | exact drewC _ _ _ (drewC _ _ _ (drewC _ _ _ (drewC _ _ _ ⟨_, rfl⟩))))⟩; first | assumption  | (simp [wlenO, *]; done) | (simp [wlenO, *]; exact Is32.c (by decide)) | (simp [wlenO, *]; assumption))

set_option maxHeartbeats 2000000 in
theorem isSlope_i (a : Option Addr) (cap : Nat) (A : List Nat) (w : World) (h : RowF .f32 w a A) (hl : A.length ≤ 1048576) (hz : ∀ z ∈ A, z < 4294967296) : Calls Try.prog 70 #[.slice a A.length cap] w (SayB (slopeW A) w) := by
  have H := Lib.hid h
  have HZ := Lib.hid hz
  clear h hz
  obtain ⟨Q, hQ⟩ : ∃ Q, slopeW A = Q := ⟨_, rfl⟩
  rw [hQ]
  have HQ := Lib.hid hQ
  clear hQ
  go_enter Try.func70, Try.ntmps70
  go_wp2_with fail
  refine (cellCount_o _ _).mono ?_
  rintro e w' ⟨bb, hbb, rfl, rfl⟩
  have HB := Lib.hid hbb
  clear hbb
  cases bb
  · go_wp2_with fail
    go_ret
    exact ⟨_, by rw [← HQ.out]; unfold slopeW; rw [HB.out]; rfl, rfl, Below.refl _ _⟩
  · go_wp2_with fail
    refine (allOf_f 71 amtB (enters_of Try.func71 (by kernel_rfl) rfl) a cap A _ (fun z hz W => isAmount_o W (Is32.c hz)) H.out hl HZ.out).mono ?_
    rintro e w1 ⟨bb, hbb, rfl, hb⟩
    have HB2 := Lib.hid hbb
    have HW := Lib.hid hb
    clear hbb hb
    go_wp2_with fail
    go_ret
    exact ⟨_, by rw [← HQ.out]; unfold slopeW; rw [HB.out, HB2.out]; rfl, rfl, HW.out⟩

end Go.Proofs.Ytgnkpppbhibfoaa
