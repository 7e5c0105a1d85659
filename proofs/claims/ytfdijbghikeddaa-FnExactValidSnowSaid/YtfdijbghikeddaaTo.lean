/- Structs of numbers that the laws copy. -/
import Derived.Test.YtfdijbghikeddaaFk
import Derived.Test.YtfdijbghikeddaaRowF
namespace Go.Proofs.Ytfdijbghikeddaa
open Go.RowKit
set_option linter.unusedVariables false
set_option linter.unusedSimpArgs false
attribute [local irreducible] wpV wpList Code.wp

set_option maxHeartbeats 2000000 in
theorem toStorm_o (a0 a1 a2 a3 : Nat) (w : World) : Calls Try.prog 20 #[.agg #[.float .f32 a0, .float .f32 a1, .float .f32 a2, .float .f32 a3]] w fun e w' => e = .returned (.agg #[.float .f32 a0, .float .f32 a1, .float .f32 a2, .float .f32 a3]) ∧ Below w.heap.size w w' := by
  go_enter Try.func20, Try.ntmps20
  go_wp2
  refine bodyPost_ret (v := .agg #[.float .f32 a0, .float .f32 a1, .float .f32 a2, .float .f32 a3]) (by simp [results, Try.results20, go_sem]) rfl ⟨rfl, ?_⟩
  repeat (refine Below.setCell ?_ (by first | (simp; done) | (simp; omega)) _)
  exact bel3 _ _ _ _

set_option maxHeartbeats 2000000 in
theorem toSoil_o (a0 a1 a2 a3 a4 : Nat) (w : World) : Calls Try.prog 35 #[.agg #[.float .f32 a0, .float .f32 a1, .float .f32 a2, .float .f32 a3, .float .f32 a4]] w fun e w' => e = .returned (.agg #[.float .f32 a0, .float .f32 a1, .float .f32 a2, .float .f32 a3, .float .f32 a4]) ∧ Below w.heap.size w w' := by
  go_enter Try.func35, Try.ntmps35
  go_wp2
  refine bodyPost_ret (v := .agg #[.float .f32 a0, .float .f32 a1, .float .f32 a2, .float .f32 a3, .float .f32 a4]) (by simp [results, Try.results35, go_sem]) rfl ⟨rfl, ?_⟩
  repeat (refine Below.setCell ?_ (by first | (simp; done) | (simp; omega)) _)
  exact bel3 _ _ _ _

set_option maxHeartbeats 2000000 in
theorem toSnow_o (a0 a1 a2 a3 : Nat) (w : World) : Calls Try.prog 47 #[.agg #[.float .f32 a0, .float .f32 a1, .float .f32 a2, .float .f32 a3]] w fun e w' => e = .returned (.agg #[.float .f32 a0, .float .f32 a1, .float .f32 a2, .float .f32 a3]) ∧ Below w.heap.size w w' := by
  go_enter Try.func47, Try.ntmps47
  go_wp2
  refine bodyPost_ret (v := .agg #[.float .f32 a0, .float .f32 a1, .float .f32 a2, .float .f32 a3]) (by simp [results, Try.results47, go_sem]) rfl ⟨rfl, ?_⟩
  repeat (refine Below.setCell ?_ (by first | (simp; done) | (simp; omega)) _)
  exact bel3 _ _ _ _

end Go.Proofs.Ytfdijbghikeddaa
