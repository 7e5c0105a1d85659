/- Whether two of Snow are the same: the program and its model alike. -/
import Derived.Test.YtgjgggclcmcpgaaRainA
import Derived.Test.YtgjgggclcmcpgaaSameI
namespace Go.Proofs.Ytgjgggclcmcpgaa
open Go.RowKit
set_option linter.unusedVariables false
set_option linter.unusedSimpArgs false
set_option maxRecDepth 100000
attribute [local irreducible] wpV wpList Code.wp

set_option maxHeartbeats 4000000 in
theorem bitsOfSnow_any (a0 a1 a2 a3 : Nat) (ha0 : a0 < 4294967296) (ha1 : a1 < 4294967296) (ha2 : a2 < 4294967296) (ha3 : a3 < 4294967296) (w : World) :
    Calls Try.prog 65 #[.agg #[.float .f32 a0, .float .f32 a1, .float .f32 a2, .float .f32 a3]] w fun e w' => e = .returned (.agg #[.int .i64 (bitsI a0), .int .i64 (bitsI a1), .int .i64 (bitsI a2), .int .i64 (bitsI a3), .int .i64 0]) ∧ Below w.heap.size w w' := by
  go_enter Try.func65, Try.ntmps65
  go_wp2_with fail
  refine wp_region_still_tail 13 (by kernel_rfl) (by kernel_rfl) ?_
  simp only [List.take_succ_cons, List.take_zero, List.drop_succ_cons, List.drop_zero]
  change wpStill _ _ (World.drew _) (fun a' => wpList _ _ _ _ a' (World.drew _)) _ _
  repeat (first | still_call ((ibits_any _ _ (by assumption)).mono fun _ _ h => ⟨h.1, h.2.symm⟩) | still_step)
  refine wpStill_nil ?_
  go_wp2_with fail
  refine bodyPost_ret (v := .agg #[.int .i64 (bitsI a0), .int .i64 (bitsI a1), .int .i64 (bitsI a2), .int .i64 (bitsI a3), .int .i64 0]) (by simp [results, Try.results65, go_sem]) rfl ⟨rfl, ?_⟩
  repeat (first | exact bel2 _ _ _ | exact beld (bel2 _ _ _) 1 | refine Below.setCell ?_ (by first | (simp; done) | (simp; omega)) _)

set_option maxHeartbeats 4000000 in
theorem sameSnow_n (a0 a1 a2 a3 c0 c1 c2 c3 : Nat) (ha0 : a0 < 4294967296) (ha1 : a1 < 4294967296) (ha2 : a2 < 4294967296) (ha3 : a3 < 4294967296) (hc0 : c0 < 4294967296) (hc1 : c1 < 4294967296) (hc2 : c2 < 4294967296) (hc3 : c3 < 4294967296) (w : World) :
    Calls Try.prog 24 #[.agg #[.float .f32 a0, .float .f32 a1, .float .f32 a2, .float .f32 a3], .agg #[.float .f32 c0, .float .f32 c1, .float .f32 c2, .float .f32 c3]] w (SayB (eqI a0 c0 && eqI a1 c1 && eqI a2 c2 && eqI a3 c3) w) := by
  go_enter Try.func24, Try.ntmps24
  go_wp2_with fail
  refine wp_region_B (vmap [(1, fun u => u = .agg #[.int .i64 (bitsI a0), .int .i64 (bitsI a1), .int .i64 (bitsI a2), .int .i64 (bitsI a3), .int .i64 0]), (3, fun u => u = .agg #[.int .i64 (bitsI c0), .int .i64 (bitsI c1), .int .i64 (bitsI c2), .int .i64 (bitsI c3), .int .i64 0])]) (by kernel_rfl) (by kernel_rfl) ?_
  refine wpV_none 1 rfl (v := .agg #[.float .f32 a0, .float .f32 a1, .float .f32 a2, .float .f32 a3]) rfl (fun w' hw' => ?_) rfl ?_
  · have bx : Bx w' (w.heap.size) [.float .f32 a0, .float .f32 a1, .float .f32 a2, .float .f32 a3] := by
      refine Bx.below ?_ hw' (by first | (simp; done) | (simp; omega))
      exact Bx.alloc (Bx.new _ _ _) _
    have k0 := bx.c 0 rfl
    have k1 := bx.c 1 rfl
    have k2 := bx.c 2 rfl
    have k3 := bx.c 3 rfl
    clear bx hw'
    go_simp
  go_simp
  refine wpV_callB 2 rfl rfl (run_call1 rfl (enters_of Try.func65 (by kernel_rfl) rfl) rfl) (fun w' hw' => (bitsOfSnow_any _ _ _ _ (by assumption) (by assumption) (by assumption) (by assumption) w').mono fun e w'' h => ⟨h.1, hw'.trans (h.2.mono (by have hz := hw'.size; simpa using hz))⟩) rfl ?_
  go_simp
  refine wpV_none 3 rfl (v := .agg #[.float .f32 c0, .float .f32 c1, .float .f32 c2, .float .f32 c3]) rfl (fun w' hw' => ?_) rfl ?_
  · have bx : Bx w' (w.heap.size + 1) [.float .f32 c0, .float .f32 c1, .float .f32 c2, .float .f32 c3] := by
      refine Bx.below ?_ hw' (by first | (simp; done) | (simp; omega))
      have hsz : w.heap.size + 1 = (w.alloc (.cells #[.float .f32 a0, .float .f32 a1, .float .f32 a2, .float .f32 a3] 37)).heap.size := by simp
      rw [hsz]
      exact Bx.new _ _ _
    have k0 := bx.c 0 rfl
    have k1 := bx.c 1 rfl
    have k2 := bx.c 2 rfl
    have k3 := bx.c 3 rfl
    clear bx hw'
    go_simp
  go_simp
  refine wpV_callB 4 rfl rfl (run_call1 rfl (enters_of Try.func65 (by kernel_rfl) rfl) rfl) (fun w' hw' => (bitsOfSnow_any _ _ _ _ (by assumption) (by assumption) (by assumption) (by assumption) w').mono fun e w'' h => ⟨h.1, hw'.trans (h.2.mono (by have hz := hw'.size; simpa using hz))⟩) rfl ?_
  go_simp
  refine wpV_none 5 rfl (v := .bool (eqI a0 c0 && eqI a1 c1 && eqI a2 c2 && eqI a3 c3)) rfl (fun w' hw' => ?_) rfl ?_
  · clear hw'
    go_simp
    unfold eqI
    by_cases e0 : bitsI a0 = bitsI c0
    all_goals by_cases e1 : bitsI a1 = bitsI c1
    all_goals by_cases e2 : bitsI a2 = bitsI c2
    all_goals by_cases e3 : bitsI a3 = bitsI c3
    all_goals simp [e0, e1, e2, e3]
  go_simp
  refine wpV_none 6 rfl (v := .bool (eqI a0 c0 && eqI a1 c1 && eqI a2 c2 && eqI a3 c3)) rfl (fun w' hw' => ?_) rfl ?_
  · clear hw'
    go_simp
  go_simp
  refine wpV_nil ?_
  intro w' hw'
  go_wp2_with fail
  go_ret
  exact ⟨_, rfl, rfl, (bel2 w _ _).trans (hw'.mono (by first | omega | (simp; done) | (simp; omega)))⟩

theorem sameSnow_i {A0 A1 A2 A3 : Option Nat} {a0 a1 a2 a3 : Nat} {C0 C1 C2 C3 : Option Nat} {c0 c1 c2 c3 : Nat} (w : World) (ha0 : Is32 A0 a0) (ha1 : Is32 A1 a1) (ha2 : Is32 A2 a2) (ha3 : Is32 A3 a3) (hc0 : Is32 C0 c0) (hc1 : Is32 C1 c1) (hc2 : Is32 C2 c2) (hc3 : Is32 C3 c3) :
    Calls Try.prog 24 #[.agg #[.float .f32 a0, .float .f32 a1, .float .f32 a2, .float .f32 a3], .agg #[.float .f32 c0, .float .f32 c1, .float .f32 c2, .float .f32 c3]] w (SayB (eqI a0 c0 && eqI a1 c1 && eqI a2 c2 && eqI a3 c3) w) := sameSnow_n _ _ _ _ _ _ _ _ ha0.2 ha1.2 ha2.2 ha3.2 hc0.2 hc1.2 hc2.2 hc3.2 w

set_option maxHeartbeats 8000000 in
theorem sameSnow_s {A0 A1 A2 A3 : Option Nat} {a0 a1 a2 a3 : Nat} {C0 C1 C2 C3 : Option Nat} {c0 c1 c2 c3 : Nat} (w : World)  (ha0 : Is32 A0 a0) (ha1 : Is32 A1 a1) (ha2 : Is32 A2 a2) (ha3 : Is32 A3 a3) (hc0 : Is32 C0 c0) (hc1 : Is32 C1 c1) (hc2 : Is32 C2 c2) (hc3 : Is32 C3 c3) :
    Calls Try.prog 22 #[.agg #[.float .f32 a0, .float .f32 a1, .float .f32 a2, .float .f32 a3], .agg #[.float .f32 c0, .float .f32 c1, .float .f32 c2, .float .f32 c3]] w (SayB (eqI a0 c0 && eqI a1 c1 && eqI a2 c2 && eqI a3 c3) w) := by
  go_enter Try.func22, Try.ntmps22
  go_wp2_with (first | ((with_reducible refine wpList_bin ?_); refine wpList_f32 rfl _ _ _ _ _ rfl rfl rfl (by decide) (by first | assumption | exact Is32.c (by decide)) (by first | assumption | exact Is32.c (by decide)) ?_; intro z n hz) | ((with_reducible refine wpList_bin ?_); refine wpList_c32 rfl _ _ _ _ _ rfl rfl rfl (by decide) (by first | assumption | exact Is32.c (by decide)) (by first | assumption | exact Is32.c (by decide)) ?_; intro bb hbb; cases bb) | (go_at_call 64; refine (l01Same_o _ (by first | assumption | exact Is32.c (by decide)) (by first | assumption | exact Is32.c (by decide))).mono ?_; rintro e w' ⟨bb, hbb, rfl, rfl⟩; cases bb))
  all_goals go_ret
  all_goals (refine ⟨_, ?_, rfl, (by first | exact (bel2 _ _ _ ) | exact beld (bel2 _ _ _ ) _ | exact Below.alloc (by first | exact (bel2 _ _ _ ) | exact beld (bel2 _ _ _ ) _) (by first | (simp; done) | (simp; omega) | omega) _ | exact beld (Below.alloc (by first | exact (bel2 _ _ _ ) | exact beld (bel2 _ _ _ ) _) (by first | (simp; done) | (simp; omega) | omega) _) _)⟩; simp [*])

end Go.Proofs.Ytgjgggclcmcpgaa
