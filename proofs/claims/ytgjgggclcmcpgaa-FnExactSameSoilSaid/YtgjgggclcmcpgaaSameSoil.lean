/- Whether two of Soil are the same: the program and its model alike. -/
import Derived.Test.YtgjgggclcmcpgaaRainA
import Derived.Test.YtgjgggclcmcpgaaSameI
namespace Go.Proofs.Ytgjgggclcmcpgaa
open Go.RowKit
set_option linter.unusedVariables false
set_option linter.unusedSimpArgs false
set_option maxRecDepth 100000
attribute [local irreducible] wpV wpList Code.wp

set_option maxHeartbeats 4000000 in
theorem bitsOfSoil_any (a0 a1 a2 a3 a4 : Nat) (ha0 : a0 < 4294967296) (ha1 : a1 < 4294967296) (ha2 : a2 < 4294967296) (ha3 : a3 < 4294967296) (ha4 : a4 < 4294967296) (w : World) :
    Calls Try.prog 63 #[.agg #[.float .f32 a0, .float .f32 a1, .float .f32 a2, .float .f32 a3, .float .f32 a4]] w fun e w' => e = .returned (.agg #[.int .i64 (bitsI a0), .int .i64 (bitsI a1), .int .i64 (bitsI a2), .int .i64 (bitsI a3), .int .i64 (bitsI a4)]) ∧ Below w.heap.size w w' := by
  go_enter Try.func63, Try.ntmps63
  go_wp2_with fail
  refine wp_region_still_tail 16 (by kernel_rfl) (by kernel_rfl) ?_
  simp only [List.take_succ_cons, List.take_zero, List.drop_succ_cons, List.drop_zero]
  change wpStill _ _ (World.drew _) (fun a' => wpList _ _ _ _ a' (World.drew _)) _ _
  repeat (first | still_call ((ibits_any _ _ (by assumption)).mono fun _ _ h => ⟨h.1, h.2.symm⟩) | still_step)
  refine wpStill_nil ?_
  go_wp2_with fail
  refine bodyPost_ret (v := .agg #[.int .i64 (bitsI a0), .int .i64 (bitsI a1), .int .i64 (bitsI a2), .int .i64 (bitsI a3), .int .i64 (bitsI a4)]) (by simp [results, Try.results63, go_sem]) rfl ⟨rfl, ?_⟩
  repeat (first | exact bel2 _ _ _ | exact beld (bel2 _ _ _) 1 | refine Below.setCell ?_ (by first | (simp; done) | (simp; omega)) _)

set_option maxHeartbeats 4000000 in
theorem sameSoil_n (a0 a1 a2 a3 a4 c0 c1 c2 c3 c4 : Nat) (ha0 : a0 < 4294967296) (ha1 : a1 < 4294967296) (ha2 : a2 < 4294967296) (ha3 : a3 < 4294967296) (ha4 : a4 < 4294967296) (hc0 : c0 < 4294967296) (hc1 : c1 < 4294967296) (hc2 : c2 < 4294967296) (hc3 : c3 < 4294967296) (hc4 : c4 < 4294967296) (w : World) :
    Calls Try.prog 21 #[.agg #[.float .f32 a0, .float .f32 a1, .float .f32 a2, .float .f32 a3, .float .f32 a4], .agg #[.float .f32 c0, .float .f32 c1, .float .f32 c2, .float .f32 c3, .float .f32 c4]] w (SayB (eqI a0 c0 && eqI a1 c1 && eqI a2 c2 && eqI a3 c3 && eqI a4 c4) w) := by
  go_enter Try.func21, Try.ntmps21
  go_wp2_with fail
  refine wp_region_B (vmap [(1, fun u => u = .agg #[.int .i64 (bitsI a0), .int .i64 (bitsI a1), .int .i64 (bitsI a2), .int .i64 (bitsI a3), .int .i64 (bitsI a4)]), (3, fun u => u = .agg #[.int .i64 (bitsI c0), .int .i64 (bitsI c1), .int .i64 (bitsI c2), .int .i64 (bitsI c3), .int .i64 (bitsI c4)])]) (by kernel_rfl) (by kernel_rfl) ?_
  refine wpV_none 1 rfl (v := .agg #[.float .f32 a0, .float .f32 a1, .float .f32 a2, .float .f32 a3, .float .f32 a4]) rfl (fun w' hw' => ?_) rfl ?_
  · have bx : Bx w' (w.heap.size) [.float .f32 a0, .float .f32 a1, .float .f32 a2, .float .f32 a3, .float .f32 a4] := by
      refine Bx.below ?_ hw' (by first | (simp; done) | (simp; omega))
      exact Bx.alloc (Bx.new _ _ _) _
    have k0 := bx.c 0 rfl
    have k1 := bx.c 1 rfl
    have k2 := bx.c 2 rfl
    have k3 := bx.c 3 rfl
    have k4 := bx.c 4 rfl
    clear bx hw'
    go_simp
  go_simp
  refine wpV_callB 2 rfl rfl (run_call1 rfl (enters_of Try.func63 (by kernel_rfl) rfl) rfl) (fun w' hw' => (bitsOfSoil_any _ _ _ _ _ (by assumption) (by assumption) (by assumption) (by assumption) (by assumption) w').mono fun e w'' h => ⟨h.1, hw'.trans (h.2.mono (by have hz := hw'.size; simpa using hz))⟩) rfl ?_
  go_simp
  refine wpV_none 3 rfl (v := .agg #[.float .f32 c0, .float .f32 c1, .float .f32 c2, .float .f32 c3, .float .f32 c4]) rfl (fun w' hw' => ?_) rfl ?_
  · have bx : Bx w' (w.heap.size + 1) [.float .f32 c0, .float .f32 c1, .float .f32 c2, .float .f32 c3, .float .f32 c4] := by
      refine Bx.below ?_ hw' (by first | (simp; done) | (simp; omega))
      have hsz : w.heap.size + 1 = (w.alloc (.cells #[.float .f32 a0, .float .f32 a1, .float .f32 a2, .float .f32 a3, .float .f32 a4] 25)).heap.size := by simp
      rw [hsz]
      exact Bx.new _ _ _
    have k0 := bx.c 0 rfl
    have k1 := bx.c 1 rfl
    have k2 := bx.c 2 rfl
    have k3 := bx.c 3 rfl
    have k4 := bx.c 4 rfl
    clear bx hw'
    go_simp
  go_simp
  refine wpV_callB 4 rfl rfl (run_call1 rfl (enters_of Try.func63 (by kernel_rfl) rfl) rfl) (fun w' hw' => (bitsOfSoil_any _ _ _ _ _ (by assumption) (by assumption) (by assumption) (by assumption) (by assumption) w').mono fun e w'' h => ⟨h.1, hw'.trans (h.2.mono (by have hz := hw'.size; simpa using hz))⟩) rfl ?_
  go_simp
  refine wpV_none 5 rfl (v := .bool (eqI a0 c0 && eqI a1 c1 && eqI a2 c2 && eqI a3 c3 && eqI a4 c4)) rfl (fun w' hw' => ?_) rfl ?_
  · clear hw'
    go_simp
    unfold eqI
    by_cases e0 : bitsI a0 = bitsI c0
    all_goals by_cases e1 : bitsI a1 = bitsI c1
    all_goals by_cases e2 : bitsI a2 = bitsI c2
    all_goals by_cases e3 : bitsI a3 = bitsI c3
    all_goals by_cases e4 : bitsI a4 = bitsI c4
    all_goals simp [e0, e1, e2, e3, e4]
  go_simp
  refine wpV_none 6 rfl (v := .bool (eqI a0 c0 && eqI a1 c1 && eqI a2 c2 && eqI a3 c3 && eqI a4 c4)) rfl (fun w' hw' => ?_) rfl ?_
  · clear hw'
    go_simp
  go_simp
  refine wpV_nil ?_
  intro w' hw'
  go_wp2_with fail
  go_ret
  exact ⟨_, rfl, rfl, (bel2 w _ _).trans (hw'.mono (by first | omega | (simp; done) | (simp; omega)))⟩

theorem sameSoil_i {A0 A1 A2 A3 A4 : Option Nat} {a0 a1 a2 a3 a4 : Nat} {C0 C1 C2 C3 C4 : Option Nat} {c0 c1 c2 c3 c4 : Nat} (w : World) (ha0 : Is32 A0 a0) (ha1 : Is32 A1 a1) (ha2 : Is32 A2 a2) (ha3 : Is32 A3 a3) (ha4 : Is32 A4 a4) (hc0 : Is32 C0 c0) (hc1 : Is32 C1 c1) (hc2 : Is32 C2 c2) (hc3 : Is32 C3 c3) (hc4 : Is32 C4 c4) :
    Calls Try.prog 21 #[.agg #[.float .f32 a0, .float .f32 a1, .float .f32 a2, .float .f32 a3, .float .f32 a4], .agg #[.float .f32 c0, .float .f32 c1, .float .f32 c2, .float .f32 c3, .float .f32 c4]] w (SayB (eqI a0 c0 && eqI a1 c1 && eqI a2 c2 && eqI a3 c3 && eqI a4 c4) w) := sameSoil_n _ _ _ _ _ _ _ _ _ _ ha0.2 ha1.2 ha2.2 ha3.2 ha4.2 hc0.2 hc1.2 hc2.2 hc3.2 hc4.2 w

set_option maxHeartbeats 8000000 in
theorem ptrSameSoil_o {A0 A1 A2 A3 A4 : Option Nat} {a0 a1 a2 a3 a4 : Nat} (ba : Nat) {C0 C1 C2 C3 C4 : Option Nat} {c0 c1 c2 c3 c4 : Nat} (bc : Nat) (w : World) (hBa : Bx w ba [.float .f32 a0, .float .f32 a1, .float .f32 a2, .float .f32 a3, .float .f32 a4]) (hBc : Bx w bc [.float .f32 c0, .float .f32 c1, .float .f32 c2, .float .f32 c3, .float .f32 c4]) (ha0 : Is32 A0 a0) (ha1 : Is32 A1 a1) (ha2 : Is32 A2 a2) (ha3 : Is32 A3 a3) (ha4 : Is32 A4 a4) (hc0 : Is32 C0 c0) (hc1 : Is32 C1 c1) (hc2 : Is32 C2 c2) (hc3 : Is32 C3 c3) (hc4 : Is32 C4 c4) :
    Calls Try.prog 62 #[.pointer (some ⟨ba, 0, none⟩), .pointer (some ⟨bc, 0, none⟩)] w (SayQ (eqI a0 c0 && eqI a1 c1 && eqI a2 c2 && eqI a3 c3 && eqI a4 c4) w) := by
  have ca0 := hBa.c 0 rfl
  have ca1 := hBa.c 1 rfl
  have ca2 := hBa.c 2 rfl
  have ca3 := hBa.c 3 rfl
  have ca4 := hBa.c 4 rfl
  have cc0 := hBc.c 0 rfl
  have cc1 := hBc.c 1 rfl
  have cc2 := hBc.c 2 rfl
  have cc3 := hBc.c 3 rfl
  have cc4 := hBc.c 4 rfl
  go_enter Try.func62, Try.ntmps62
  go_wp2_with (first | ((with_reducible refine wpList_bin ?_); refine wpList_f32 rfl _ _ _ _ _ rfl rfl rfl (by decide) (by first | assumption | exact Is32.c (by decide)) (by first | assumption | exact Is32.c (by decide)) ?_; intro z n hz) | ((with_reducible refine wpList_bin ?_); refine wpList_c32 rfl _ _ _ _ _ rfl rfl rfl (by decide) (by first | assumption | exact Is32.c (by decide)) (by first | assumption | exact Is32.c (by decide)) ?_; intro bb hbb; cases bb) | (go_at_call 64; refine (l01Same_o _ (by first | assumption | exact Is32.c (by decide)) (by first | assumption | exact Is32.c (by decide))).mono ?_; rintro e w' ⟨bb, hbb, rfl, rfl⟩; cases bb))
  any_goals apply wp_region_V (id := 1) (vmap [(8, VB _), (18, VB _), (29, VB _), (40, VB _), (51, VB _)]) (by kernel_rfl) (by kernel_rfl)
  any_goals (refine wpV_go 1 rfl (fun K hK => ?_); go_simp; refine hK.out _ ?_; clear hK K)
  any_goals (refine wpV_go 2 rfl (fun K hK => ?_); go_simp; refine hK.out _ ?_; clear hK K)
  any_goals (refine wpV_go 3 rfl (fun K hK => ?_); go_simp; refine hK.out _ ?_; clear hK K)
  any_goals (refine wpV_go 4 rfl (fun K hK => ?_); go_simp; refine hK.out _ ?_; clear hK K)
  any_goals (refine wpV_go 5 rfl (fun K hK => ?_); go_simp; refine hK.out _ ?_; clear hK K)
  any_goals (refine wpV_go 6 rfl (fun K hK => ?_); go_simp; refine hK.out _ ?_; clear hK K)
  any_goals (refine wpV_go 7 rfl (fun K hK => ?_); go_simp; refine hK.out _ ?_; clear hK K)
  any_goals (refine wpV_go 8 rfl (fun K hK => ?_); go_simp; refine hK.out _ ?_; clear hK K)
  any_goals (first | (refine wpV_say2 9 rfl (u := .float .f32 _) (x := .float .f32 _) (drewC _) rfl (enters_of Try.func64 (by kernel_rfl) rfl) rfl rfl rfl (fun _ => (l01Same_o _ (by first | assumption | exact Is32.c (by decide)) (by first | assumption | exact Is32.c (by decide))).mono fun _ _ h => h.q) rfl ?_; intro bb hbb; cases bb) | (refine wpV_go 9 rfl (fun K hK => ?_); go_simp; refine hK.out _ ?_; clear hK K))
  any_goals (refine wpV_go 10 rfl (fun K hK => ?_); go_simp; refine hK.out _ ?_; clear hK K)
  any_goals (refine wpV_go 11 rfl (fun K hK => ?_); go_simp; refine hK.out _ ?_; clear hK K)
  any_goals (refine wpV_go 12 rfl (fun K hK => ?_); go_simp; refine hK.out _ ?_; clear hK K)
  any_goals (refine wpV_go 13 rfl (fun K hK => ?_); go_simp; refine hK.out _ ?_; clear hK K)
  any_goals (refine wpV_go 14 rfl (fun K hK => ?_); go_simp; refine hK.out _ ?_; clear hK K)
  any_goals (refine wpV_go 15 rfl (fun K hK => ?_); go_simp; refine hK.out _ ?_; clear hK K)
  any_goals (refine wpV_go 16 rfl (fun K hK => ?_); go_simp; refine hK.out _ ?_; clear hK K)
  any_goals (refine wpV_go 17 rfl (fun K hK => ?_); go_simp; refine hK.out _ ?_; clear hK K)
  any_goals (refine wpV_go 18 rfl (fun K hK => ?_); go_simp; refine hK.out _ ?_; clear hK K)
  any_goals (first | ((refine wpV_yes rfl ?_); refine wpV_say2 19 rfl (u := .float .f32 _) (x := .float .f32 _) (drewC _) rfl (enters_of Try.func64 (by kernel_rfl) rfl) rfl rfl rfl (fun _ => (l01Same_o _ (by first | assumption | exact Is32.c (by decide)) (by first | assumption | exact Is32.c (by decide))).mono fun _ _ h => h.q) rfl ?_; intro bb hbb; cases bb) | (refine wpV_go 19 rfl (fun K hK => ?_); go_simp; refine hK.out _ ?_; clear hK K))
  any_goals (refine wpV_go 20 rfl (fun K hK => ?_); go_simp; refine hK.out _ ?_; clear hK K)
  any_goals (refine wpV_go 21 rfl (fun K hK => ?_); go_simp; refine hK.out _ ?_; clear hK K)
  any_goals (refine wpV_go 22 rfl (fun K hK => ?_); go_simp; refine hK.out _ ?_; clear hK K)
  any_goals (refine wpV_go 23 rfl (fun K hK => ?_); go_simp; refine hK.out _ ?_; clear hK K)
  any_goals (refine wpV_go 24 rfl (fun K hK => ?_); go_simp; refine hK.out _ ?_; clear hK K)
  any_goals (refine wpV_go 25 rfl (fun K hK => ?_); go_simp; refine hK.out _ ?_; clear hK K)
  any_goals (refine wpV_go 26 rfl (fun K hK => ?_); go_simp; refine hK.out _ ?_; clear hK K)
  any_goals (refine wpV_go 27 rfl (fun K hK => ?_); go_simp; refine hK.out _ ?_; clear hK K)
  any_goals (refine wpV_go 28 rfl (fun K hK => ?_); go_simp; refine hK.out _ ?_; clear hK K)
  any_goals (refine wpV_go 29 rfl (fun K hK => ?_); go_simp; refine hK.out _ ?_; clear hK K)
  any_goals (first | ((refine wpV_yes rfl ?_); refine wpV_say2 30 rfl (u := .float .f32 _) (x := .float .f32 _) (drewC _) rfl (enters_of Try.func64 (by kernel_rfl) rfl) rfl rfl rfl (fun _ => (l01Same_o _ (by first | assumption | exact Is32.c (by decide)) (by first | assumption | exact Is32.c (by decide))).mono fun _ _ h => h.q) rfl ?_; intro bb hbb; cases bb) | (refine wpV_go 30 rfl (fun K hK => ?_); go_simp; refine hK.out _ ?_; clear hK K))
  any_goals (refine wpV_go 31 rfl (fun K hK => ?_); go_simp; refine hK.out _ ?_; clear hK K)
  any_goals (refine wpV_go 32 rfl (fun K hK => ?_); go_simp; refine hK.out _ ?_; clear hK K)
  any_goals (refine wpV_go 33 rfl (fun K hK => ?_); go_simp; refine hK.out _ ?_; clear hK K)
  any_goals (refine wpV_go 34 rfl (fun K hK => ?_); go_simp; refine hK.out _ ?_; clear hK K)
  any_goals (refine wpV_go 35 rfl (fun K hK => ?_); go_simp; refine hK.out _ ?_; clear hK K)
  any_goals (refine wpV_go 36 rfl (fun K hK => ?_); go_simp; refine hK.out _ ?_; clear hK K)
  any_goals (refine wpV_go 37 rfl (fun K hK => ?_); go_simp; refine hK.out _ ?_; clear hK K)
  any_goals (refine wpV_go 38 rfl (fun K hK => ?_); go_simp; refine hK.out _ ?_; clear hK K)
  any_goals (refine wpV_go 39 rfl (fun K hK => ?_); go_simp; refine hK.out _ ?_; clear hK K)
  any_goals (refine wpV_go 40 rfl (fun K hK => ?_); go_simp; refine hK.out _ ?_; clear hK K)
  any_goals (first | ((refine wpV_yes rfl ?_); refine wpV_say2 41 rfl (u := .float .f32 _) (x := .float .f32 _) (drewC _) rfl (enters_of Try.func64 (by kernel_rfl) rfl) rfl rfl rfl (fun _ => (l01Same_o _ (by first | assumption | exact Is32.c (by decide)) (by first | assumption | exact Is32.c (by decide))).mono fun _ _ h => h.q) rfl ?_; intro bb hbb; cases bb) | (refine wpV_go 41 rfl (fun K hK => ?_); go_simp; refine hK.out _ ?_; clear hK K))
  any_goals (refine wpV_go 42 rfl (fun K hK => ?_); go_simp; refine hK.out _ ?_; clear hK K)
  any_goals (refine wpV_go 43 rfl (fun K hK => ?_); go_simp; refine hK.out _ ?_; clear hK K)
  any_goals (refine wpV_go 44 rfl (fun K hK => ?_); go_simp; refine hK.out _ ?_; clear hK K)
  any_goals (refine wpV_go 45 rfl (fun K hK => ?_); go_simp; refine hK.out _ ?_; clear hK K)
  any_goals (refine wpV_go 46 rfl (fun K hK => ?_); go_simp; refine hK.out _ ?_; clear hK K)
  any_goals (refine wpV_go 47 rfl (fun K hK => ?_); go_simp; refine hK.out _ ?_; clear hK K)
  any_goals (refine wpV_go 48 rfl (fun K hK => ?_); go_simp; refine hK.out _ ?_; clear hK K)
  any_goals (refine wpV_go 49 rfl (fun K hK => ?_); go_simp; refine hK.out _ ?_; clear hK K)
  any_goals (refine wpV_go 50 rfl (fun K hK => ?_); go_simp; refine hK.out _ ?_; clear hK K)
  any_goals (refine wpV_go 51 rfl (fun K hK => ?_); go_simp; refine hK.out _ ?_; clear hK K)
  any_goals (first | ((refine wpV_yes rfl ?_); refine wpV_say2 52 rfl (u := .float .f32 _) (x := .float .f32 _) (drewC _) rfl (enters_of Try.func64 (by kernel_rfl) rfl) rfl rfl rfl (fun _ => (l01Same_o _ (by first | assumption | exact Is32.c (by decide)) (by first | assumption | exact Is32.c (by decide))).mono fun _ _ h => h.q) rfl ?_; intro bb hbb; cases bb) | (refine wpV_go 52 rfl (fun K hK => ?_); go_simp; refine hK.out _ ?_; clear hK K))
  any_goals (refine wpV_go 53 rfl (fun K hK => ?_); go_simp; refine hK.out _ ?_; clear hK K)
  any_goals (refine wpV_go 54 rfl (fun K hK => ?_); go_simp; refine hK.out _ ?_; clear hK K)
  any_goals (refine wpV_nil ?_; intro q)
  any_goals go_wp2_with (first | ((with_reducible refine wpList_bin ?_); refine wpList_f32 rfl _ _ _ _ _ rfl rfl rfl (by decide) (by first | assumption | exact Is32.c (by decide)) (by first | assumption | exact Is32.c (by decide)) ?_; intro z n hz) | ((with_reducible refine wpList_bin ?_); refine wpList_c32 rfl _ _ _ _ _ rfl rfl rfl (by decide) (by first | assumption | exact Is32.c (by decide)) (by first | assumption | exact Is32.c (by decide)) ?_; intro bb hbb; cases bb) | (go_at_call 64; refine (l01Same_o _ (by first | assumption | exact Is32.c (by decide)) (by first | assumption | exact Is32.c (by decide))).mono ?_; rintro e w' ⟨bb, hbb, rfl, rfl⟩; cases bb))
  all_goals go_ret
  all_goals (refine ⟨_, ?_, rfl, (by first | exact ⟨_, rfl⟩ | exact drewC _ _ _ ⟨_, rfl⟩ | exact drewC _ _ _ (drewC _ _ _ ⟨_, rfl⟩))⟩; simp [*])

set_option maxHeartbeats 8000000 in
theorem sameSoil_s {A0 A1 A2 A3 A4 : Option Nat} {a0 a1 a2 a3 a4 : Nat} {C0 C1 C2 C3 C4 : Option Nat} {c0 c1 c2 c3 c4 : Nat} (w : World)  (ha0 : Is32 A0 a0) (ha1 : Is32 A1 a1) (ha2 : Is32 A2 a2) (ha3 : Is32 A3 a3) (ha4 : Is32 A4 a4) (hc0 : Is32 C0 c0) (hc1 : Is32 C1 c1) (hc2 : Is32 C2 c2) (hc3 : Is32 C3 c3) (hc4 : Is32 C4 c4) :
    Calls Try.prog 20 #[.agg #[.float .f32 a0, .float .f32 a1, .float .f32 a2, .float .f32 a3, .float .f32 a4], .agg #[.float .f32 c0, .float .f32 c1, .float .f32 c2, .float .f32 c3, .float .f32 c4]] w (SayB (eqI a0 c0 && eqI a1 c1 && eqI a2 c2 && eqI a3 c3 && eqI a4 c4) w) := by
  go_enter Try.func20, Try.ntmps20
  go_wp2_with (first | ((with_reducible refine wpList_bin ?_); refine wpList_f32 rfl _ _ _ _ _ rfl rfl rfl (by decide) (by first | assumption | exact Is32.c (by decide)) (by first | assumption | exact Is32.c (by decide)) ?_; intro z n hz) | ((with_reducible refine wpList_bin ?_); refine wpList_c32 rfl _ _ _ _ _ rfl rfl rfl (by decide) (by first | assumption | exact Is32.c (by decide)) (by first | assumption | exact Is32.c (by decide)) ?_; intro bb hbb; cases bb) | (go_at_call 62; refine (ptrSameSoil_o _ _ _ (by first | exact Bx.alloc (Bx.new _ [_, _, _, _, _] _) _ | exact Bx.drewN (Bx.alloc (Bx.new _ [_, _, _, _, _] _) _) _) (by first | exact Bx.new1 _ _ [_, _, _, _, _] _ | exact Bx.drewN (Bx.new1 _ _ [_, _, _, _, _] _) _) (by first | assumption | exact Is32.c (by decide)) (by first | assumption | exact Is32.c (by decide)) (by first | assumption | exact Is32.c (by decide)) (by first | assumption | exact Is32.c (by decide)) (by first | assumption | exact Is32.c (by decide)) (by first | assumption | exact Is32.c (by decide)) (by first | assumption | exact Is32.c (by decide)) (by first | assumption | exact Is32.c (by decide)) (by first | assumption | exact Is32.c (by decide)) (by first | assumption | exact Is32.c (by decide))).mono ?_; rintro e w' ⟨bb, hbb, rfl, q, rfl⟩; cases bb))
  all_goals go_ret
  all_goals (refine ⟨_, ?_, rfl, (by first | exact (bel2 _ _ _ ) | exact beld (bel2 _ _ _ ) _ | exact Below.alloc (by first | exact (bel2 _ _ _ ) | exact beld (bel2 _ _ _ ) _) (by first | (simp; done) | (simp; omega) | omega) _ | exact beld (Below.alloc (by first | exact (bel2 _ _ _ ) | exact beld (bel2 _ _ _ ) _) (by first | (simp; done) | (simp; omega) | omega) _) _)⟩; simp [*])

end Go.Proofs.Ytgjgggclcmcpgaa
