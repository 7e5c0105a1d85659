/- Cones: the function value that tells heights. -/
import Derived.Test.YtgnkpppbhibfoabHillOf
import Derived.Test.YtgnkpppbhibfoabRainA
import Derived.Test.YtgnkpppbhibfoabRootO
namespace Go.Proofs.Ytgnkpppbhibfoab
open Go.RowKit
set_option linter.unusedVariables false
set_option linter.unusedSimpArgs false
set_option maxRecDepth 100000
attribute [local irreducible] wpV wpList Code.wp

def iF (n : Int) : Nat := floatOfInt .f32 n
theorem iF_lt (n : Int) : iF n < 4294967296 := by unfold iF floatOfInt FloatKind.nearest; exact write_lt32 _
theorem iF_is (n : Int) : Is32 (some (iF n)) (iF n) := Is32.c (iF_lt n)
def coneX (n m : Int) : Option Nat := fop .sub .f32 (some (iF n)) (fop .quo .f32 (some (iF (m - 1))) (some 1073741824))
def coneO (wide high : Int) (T D : Option Nat) (k : Nat) : Option Nat :=
  fop .sub .f32 T (fop .mul .f32 D (rootO (fop .add .f32 (fop .mul .f32 (coneX (Int.tmod k wide) wide) (coneX (Int.tmod k wide) wide)) (fop .mul .f32 (coneX (((k : Int) / wide)) high) (coneX (((k : Int) / wide)) high)))))

set_option maxHeartbeats 2000000 in
theorem coneClo_any {T D : Option Nat} {t d : Nat} (wide high : Int) (k b1 b2 b3 b4 : Nat) (W : World) (hs : sidesB wide high = true) (hk : k < 256) (ht : Is32 T t) (hd : Is32 D d) (c1 : W.cell? ⟨b1, 0, none⟩ = some (.int .i64 wide)) (c2 : W.cell? ⟨b2, 0, none⟩ = some (.int .i64 high)) (c3 : W.cell? ⟨b3, 0, none⟩ = some (.float .f32 t)) (c4 : W.cell? ⟨b4, 0, none⟩ = some (.float .f32 d)) :
    Calls Try.prog 65 #[.int .i64 (k : Int), .pointer (some ⟨b1, 0, none⟩), .pointer (some ⟨b2, 0, none⟩), .pointer (some ⟨b3, 0, none⟩), .pointer (some ⟨b4, 0, none⟩)] W (NumQ (coneO wide high T D k) W) := by
  obtain ⟨hw1, hw2, hh1, hh2⟩ := sidesB_true hs
  have hw0 : wide ≠ 0 := by omega
  have hw0' : (wide == 0) = false := by simp; omega
  have hwm : wide ≠ -1 := by omega
  have hk0 : (0 : Int) ≤ (k : Int) := by omega
  have htm1 : 0 ≤ Int.tmod k wide := Int.tmod_nonneg _ hk0
  have htm2 : Int.tmod k wide < wide := Int.tmod_lt_of_pos _ (by omega)
  have htd1 : 0 ≤ ((k : Int) / wide) := Int.ediv_nonneg hk0 (by omega)
  have htd2 : ((k : Int) / wide) ≤ k := Int.ediv_le_self _ hk0
  have hi1 : IntKind.i64.wrap (Int.tmod k wide) = Int.tmod k wide := IntWalk.i64_in _ (by omega)
  have hi2 : IntKind.i64.wrap (((k : Int) / wide)) = ((k : Int) / wide) := IntWalk.i64_in _ (by omega)
  have hi3 : IntKind.i64.wrap (wide - 1) = wide - 1 := IntWalk.i64_in _ (by omega)
  have hi4 : IntKind.i64.wrap (high - 1) = high - 1 := IntWalk.i64_in _ (by omega)
  have hf1 : Is32 (some (iF (Int.tmod k wide))) (floatOfInt .f32 (Int.tmod k wide)) := iF_is _
  have hf2 : Is32 (some (iF (((k : Int) / wide)))) (floatOfInt .f32 ((k : Int) / wide)) := iF_is _
  have hf3 : Is32 (some (iF (wide - 1))) (floatOfInt .f32 (wide - 1)) := iF_is _
  have hf4 : Is32 (some (iF (high - 1))) (floatOfInt .f32 (high - 1)) := iF_is _
  go_enter Try.func65, Try.ntmps65
  go_wp2_with fail
  any_goals apply wp_region_V (id := 1) (vmap [(7, V32k _), (8, V32k _)]) (by kernel_rfl) (by kernel_rfl)
  any_goals (refine wpV_go 1 rfl (fun K hK => ?_); go_simp; refine hK.out _ ?_; clear hK K)
  any_goals (refine wpV_go 2 rfl (fun K hK => ?_); go_simp; refine hK.out _ ?_; clear hK K)
  any_goals (refine wpV_go 3 rfl (fun K hK => ?_); go_simp; refine hK.out _ ?_; clear hK K)
  any_goals (refine wpV_go 4 rfl (fun K hK => ?_); go_simp; refine hK.out _ ?_; clear hK K)
  any_goals (refine wpV_go 5 rfl (fun K hK => ?_); go_simp; refine hK.out _ ?_; clear hK K)
  any_goals (refine wpV_go 6 rfl (fun K hK => ?_); go_simp; refine hK.out _ ?_; clear hK K)
  any_goals (refine wpV_go 7 rfl (fun K hK => ?_); go_simp; refine hK.out _ ?_; clear hK K)
  any_goals (first | (refine wpV_f32 8 rfl (drewC _) _ _ _ _ _ rfl rfl rfl rfl (by decide) (by first | assumption | exact Is32.c (by decide)) (by first | assumption | exact Is32.c (by decide)) rfl ?_; intro z hz) | (refine wpV_go 8 rfl (fun K hK => ?_); go_simp; refine hK.out _ ?_; clear hK K))
  any_goals (first | (refine wpV_f32 9 rfl (drewC _) _ _ _ _ _ rfl rfl rfl rfl (by decide) (by first | assumption | exact Is32.c (by decide)) (by first | assumption | exact Is32.c (by decide)) rfl ?_; intro z hz) | (refine wpV_go 9 rfl (fun K hK => ?_); go_simp; refine hK.out _ ?_; clear hK K))
  any_goals (refine wpV_go 10 rfl (fun K hK => ?_); go_simp; refine hK.out _ ?_; clear hK K)
  any_goals (refine wpV_nil ?_; intro q)
  go_wp2_with fail
  any_goals apply wp_region_V (id := 2) (vmap [(7, V32k _), (8, V32k _)]) (by kernel_rfl) (by kernel_rfl)
  any_goals (refine wpV_go 1 rfl (fun K hK => ?_); go_simp; refine hK.out _ ?_; clear hK K)
  any_goals (refine wpV_go 2 rfl (fun K hK => ?_); go_simp; refine hK.out _ ?_; clear hK K)
  any_goals (refine wpV_go 3 rfl (fun K hK => ?_); go_simp; refine hK.out _ ?_; clear hK K)
  any_goals (refine wpV_go 4 rfl (fun K hK => ?_); go_simp; refine hK.out _ ?_; clear hK K)
  any_goals (refine wpV_go 5 rfl (fun K hK => ?_); go_simp; refine hK.out _ ?_; clear hK K)
  any_goals (refine wpV_go 6 rfl (fun K hK => ?_); go_simp; refine hK.out _ ?_; clear hK K)
  any_goals (refine wpV_go 7 rfl (fun K hK => ?_); go_simp; refine hK.out _ ?_; clear hK K)
  any_goals (first | (refine wpV_f32 8 rfl (drewC _) _ _ _ _ _ rfl rfl rfl rfl (by decide) (by first | assumption | exact Is32.c (by decide)) (by first | assumption | exact Is32.c (by decide)) rfl ?_; intro z hz) | (refine wpV_go 8 rfl (fun K hK => ?_); go_simp; refine hK.out _ ?_; clear hK K))
  any_goals (first | (refine wpV_f32 9 rfl (drewC _) _ _ _ _ _ rfl rfl rfl rfl (by decide) (by first | assumption | exact Is32.c (by decide)) (by first | assumption | exact Is32.c (by decide)) rfl ?_; intro z hz) | (refine wpV_go 9 rfl (fun K hK => ?_); go_simp; refine hK.out _ ?_; clear hK K))
  any_goals (refine wpV_go 10 rfl (fun K hK => ?_); go_simp; refine hK.out _ ?_; clear hK K)
  any_goals (refine wpV_nil ?_; intro q)
  go_wp2_with fail
  any_goals apply wp_region_V (id := 3) (vmap [(4, V32k _), (7, V32k _), (8, V32k _), (9, V32k _), (10, V32k _), (11, V32k _)]) (by kernel_rfl) (by kernel_rfl)
  any_goals (refine wpV_go 1 rfl (fun K hK => ?_); go_simp; refine hK.out _ ?_; clear hK K)
  any_goals (refine wpV_go 2 rfl (fun K hK => ?_); go_simp; refine hK.out _ ?_; clear hK K)
  any_goals (refine wpV_go 3 rfl (fun K hK => ?_); go_simp; refine hK.out _ ?_; clear hK K)
  any_goals (refine wpV_go 4 rfl (fun K hK => ?_); go_simp; refine hK.out _ ?_; clear hK K)
  any_goals (first | (refine wpV_f32 5 rfl (drewC _) _ _ _ _ _ rfl rfl rfl rfl (by decide) (by first | assumption | exact Is32.c (by decide)) (by first | assumption | exact Is32.c (by decide)) rfl ?_; intro z hz) | (refine wpV_go 5 rfl (fun K hK => ?_); go_simp; refine hK.out _ ?_; clear hK K))
  any_goals (refine wpV_go 6 rfl (fun K hK => ?_); go_simp; refine hK.out _ ?_; clear hK K)
  any_goals (refine wpV_go 7 rfl (fun K hK => ?_); go_simp; refine hK.out _ ?_; clear hK K)
  any_goals (first | (refine wpV_f32 8 rfl (drewC _) _ _ _ _ _ rfl rfl rfl rfl (by decide) (by first | assumption | exact Is32.c (by decide)) (by first | assumption | exact Is32.c (by decide)) rfl ?_; intro z hz) | (refine wpV_go 8 rfl (fun K hK => ?_); go_simp; refine hK.out _ ?_; clear hK K))
  any_goals (first | (refine wpV_f32 9 rfl (drewC _) _ _ _ _ _ rfl rfl rfl rfl (by decide) (by first | assumption | exact Is32.c (by decide)) (by first | assumption | exact Is32.c (by decide)) rfl ?_; intro z hz) | (refine wpV_go 9 rfl (fun K hK => ?_); go_simp; refine hK.out _ ?_; clear hK K))
  any_goals (first | (refine wpV_num1 10 rfl (u := .float .f32 _) (drewC _) rfl (enters_of Try.func66 (by kernel_rfl) rfl) rfl rfl (fun _ => (rootNumber_o _ (by first | assumption | exact Is32.c (by decide)))) (rootO_ne _) rfl ?_; intro z hz) | (refine wpV_go 10 rfl (fun K hK => ?_); go_simp; refine hK.out _ ?_; clear hK K))
  any_goals (first | (refine wpV_f32 11 rfl (drewC _) _ _ _ _ _ rfl rfl rfl rfl (by decide) (by first | assumption | exact Is32.c (by decide)) (by first | assumption | exact Is32.c (by decide)) rfl ?_; intro z hz) | (refine wpV_go 11 rfl (fun K hK => ?_); go_simp; refine hK.out _ ?_; clear hK K))
  any_goals (first | (refine wpV_f32 12 rfl (drewC _) _ _ _ _ _ rfl rfl rfl rfl (by decide) (by first | assumption | exact Is32.c (by decide)) (by first | assumption | exact Is32.c (by decide)) rfl ?_; intro z hz) | (refine wpV_go 12 rfl (fun K hK => ?_); go_simp; refine hK.out _ ?_; clear hK K))
  any_goals (refine wpV_go 13 rfl (fun K hK => ?_); go_simp; refine hK.out _ ?_; clear hK K)
  any_goals (refine wpV_nil ?_; intro q)
  go_wp2_with fail
  go_ret
  exact ⟨_, rfl, hz, by rw [World.drewN_drewN, World.drewN_drewN]; exact ⟨_, rfl⟩⟩

end Go.Proofs.Ytgnkpppbhibfoab
