/- Slopes: the function value that tells heights. -/
import Derived.Test.YtgnkpppbhibfoabConeI
namespace Go.Proofs.Ytgnkpppbhibfoab
open Go.RowKit
set_option linter.unusedVariables false
set_option linter.unusedSimpArgs false
set_option maxRecDepth 100000
attribute [local irreducible] wpV wpList Code.wp

def slopeA (wide : Int) (B E : Option Nat) (k : Nat) : Option Nat := fop .add .f32 B (fop .mul .f32 E (some (iF (Int.tmod k wide))))
def slopeO (wide : Int) (B E S : Option Nat) (k : Nat) : Option Nat := fop .add .f32 (slopeA wide B E k) (fop .mul .f32 S (some (iF ((k : Int) / wide))))
def slopeT (wide : Int) (B E S : Option Nat) (n : Nat) : List (Option Nat) := (List.range n).map (slopeO wide B E S)
def resSlopeHill (wide high : Int) (b e s : Nat) : HR := if sidesB wide high && fin32 b && fin32 e && fin32 s then giveH wide high (slopeT wide (some b) (some e) (some s) (wide * high).toNat) else failH
theorem resSlopeHill_len (wide high : Int) (b e s : Nat) : (resSlopeHill wide high b e s).zs.length ≤ 1048576 := by
  unfold resSlopeHill
  split
  · rename_i h
    rw [Bool.and_eq_true, Bool.and_eq_true, Bool.and_eq_true] at h
    have h2 := mul_bound h.1.1.1
    have := giveH_len9 wide high (slopeT wide (some b) (some e) (some s) (wide * high).toNat)
    rw [show (slopeT wide (some b) (some e) (some s) (wide * high).toNat).length = (wide * high).toNat by simp [slopeT]] at this
    omega
  · exact Nat.zero_le _

set_option maxHeartbeats 2000000 in
theorem slopeClo_any {B E S : Option Nat} {b e s : Nat} (wide high : Int) (k b1 b2 b3 b4 : Nat) (W : World) (hs : sidesB wide high = true) (hk : k < 256) (hb : Is32 B b) (he : Is32 E e) (hs9 : Is32 S s) (c1 : W.cell? ⟨b1, 0, none⟩ = some (.int .i64 wide)) (c2 : W.cell? ⟨b2, 0, none⟩ = some (.float .f32 b)) (c3 : W.cell? ⟨b3, 0, none⟩ = some (.float .f32 e)) (c4 : W.cell? ⟨b4, 0, none⟩ = some (.float .f32 s)) :
    Calls Try.prog 63 #[.int .i64 (k : Int), .pointer (some ⟨b1, 0, none⟩), .pointer (some ⟨b2, 0, none⟩), .pointer (some ⟨b3, 0, none⟩), .pointer (some ⟨b4, 0, none⟩)] W (NumQ (slopeO wide B E S k) W) := by
  obtain ⟨hw1, hw2, hh1, hh2⟩ := sidesB_true hs
  have hw0 : wide ≠ 0 := by omega
  have hw0' : (wide == 0) = false := by simp; omega
  have hwm : wide ≠ -1 := by omega
  have hk0 : (0 : Int) ≤ (k : Int) := by omega
  have htm1 : 0 ≤ Int.tmod k wide := Int.tmod_nonneg _ hk0
  have htm2 : Int.tmod k wide < wide := Int.tmod_lt_of_pos _ (by omega)
  have htd1 : 0 ≤ ((k : Int) / wide) := Int.ediv_nonneg hk0 (by omega)
  have htd2 : ((k : Int) / wide) ≤ k := Int.ediv_le_self _ hk0
  have hi1 : IntKind.i64.wrap (Int.tmod k wide) = Int.tmod k wide := IntWalk.i64_in _ (by omega)
  have hi2 : IntKind.i64.wrap (((k : Int) / wide)) = ((k : Int) / wide) := IntWalk.i64_in _ (by omega)
  have hi3 : IntKind.i64.wrap (wide - 1) = wide - 1 := IntWalk.i64_in _ (by omega)
  have hf1 : Is32 (some (iF (Int.tmod k wide))) (floatOfInt .f32 (Int.tmod k wide)) := iF_is _
  have hf2 : Is32 (some (iF (((k : Int) / wide)))) (floatOfInt .f32 ((k : Int) / wide)) := iF_is _
  have hf3 : Is32 (some (iF (wide - 1))) (floatOfInt .f32 (wide - 1)) := iF_is _
  have hf5 : Is32 (some (iF (Int.tmod k wide))) (floatOfInt .f32 ((k : Int) % wide)) := by rw [show (k : Int) % wide = Int.tmod k wide from (Int.tmod_eq_emod_of_nonneg hk0).symm]; exact iF_is _
  go_enter Try.func63, Try.ntmps63
  go_wp2_with fail
  any_goals apply wp_region_V (id := 1) (vmap []) (by kernel_rfl) (by kernel_rfl)
  any_goals (refine wpV_go 1 rfl (fun K hK => ?_); go_simp; refine hK.out _ ?_; clear hK K)
  any_goals (refine wpV_go 2 rfl (fun K hK => ?_); go_simp; refine hK.out _ ?_; clear hK K)
  any_goals (refine wpV_go 3 rfl (fun K hK => ?_); go_simp; refine hK.out _ ?_; clear hK K)
  any_goals (refine wpV_go 4 rfl (fun K hK => ?_); go_simp; refine hK.out _ ?_; clear hK K)
  any_goals (refine wpV_go 5 rfl (fun K hK => ?_); go_simp; refine hK.out _ ?_; clear hK K)
  any_goals (refine wpV_go 6 rfl (fun K hK => ?_); go_simp; refine hK.out _ ?_; clear hK K)
  any_goals (refine wpV_go 7 rfl (fun K hK => ?_); go_simp; refine hK.out _ ?_; clear hK K)
  any_goals (refine wpV_go 8 rfl (fun K hK => ?_); go_simp; refine hK.out _ ?_; clear hK K)
  any_goals (refine wpV_nil ?_; intro q)
  go_wp2_with (first | ((with_reducible refine wpList_bin ?_); refine wpList_f32 rfl _ _ _ _ _ rfl rfl rfl (by decide) (by first | assumption | exact Is32.c (by decide)) (by first | assumption | exact Is32.c (by decide)) ?_; intro z n hz))
  go_ret
  exact ⟨_, rfl, hz, by first | exact ⟨_, rfl⟩ | (rw [World.drewN_drewN]; exact ⟨_, rfl⟩) | (rw [World.drewN_drewN, World.drewN_drewN]; exact ⟨_, rfl⟩)⟩

end Go.Proofs.Ytgnkpppbhibfoab
