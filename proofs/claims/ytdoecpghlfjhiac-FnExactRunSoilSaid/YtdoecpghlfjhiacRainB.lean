/- Soils: the program and its model alike. -/
import Derived.Test.YtdoecpghlfjhiacRainA
namespace Go.Proofs.Ytdoecpghlfjhiac
open Go.RowKit
set_option linter.unusedVariables false
set_option linter.unusedSimpArgs false
set_option maxRecDepth 100000
attribute [local irreducible] wpV wpList Code.wp

def soilO (A0 A1 A2 A3 A4 : Option Nat) : Bool := amtO A0 && amtO A1 && amtO A2 && amtO A3 && fcmp .geq .f32 A4 (some 0) && fcmp .leq .f32 A4 A2
def canO (A0 A1 A4 : Option Nat) : Option Nat := fop .mul .f32 A0 (fop .add .f32 (some 1065353216) (fop .quo .f32 A1 (fop .add .f32 (some 1065353216) A4)))
def takeO (A0 A1 A2 A3 A4 : Option Nat) : Option Nat × Bool := if soilO A0 A1 A2 A3 A4 then onlyO (canO A0 A1 A4) else (some 0, false)

set_option maxHeartbeats 1000000 in
theorem validSoil_i {A0 A1 A2 A3 A4 : Option Nat} {a0 a1 a2 a3 a4 : Nat} (w : World)  (ha0 : Is32 A0 a0) (ha1 : Is32 A1 a1) (ha2 : Is32 A2 a2) (ha3 : Is32 A3 a3) (ha4 : Is32 A4 a4) :
    Calls Try.prog 73 #[.agg #[.float .f32 a0, .float .f32 a1, .float .f32 a2, .float .f32 a3, .float .f32 a4]] w (SayB (soilO A0 A1 A2 A3 A4) w) := by
  go_enter Try.func73, Try.ntmps73
  go_wp2_with (first | ((with_reducible refine wpList_bin ?_); refine wpList_f32 rfl _ _ _ _ _ rfl rfl rfl (by decide) (by first | assumption | exact Is32.c (by decide)) (by first | assumption | exact Is32.c (by decide)) ?_; intro z n hz) | ((with_reducible refine wpList_bin ?_); refine wpList_c32 rfl _ _ _ _ _ rfl rfl rfl (by decide) (by first | assumption | exact Is32.c (by decide)) (by first | assumption | exact Is32.c (by decide)) ?_; intro bb hbb; cases bb) | (go_at_call 95; refine (isAmount_o _ (by first | assumption | exact Is32.c (by decide))).mono ?_; rintro e w' ⟨bb, hbb, rfl, rfl⟩; cases bb))
  all_goals go_ret
  all_goals (refine ⟨_, ?_, rfl, (by first | exact (bel1 _ _ ) | exact beld (bel1 _ _ ) _ | exact beld (beld (bel1 _ _ ) _) _ | exact Below.alloc (by first | exact (bel1 _ _ ) | exact beld (bel1 _ _ ) _) (by first | (simp; done) | (simp; omega) | omega) _ | exact beld (Below.alloc (by first | exact (bel1 _ _ ) | exact beld (bel1 _ _ ) _) (by first | (simp; done) | (simp; omega) | omega) _) _)⟩; simp [soilO, *])

set_option maxHeartbeats 8000000 in
theorem l03Soil_o {A0 A1 A2 A3 A4 : Option Nat} {a0 a1 a2 a3 a4 : Nat} (ba : Nat) (w : World) (hBa : Bx w ba [.float .f32 a0, .float .f32 a1, .float .f32 a2, .float .f32 a3, .float .f32 a4]) (ha0 : Is32 A0 a0) (ha1 : Is32 A1 a1) (ha2 : Is32 A2 a2) (ha3 : Is32 A3 a3) (ha4 : Is32 A4 a4) :
    Calls Try.prog 136 #[.pointer (some ⟨ba, 0, none⟩)] w (SayQ (soilO A0 A1 A2 A3 A4) w) := by
  have ca0 := hBa.c 0 rfl
  have ca1 := hBa.c 1 rfl
  have ca2 := hBa.c 2 rfl
  have ca3 := hBa.c 3 rfl
  have ca4 := hBa.c 4 rfl
  go_enter Try.func136, Try.ntmps136
  go_wp2_with (first | ((with_reducible refine wpList_bin ?_); refine wpList_f32 rfl _ _ _ _ _ rfl rfl rfl (by decide) (by first | assumption | exact Is32.c (by decide)) (by first | assumption | exact Is32.c (by decide)) ?_; intro z n hz) | ((with_reducible refine wpList_bin ?_); refine wpList_c32 rfl _ _ _ _ _ rfl rfl rfl (by decide) (by first | assumption | exact Is32.c (by decide)) (by first | assumption | exact Is32.c (by decide)) ?_; intro bb hbb; cases bb) | (go_at_call 91; refine (l02Least_o _ (by first | assumption | exact Is32.c (by decide))).mono ?_; rintro e w' ⟨bb, hbb, rfl, q, rfl⟩; cases bb))
  any_goals apply wp_region_V (id := 1) (vmap [(4, VB (amtO A0)), (10, VB (amtO A1)), (17, VB (amtO A2)), (24, VB (amtO A3))]) (by kernel_rfl) (by kernel_rfl)
  any_goals (refine wpV_go 1 rfl (fun K hK => ?_); go_simp; refine hK.out _ ?_; clear hK K)
  any_goals (refine wpV_go 2 rfl (fun K hK => ?_); go_simp; refine hK.out _ ?_; clear hK K)
  any_goals (refine wpV_go 3 rfl (fun K hK => ?_); go_simp; refine hK.out _ ?_; clear hK K)
  any_goals (refine wpV_go 4 rfl (fun K hK => ?_); go_simp; refine hK.out _ ?_; clear hK K)
  any_goals (first | (refine wpV_say1 5 rfl (u := .float .f32 _) (drewC _) rfl (enters_of Try.func91 (by kernel_rfl) rfl) rfl rfl (fun _ => (l02Least_o _ (by first | assumption | exact Is32.c (by decide)))) rfl ?_; intro bb hbb; cases bb) | (refine wpV_go 5 rfl (fun K hK => ?_); go_simp; refine hK.out _ ?_; clear hK K))
  any_goals (refine wpV_go 6 rfl (fun K hK => ?_); go_simp; refine hK.out _ ?_; clear hK K)
  any_goals (refine wpV_go 7 rfl (fun K hK => ?_); go_simp; refine hK.out _ ?_; clear hK K)
  any_goals (refine wpV_go 8 rfl (fun K hK => ?_); go_simp; refine hK.out _ ?_; clear hK K)
  any_goals (refine wpV_go 9 rfl (fun K hK => ?_); go_simp; refine hK.out _ ?_; clear hK K)
  any_goals (refine wpV_go 10 rfl (fun K hK => ?_); go_simp; refine hK.out _ ?_; clear hK K)
  any_goals (first | ((refine wpV_yes rfl ?_); refine wpV_say1 11 rfl (u := .float .f32 _) (drewC _) rfl (enters_of Try.func91 (by kernel_rfl) rfl) rfl rfl (fun _ => (l02Least_o _ (by first | assumption | exact Is32.c (by decide)))) rfl ?_; intro bb hbb; cases bb) | (refine wpV_go 11 rfl (fun K hK => ?_); go_simp; refine hK.out _ ?_; clear hK K))
  any_goals (refine wpV_go 12 rfl (fun K hK => ?_); go_simp; refine hK.out _ ?_; clear hK K)
  any_goals (refine wpV_go 13 rfl (fun K hK => ?_); go_simp; refine hK.out _ ?_; clear hK K)
  any_goals (refine wpV_go 14 rfl (fun K hK => ?_); go_simp; refine hK.out _ ?_; clear hK K)
  any_goals (refine wpV_go 15 rfl (fun K hK => ?_); go_simp; refine hK.out _ ?_; clear hK K)
  any_goals (refine wpV_go 16 rfl (fun K hK => ?_); go_simp; refine hK.out _ ?_; clear hK K)
  any_goals (refine wpV_go 17 rfl (fun K hK => ?_); go_simp; refine hK.out _ ?_; clear hK K)
  any_goals (first | ((refine wpV_yes rfl ?_); refine wpV_say1 18 rfl (u := .float .f32 _) (drewC _) rfl (enters_of Try.func91 (by kernel_rfl) rfl) rfl rfl (fun _ => (l02Least_o _ (by first | assumption | exact Is32.c (by decide)))) rfl ?_; intro bb hbb; cases bb) | (refine wpV_go 18 rfl (fun K hK => ?_); go_simp; refine hK.out _ ?_; clear hK K))
  any_goals (refine wpV_go 19 rfl (fun K hK => ?_); go_simp; refine hK.out _ ?_; clear hK K)
  any_goals (refine wpV_go 20 rfl (fun K hK => ?_); go_simp; refine hK.out _ ?_; clear hK K)
  any_goals (refine wpV_go 21 rfl (fun K hK => ?_); go_simp; refine hK.out _ ?_; clear hK K)
  any_goals (refine wpV_go 22 rfl (fun K hK => ?_); go_simp; refine hK.out _ ?_; clear hK K)
  any_goals (refine wpV_go 23 rfl (fun K hK => ?_); go_simp; refine hK.out _ ?_; clear hK K)
  any_goals (refine wpV_go 24 rfl (fun K hK => ?_); go_simp; refine hK.out _ ?_; clear hK K)
  any_goals (first | ((refine wpV_yes rfl ?_); refine wpV_say1 25 rfl (u := .float .f32 _) (drewC _) rfl (enters_of Try.func91 (by kernel_rfl) rfl) rfl rfl (fun _ => (l02Least_o _ (by first | assumption | exact Is32.c (by decide)))) rfl ?_; intro bb hbb; cases bb) | (refine wpV_go 25 rfl (fun K hK => ?_); go_simp; refine hK.out _ ?_; clear hK K))
  any_goals (refine wpV_go 26 rfl (fun K hK => ?_); go_simp; refine hK.out _ ?_; clear hK K)
  any_goals (refine wpV_go 27 rfl (fun K hK => ?_); go_simp; refine hK.out _ ?_; clear hK K)
  any_goals (refine wpV_go 28 rfl (fun K hK => ?_); go_simp; refine hK.out _ ?_; clear hK K)
  any_goals (refine wpV_go 29 rfl (fun K hK => ?_); go_simp; refine hK.out _ ?_; clear hK K)
  any_goals (refine wpV_go 30 rfl (fun K hK => ?_); go_simp; refine hK.out _ ?_; clear hK K)
  any_goals (refine wpV_go 31 rfl (fun K hK => ?_); go_simp; refine hK.out _ ?_; clear hK K)
  any_goals (first | ((refine wpV_yes rfl ?_); refine wpV_c32 32 rfl _ _ _ _ _ rfl rfl rfl rfl (by decide) (by first | assumption | exact Is32.c (by decide)) (by first | assumption | exact Is32.c (by decide)) rfl ?_; intro bb hbb; cases bb) | (refine wpV_go 32 rfl (fun K hK => ?_); go_simp; refine hK.out _ ?_; clear hK K))
  any_goals (refine wpV_go 33 rfl (fun K hK => ?_); go_simp; refine hK.out _ ?_; clear hK K)
  any_goals (refine wpV_go 34 rfl (fun K hK => ?_); go_simp; refine hK.out _ ?_; clear hK K)
  any_goals (refine wpV_go 35 rfl (fun K hK => ?_); go_simp; refine hK.out _ ?_; clear hK K)
  any_goals (refine wpV_go 36 rfl (fun K hK => ?_); go_simp; refine hK.out _ ?_; clear hK K)
  any_goals (refine wpV_go 37 rfl (fun K hK => ?_); go_simp; refine hK.out _ ?_; clear hK K)
  any_goals (refine wpV_go 38 rfl (fun K hK => ?_); go_simp; refine hK.out _ ?_; clear hK K)
  any_goals (refine wpV_go 39 rfl (fun K hK => ?_); go_simp; refine hK.out _ ?_; clear hK K)
  any_goals (refine wpV_go 40 rfl (fun K hK => ?_); go_simp; refine hK.out _ ?_; clear hK K)
  any_goals (refine wpV_go 41 rfl (fun K hK => ?_); go_simp; refine hK.out _ ?_; clear hK K)
  any_goals (refine wpV_go 42 rfl (fun K hK => ?_); go_simp; refine hK.out _ ?_; clear hK K)
  any_goals (first | ((refine wpV_yes rfl ?_); refine wpV_c32 43 rfl _ _ _ _ _ rfl rfl rfl rfl (by decide) (by first | assumption | exact Is32.c (by decide)) (by first | assumption | exact Is32.c (by decide)) rfl ?_; intro bb hbb; cases bb) | (refine wpV_go 43 rfl (fun K hK => ?_); go_simp; refine hK.out _ ?_; clear hK K))
  any_goals (refine wpV_go 44 rfl (fun K hK => ?_); go_simp; refine hK.out _ ?_; clear hK K)
  any_goals (refine wpV_go 45 rfl (fun K hK => ?_); go_simp; refine hK.out _ ?_; clear hK K)
  any_goals (refine wpV_nil ?_; intro q)
  any_goals go_wp2_with (first | ((with_reducible refine wpList_bin ?_); refine wpList_f32 rfl _ _ _ _ _ rfl rfl rfl (by decide) (by first | assumption | exact Is32.c (by decide)) (by first | assumption | exact Is32.c (by decide)) ?_; intro z n hz) | ((with_reducible refine wpList_bin ?_); refine wpList_c32 rfl _ _ _ _ _ rfl rfl rfl (by decide) (by first | assumption | exact Is32.c (by decide)) (by first | assumption | exact Is32.c (by decide)) ?_; intro bb hbb; cases bb) | (go_at_call 91; refine (l02Least_o _ (by first | assumption | exact Is32.c (by decide))).mono ?_; rintro e w' ⟨bb, hbb, rfl, q, rfl⟩; cases bb))
  all_goals go_ret
  all_goals (refine ⟨_, ?_, rfl, (by first | exact ⟨_, rfl⟩ | exact ⟨0, rfl⟩ | exact drewC _ _ _ ⟨_, rfl⟩ | exact drewC _ _ _ (drewC _ _ _ ⟨_, rfl⟩) | exact drewC _ _ _ (drewC _ _ _ (drewC _ _ _ ⟨_, rfl⟩)) | exact drewC _ _ _ (drewC _ _ _ (drewC _ _ _ (drewC _ _ _ ⟨_, rfl⟩))))⟩; simp [soilO, *])

set_option maxHeartbeats 1000000 in
theorem canTake_i {A0 A1 A2 A3 A4 : Option Nat} {a0 a1 a2 a3 a4 : Nat} (w : World)  (ha0 : Is32 A0 a0) (ha1 : Is32 A1 a1) (ha2 : Is32 A2 a2) (ha3 : Is32 A3 a3) (ha4 : Is32 A4 a4) :
    Calls Try.prog 72 #[.agg #[.float .f32 a0, .float .f32 a1, .float .f32 a2, .float .f32 a3, .float .f32 a4]] w (OnlyB (takeO A0 A1 A2 A3 A4) w) := by
  go_enter Try.func72, Try.ntmps72
  go_wp2_with (first | ((with_reducible refine wpList_bin ?_); refine wpList_f32 rfl _ _ _ _ _ rfl rfl rfl (by decide) (by first | assumption | exact Is32.c (by decide)) (by first | assumption | exact Is32.c (by decide)) ?_; intro z n hz) | ((with_reducible refine wpList_bin ?_); refine wpList_c32 rfl _ _ _ _ _ rfl rfl rfl (by decide) (by first | assumption | exact Is32.c (by decide)) (by first | assumption | exact Is32.c (by decide)) ?_; intro bb hbb; cases bb) | (go_at_call 73; refine (validSoil_i _ (by first | assumption | exact Is32.c (by decide)) (by first | assumption | exact Is32.c (by decide)) (by first | assumption | exact Is32.c (by decide)) (by first | assumption | exact Is32.c (by decide)) (by first | assumption | exact Is32.c (by decide))).mono ?_; rintro e w1 ⟨bb, hbb, rfl, hb⟩; have hb1 : Below w.heap.size w w1 := (by first | exact (bel1 _ _ ).trans (hb.mono (by first | (simp; done) | (simp; omega) | omega)) | exact (beld (bel1 _ _ ) _).trans (hb.mono (by first | (simp; done) | (simp; omega) | omega))); have hs1 : w.heap.size + 1 ≤ w1.heap.size := (by have := hb.size; (try simp at this); omega); have bxa1 : Bx w1 (w.heap.size) [.float .f32 a0, .float .f32 a1, .float .f32 a2, .float .f32 a3, .float .f32 a4] := (by first | exact Bx.below (Bx.new w [.float .f32 a0, .float .f32 a1, .float .f32 a2, .float .f32 a3, .float .f32 a4] _) hb (by first | (simp; done) | (simp; omega) | omega) | exact Bx.below (Bx.drewN (Bx.new w [.float .f32 a0, .float .f32 a1, .float .f32 a2, .float .f32 a3, .float .f32 a4] _) _) hb (by first | (simp; done) | (simp; omega) | omega)); have ca0 := bxa1.c 0 rfl; have ca1 := bxa1.c 1 rfl; have ca2 := bxa1.c 2 rfl; have ca3 := bxa1.c 3 rfl; have ca4 := bxa1.c 4 rfl; have Bxa1 := Lib.hid bxa1; clear bxa1; have Hb1 := Lib.hid hb1; clear hb hb1; cases bb) | (go_at_call 98; refine (finiteOnly_o _ (by first | assumption | exact Is32.c (by decide))).mono ?_; rintro e w' ⟨z, bb, rfl, hbb, hz, rfl⟩; cases bb))
  all_goals go_ret2
  all_goals (refine ⟨_, _, rfl, ?_, ?_, (by first | exact (bel1 _ _ ) | exact beld (bel1 _ _ ) _ | exact beld (beld (bel1 _ _ ) _) _ | exact Hb1.out | exact beld Hb1.out _ | exact beld (beld Hb1.out _) _ | exact Below.alloc (by first | exact (bel1 _ _ ) | exact beld (bel1 _ _ ) _) (by first | (simp; done) | (simp; omega) | omega) _ | exact beld (Below.alloc (by first | exact (bel1 _ _ ) | exact beld (bel1 _ _ ) _) (by first | (simp; done) | (simp; omega) | omega) _) _ | exact Below.alloc (by first | exact Hb1.out | exact beld Hb1.out _) (by first | (simp; done) | (simp; omega) | omega) _ | exact beld (Below.alloc (by first | exact Hb1.out | exact beld Hb1.out _) (by first | (simp; done) | (simp; omega) | omega) _) _)⟩; (simp [takeO, canO, *]); first | (simp [takeO, canO, *]; done) | (simp [takeO, canO, *]; exact Is32.c (by decide)) | (simp [takeO, canO, *]; assumption))

set_option maxHeartbeats 1000000 in
theorem l03Can_o {A0 A1 A2 A3 A4 : Option Nat} {a0 a1 a2 a3 a4 : Nat} (ba : Nat) (w : World) (hBa : Bx w ba [.float .f32 a0, .float .f32 a1, .float .f32 a2, .float .f32 a3, .float .f32 a4]) (ha0 : Is32 A0 a0) (ha1 : Is32 A1 a1) (ha2 : Is32 A2 a2) (ha3 : Is32 A3 a3) (ha4 : Is32 A4 a4) :
    Calls Try.prog 204 #[.pointer (some ⟨ba, 0, none⟩)] w (NumQ (canO A0 A1 A4) w) := by
  have ca0 := hBa.c 0 rfl
  have ca1 := hBa.c 1 rfl
  have ca2 := hBa.c 2 rfl
  have ca3 := hBa.c 3 rfl
  have ca4 := hBa.c 4 rfl
  go_enter Try.func204, Try.ntmps204
  go_wp2_with (first | ((with_reducible refine wpList_bin ?_); refine wpList_f32 rfl _ _ _ _ _ rfl rfl rfl (by decide) (by first | assumption | exact Is32.c (by decide)) (by first | assumption | exact Is32.c (by decide)) ?_; intro z n hz) | ((with_reducible refine wpList_bin ?_); refine wpList_c32 rfl _ _ _ _ _ rfl rfl rfl (by decide) (by first | assumption | exact Is32.c (by decide)) (by first | assumption | exact Is32.c (by decide)) ?_; intro bb hbb; cases bb))
  any_goals apply wp_region_V (id := 1) (vmap [(12, V32k _), (13, V32k _), (14, V32k _), (15, V32k _)]) (by kernel_rfl) (by kernel_rfl)
  any_goals (refine wpV_go 1 rfl (fun K hK => ?_); go_simp; refine hK.out _ ?_; clear hK K)
  any_goals (refine wpV_go 2 rfl (fun K hK => ?_); go_simp; refine hK.out _ ?_; clear hK K)
  any_goals (refine wpV_go 3 rfl (fun K hK => ?_); go_simp; refine hK.out _ ?_; clear hK K)
  any_goals (refine wpV_go 4 rfl (fun K hK => ?_); go_simp; refine hK.out _ ?_; clear hK K)
  any_goals (refine wpV_go 5 rfl (fun K hK => ?_); go_simp; refine hK.out _ ?_; clear hK K)
  any_goals (refine wpV_go 6 rfl (fun K hK => ?_); go_simp; refine hK.out _ ?_; clear hK K)
  any_goals (refine wpV_go 7 rfl (fun K hK => ?_); go_simp; refine hK.out _ ?_; clear hK K)
  any_goals (refine wpV_go 8 rfl (fun K hK => ?_); go_simp; refine hK.out _ ?_; clear hK K)
  any_goals (refine wpV_go 9 rfl (fun K hK => ?_); go_simp; refine hK.out _ ?_; clear hK K)
  any_goals (refine wpV_go 10 rfl (fun K hK => ?_); go_simp; refine hK.out _ ?_; clear hK K)
  any_goals (refine wpV_go 11 rfl (fun K hK => ?_); go_simp; refine hK.out _ ?_; clear hK K)
  any_goals (refine wpV_go 12 rfl (fun K hK => ?_); go_simp; refine hK.out _ ?_; clear hK K)
  any_goals (first | (refine wpV_f32 13 rfl (drewC _) _ _ _ _ _ rfl rfl rfl rfl (by decide) (by first | assumption | exact Is32.c (by decide)) (by first | assumption | exact Is32.c (by decide)) rfl ?_; intro z hz) | (refine wpV_go 13 rfl (fun K hK => ?_); go_simp; refine hK.out _ ?_; clear hK K))
  any_goals (first | (refine wpV_f32 14 rfl (drewC _) _ _ _ _ _ rfl rfl rfl rfl (by decide) (by first | assumption | exact Is32.c (by decide)) (by first | assumption | exact Is32.c (by decide)) rfl ?_; intro z hz) | (refine wpV_go 14 rfl (fun K hK => ?_); go_simp; refine hK.out _ ?_; clear hK K))
  any_goals (first | (refine wpV_f32 15 rfl (drewC _) _ _ _ _ _ rfl rfl rfl rfl (by decide) (by first | assumption | exact Is32.c (by decide)) (by first | assumption | exact Is32.c (by decide)) rfl ?_; intro z hz) | (refine wpV_go 15 rfl (fun K hK => ?_); go_simp; refine hK.out _ ?_; clear hK K))
  any_goals (first | (refine wpV_f32 16 rfl (drewC _) _ _ _ _ _ rfl rfl rfl rfl (by decide) (by first | assumption | exact Is32.c (by decide)) (by first | assumption | exact Is32.c (by decide)) rfl ?_; intro z hz) | (refine wpV_go 16 rfl (fun K hK => ?_); go_simp; refine hK.out _ ?_; clear hK K))
  any_goals (refine wpV_go 17 rfl (fun K hK => ?_); go_simp; refine hK.out _ ?_; clear hK K)
  any_goals (refine wpV_nil ?_; intro q)
  any_goals go_wp2_with (first | ((with_reducible refine wpList_bin ?_); refine wpList_f32 rfl _ _ _ _ _ rfl rfl rfl (by decide) (by first | assumption | exact Is32.c (by decide)) (by first | assumption | exact Is32.c (by decide)) ?_; intro z n hz) | ((with_reducible refine wpList_bin ?_); refine wpList_c32 rfl _ _ _ _ _ rfl rfl rfl (by decide) (by first | assumption | exact Is32.c (by decide)) (by first | assumption | exact Is32.c (by decide)) ?_; intro bb hbb; cases bb))
  all_goals go_ret
  all_goals (refine ⟨_, rfl, ?_, (by first | exact ⟨_, rfl⟩ | exact ⟨0, rfl⟩ | exact drewC _ _ _ ⟨_, rfl⟩ | exact drewC _ _ _ (drewC _ _ _ ⟨_, rfl⟩) | exact drewC _ _ _ (drewC _ _ _ (drewC _ _ _ ⟨_, rfl⟩)) | exact drewC _ _ _ (drewC _ _ _ (drewC _ _ _ (drewC _ _ _ ⟨_, rfl⟩))))⟩; first | assumption  | (simp [canO, *]; done) | (simp [canO, *]; exact Is32.c (by decide)) | (simp [canO, *]; assumption))

end Go.Proofs.Ytdoecpghlfjhiac
