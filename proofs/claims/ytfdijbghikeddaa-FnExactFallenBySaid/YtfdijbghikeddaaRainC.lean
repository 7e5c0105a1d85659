/- Storms: the program and its model alike. -/
import Derived.Test.YtfdijbghikeddaaRainA
namespace Go.Proofs.Ytfdijbghikeddaa
open Go.RowKit
set_option linter.unusedVariables false
set_option linter.unusedSimpArgs false
attribute [local irreducible] wpV wpList Code.wp

def stormO (A0 A1 A2 A3 : Option Nat) : Bool := amtO A0 && amtO A2 && posO A1 && fcmp .gtr .f32 A3 (some 0) && fcmp .lss .f32 A3 (some 1065353216)
def rainU (A1 A2 A3 U : Option Nat) : Option Nat :=
  if fcmp .lss .f32 U (some 0) || fcmp .gtr .f32 U (some 1065353216) then some 0
  else fop .mul .f32 (fop .quo .f32 (fop .mul .f32 (some 1073741824) A2) A1) (if fcmp .leq .f32 U A3 then fop .quo .f32 U A3 else fop .quo .f32 (fop .sub .f32 (some 1065353216) U) (fop .sub .f32 (some 1065353216) A3))
def rainO (A0 A1 A2 A3 T : Option Nat) : Option Nat × Bool :=
  if stormO A0 A1 A2 A3 && fin32o T then onlyO (rainU A1 A2 A3 (fop .quo .f32 (fop .sub .f32 T A0) A1)) else (some 0, false)
def fallU (A2 A3 U : Option Nat) : Option Nat :=
  if !fcmp .gtr .f32 U (some 0) then some 0 else if fcmp .geq .f32 U (some 1065353216) then A2
  else if fcmp .leq .f32 U A3 then fop .mul .f32 A2 (fop .quo .f32 (fop .mul .f32 U U) A3)
  else fop .mul .f32 A2 (fop .sub .f32 (some 1065353216) (fop .quo .f32 (fop .mul .f32 (fop .sub .f32 (some 1065353216) U) (fop .sub .f32 (some 1065353216) U)) (fop .sub .f32 (some 1065353216) A3)))
def fallO (A0 A1 A2 A3 T : Option Nat) : Option Nat × Bool :=
  if stormO A0 A1 A2 A3 && fin32o T then onlyO (fallU A2 A3 (fop .quo .f32 (fop .sub .f32 T A0) A1)) else (some 0, false)

set_option maxHeartbeats 1000000 in
theorem validStorm_i {A0 A1 A2 A3 : Option Nat} {a0 a1 a2 a3 : Nat} (w : World)  (ha0 : Is32 A0 a0) (ha1 : Is32 A1 a1) (ha2 : Is32 A2 a2) (ha3 : Is32 A3 a3) :
    Calls Try.prog 21 #[.agg #[.float .f32 a0, .float .f32 a1, .float .f32 a2, .float .f32 a3]] w (SayB (stormO A0 A1 A2 A3) w) := by
  go_enter Try.func21, Try.ntmps21
  go_wp2_with (first | ((with_reducible refine wpList_bin ?_); refine wpList_f32 rfl _ _ _ _ _ rfl rfl rfl (by decide) (by first | assumption | exact Is32.c (by decide)) (by first | assumption | exact Is32.c (by decide)) ?_; intro z n hz) | ((with_reducible refine wpList_bin ?_); refine wpList_c32 rfl _ _ _ _ _ rfl rfl rfl (by decide) (by first | assumption | exact Is32.c (by decide)) (by first | assumption | exact Is32.c (by decide)) ?_; intro bb hbb; cases bb) | (go_at_call 51; refine (isAmount_o _ (by first | assumption | exact Is32.c (by decide))).mono ?_; rintro e w' ⟨bb, hbb, rfl, rfl⟩; cases bb) | (go_at_call 53; refine (isPositive_o _ (by first | assumption | exact Is32.c (by decide))).mono ?_; rintro e w' ⟨bb, hbb, rfl, rfl⟩; cases bb))
  all_goals go_ret
  all_goals (refine ⟨_, ?_, rfl, (by first | exact (bel1 _ _ ) | exact beld (bel1 _ _ ) _)⟩; simp [stormO, *])

set_option maxHeartbeats 8000000 in
theorem l03Storm_o {A0 A1 A2 A3 : Option Nat} {a0 a1 a2 a3 : Nat} (ba : Nat) (w : World) (hBa : Bx w ba [.float .f32 a0, .float .f32 a1, .float .f32 a2, .float .f32 a3]) (ha0 : Is32 A0 a0) (ha1 : Is32 A1 a1) (ha2 : Is32 A2 a2) (ha3 : Is32 A3 a3) :
    Calls Try.prog 52 #[.pointer (some ⟨ba, 0, none⟩)] w (SayQ (stormO A0 A1 A2 A3) w) := by
  have ca0 := hBa.c 0 rfl
  have ca1 := hBa.c 1 rfl
  have ca2 := hBa.c 2 rfl
  have ca3 := hBa.c 3 rfl
  go_enter Try.func52, Try.ntmps52
  go_wp2_with (first | ((with_reducible refine wpList_bin ?_); refine wpList_f32 rfl _ _ _ _ _ rfl rfl rfl (by decide) (by first | assumption | exact Is32.c (by decide)) (by first | assumption | exact Is32.c (by decide)) ?_; intro z n hz) | ((with_reducible refine wpList_bin ?_); refine wpList_c32 rfl _ _ _ _ _ rfl rfl rfl (by decide) (by first | assumption | exact Is32.c (by decide)) (by first | assumption | exact Is32.c (by decide)) ?_; intro bb hbb; cases bb) | (go_at_call 71; refine (l02Least_o _ (by first | assumption | exact Is32.c (by decide))).mono ?_; rintro e w' ⟨bb, hbb, rfl, q, rfl⟩; cases bb) | (go_at_call 72; refine (l02Above_o _ (by first | assumption | exact Is32.c (by decide))).mono ?_; rintro e w' ⟨bb, hbb, rfl, q, rfl⟩; cases bb))
  all_goals go_ret
  all_goals (refine ⟨_, ?_, rfl, _, rfl⟩; simp [stormO, *])

set_option maxHeartbeats 1000000 in
theorem validStorm_s {A0 A1 A2 A3 : Option Nat} {a0 a1 a2 a3 : Nat} (w : World)  (ha0 : Is32 A0 a0) (ha1 : Is32 A1 a1) (ha2 : Is32 A2 a2) (ha3 : Is32 A3 a3) :
    Calls Try.prog 19 #[.agg #[.float .f32 a0, .float .f32 a1, .float .f32 a2, .float .f32 a3]] w (SayB (stormO A0 A1 A2 A3) w) := by
  go_enter Try.func19, Try.ntmps19
  go_wp2_with (first | ((with_reducible refine wpList_bin ?_); refine wpList_f32 rfl _ _ _ _ _ rfl rfl rfl (by decide) (by first | assumption | exact Is32.c (by decide)) (by first | assumption | exact Is32.c (by decide)) ?_; intro z n hz) | ((with_reducible refine wpList_bin ?_); refine wpList_c32 rfl _ _ _ _ _ rfl rfl rfl (by decide) (by first | assumption | exact Is32.c (by decide)) (by first | assumption | exact Is32.c (by decide)) ?_; intro bb hbb; cases bb) | (go_at_call 52; refine (l03Storm_o _ _ (by first | exact Bx.new _ [_, _, _, _] _ | exact Bx.drewN (Bx.new _ [_, _, _, _] _) _ | assumption) (by first | assumption | exact Is32.c (by decide)) (by first | assumption | exact Is32.c (by decide)) (by first | assumption | exact Is32.c (by decide)) (by first | assumption | exact Is32.c (by decide))).mono ?_; rintro e w' ⟨bb, hbb, rfl, q, rfl⟩; cases bb))
  all_goals go_ret
  all_goals (refine ⟨_, ?_, rfl, (by first | exact (bel1 _ _ ) | exact beld (bel1 _ _ ) _)⟩; simp [*])

set_option maxHeartbeats 1000000 in
theorem shareAt_o {A0 A1 A2 A3 : Option Nat} {a0 a1 a2 a3 : Nat} {T : Option Nat} {t : Nat} (w : World)  (ha0 : Is32 A0 a0) (ha1 : Is32 A1 a1) (ha2 : Is32 A2 a2) (ha3 : Is32 A3 a3) (ht : Is32 T t) :
    Calls Try.prog 63 #[.agg #[.float .f32 a0, .float .f32 a1, .float .f32 a2, .float .f32 a3], .float .f32 t] w (NumB ((fop .quo .f32 (fop .sub .f32 T A0) A1)) w) := by
  go_enter Try.func63, Try.ntmps63
  go_wp2_with (first | ((with_reducible refine wpList_bin ?_); refine wpList_f32 rfl _ _ _ _ _ rfl rfl rfl (by decide) (by first | assumption | exact Is32.c (by decide)) (by first | assumption | exact Is32.c (by decide)) ?_; intro z n hz) | ((with_reducible refine wpList_bin ?_); refine wpList_c32 rfl _ _ _ _ _ rfl rfl rfl (by decide) (by first | assumption | exact Is32.c (by decide)) (by first | assumption | exact Is32.c (by decide)) ?_; intro bb hbb; cases bb))
  all_goals go_ret
  all_goals (refine ⟨_, rfl, ?_, (by first | exact (bel1 _ _ ) | exact beld (bel1 _ _ ) _)⟩; first | assumption | (simp [*]; done) | (simp [*]; exact Is32.c (by decide)) | (simp [*]; assumption))

set_option maxHeartbeats 4000000 in
theorem rainAt_i {A0 A1 A2 A3 : Option Nat} {a0 a1 a2 a3 : Nat} {T : Option Nat} {t : Nat} (w : World)  (ha0 : Is32 A0 a0) (ha1 : Is32 A1 a1) (ha2 : Is32 A2 a2) (ha3 : Is32 A3 a3) (ht : Is32 T t) :
    Calls Try.prog 28 #[.agg #[.float .f32 a0, .float .f32 a1, .float .f32 a2, .float .f32 a3], .float .f32 t] w (OnlyB (rainO A0 A1 A2 A3 T) w) := by
  go_enter Try.func28, Try.ntmps28
  go_wp2_with (first | ((with_reducible refine wpList_bin ?_); refine wpList_f32 rfl _ _ _ _ _ rfl rfl rfl (by decide) (by first | assumption | exact Is32.c (by decide)) (by first | assumption | exact Is32.c (by decide)) ?_; intro z n hz) | ((with_reducible refine wpList_bin ?_); refine wpList_c32 rfl _ _ _ _ _ rfl rfl rfl (by decide) (by first | assumption | exact Is32.c (by decide)) (by first | assumption | exact Is32.c (by decide)) ?_; intro bb hbb; cases bb) | (go_at_call 21; refine (validStorm_i _ (by first | assumption | exact Is32.c (by decide)) (by first | assumption | exact Is32.c (by decide)) (by first | assumption | exact Is32.c (by decide)) (by first | assumption | exact Is32.c (by decide))).mono ?_; rintro e w1 ⟨bb, hbb, rfl, hb⟩; have hb1 : Below w.heap.size w w1 := (by first | exact (bel1 _ _ ).trans (hb.mono (by first | (simp; done) | (simp; omega) | omega)) | exact (beld (bel1 _ _ ) _).trans (hb.mono (by first | (simp; done) | (simp; omega) | omega))); have hs1 : w.heap.size + 1 ≤ w1.heap.size := (by have := hb.size; (try simp at this); omega); have bxa1 : Bx w1 (w.heap.size) [.float .f32 a0, .float .f32 a1, .float .f32 a2, .float .f32 a3] := (by first | exact Bx.below (Bx.new w [.float .f32 a0, .float .f32 a1, .float .f32 a2, .float .f32 a3] _) hb (by first | (simp; done) | (simp; omega) | omega) | exact Bx.below (Bx.drewN (Bx.new w [.float .f32 a0, .float .f32 a1, .float .f32 a2, .float .f32 a3] _) _) hb (by first | (simp; done) | (simp; omega) | omega)); have ca0 := bxa1.c 0 rfl; have ca1 := bxa1.c 1 rfl; have ca2 := bxa1.c 2 rfl; have ca3 := bxa1.c 3 rfl; have Bxa1 := Lib.hid bxa1; clear bxa1; have Hb1 := Lib.hid hb1; clear hb hb1; cases bb) | (go_at_call 62; refine (isFin_o _ (by first | assumption | exact Is32.c (by decide))).mono ?_; rintro e w' ⟨bb, hbb, rfl, rfl⟩; cases bb) | (go_at_call 63; refine (shareAt_o _ (by first | assumption | exact Is32.c (by decide)) (by first | assumption | exact Is32.c (by decide)) (by first | assumption | exact Is32.c (by decide)) (by first | assumption | exact Is32.c (by decide)) (by first | assumption | exact Is32.c (by decide))).mono ?_; rintro e w2 ⟨z, rfl, hz, hb⟩; have hb2 : Below w.heap.size w w2 := (by first | exact Hb1.out.trans (hb.mono (by first | (simp; done) | (simp; omega) | omega)) | exact (beld Hb1.out _).trans (hb.mono (by first | (simp; done) | (simp; omega) | omega))); have hs2 : w.heap.size + 1 ≤ w2.heap.size := (by have := hb.size; (try simp at this); omega); have bxa2 : Bx w2 (w.heap.size) [.float .f32 a0, .float .f32 a1, .float .f32 a2, .float .f32 a3] := (by first | exact Bx.below Bxa1.out hb (by first | (simp; done) | (simp; omega) | omega) | exact Bx.below (Bx.drewN Bxa1.out _) hb (by first | (simp; done) | (simp; omega) | omega)); have ca0 := bxa2.c 0 rfl; have ca1 := bxa2.c 1 rfl; have ca2 := bxa2.c 2 rfl; have ca3 := bxa2.c 3 rfl; have Bxa2 := Lib.hid bxa2; clear bxa2; have Hb2 := Lib.hid hb2; clear hb hb2) | (go_at_call 64; refine (finiteOnly_o _ (by first | assumption | exact Is32.c (by decide))).mono ?_; rintro e w' ⟨z, bb, rfl, hbb, hz, rfl⟩; cases bb))
  all_goals go_ret2
  all_goals (refine ⟨_, _, rfl, ?_, ?_, (by first | exact (bel1 _ _ ) | exact beld (bel1 _ _ ) _ | exact Hb2.out | exact beld Hb2.out _ | exact Hb1.out | exact beld Hb1.out _)⟩; (simp [rainO, rainU, onlyO_zero, *]); first | (simp [rainO, rainU, onlyO_zero, *]; done) | (simp [rainO, rainU, onlyO_zero, *]; exact Is32.c (by decide)) | (simp [rainO, rainU, onlyO_zero, *]; assumption))

set_option maxHeartbeats 4000000 in
theorem l03Rain_o {A0 A1 A2 A3 : Option Nat} {a0 a1 a2 a3 : Nat} (ba : Nat) {T : Option Nat} {t : Nat} (w : World) (hBa : Bx w ba [.float .f32 a0, .float .f32 a1, .float .f32 a2, .float .f32 a3]) (ha0 : Is32 A0 a0) (ha1 : Is32 A1 a1) (ha2 : Is32 A2 a2) (ha3 : Is32 A3 a3) (ht : Is32 T t) :
    Calls Try.prog 61 #[.pointer (some ⟨ba, 0, none⟩), .float .f32 t] w (NumQ (rainU A1 A2 A3 (fop .quo .f32 (fop .sub .f32 T A0) A1)) w) := by
  have ca0 := hBa.c 0 rfl
  have ca1 := hBa.c 1 rfl
  have ca2 := hBa.c 2 rfl
  have ca3 := hBa.c 3 rfl
  go_enter Try.func61, Try.ntmps61
  go_wp2_with (first | ((with_reducible refine wpList_bin ?_); refine wpList_f32 rfl _ _ _ _ _ rfl rfl rfl (by decide) (by first | assumption | exact Is32.c (by decide)) (by first | assumption | exact Is32.c (by decide)) ?_; intro z n hz) | ((with_reducible refine wpList_bin ?_); refine wpList_c32 rfl _ _ _ _ _ rfl rfl rfl (by decide) (by first | assumption | exact Is32.c (by decide)) (by first | assumption | exact Is32.c (by decide)) ?_; intro bb hbb; cases bb))
  any_goals apply wp_region_V (id := 1) (vmap [(5, V32k _), (10, V32k _)]) (by kernel_rfl) (by kernel_rfl)
  any_goals (refine wpV_go 1 rfl (fun K hK => ?_); go_simp; refine hK.out _ ?_; clear hK K)
  any_goals (refine wpV_go 2 rfl (fun K hK => ?_); go_simp; refine hK.out _ ?_; clear hK K)
  any_goals (refine wpV_go 3 rfl (fun K hK => ?_); go_simp; refine hK.out _ ?_; clear hK K)
  any_goals (refine wpV_go 4 rfl (fun K hK => ?_); go_simp; refine hK.out _ ?_; clear hK K)
  any_goals (refine wpV_go 5 rfl (fun K hK => ?_); go_simp; refine hK.out _ ?_; clear hK K)
  any_goals (first | (refine wpV_f32 6 rfl (drewC _) _ _ _ _ _ rfl rfl rfl rfl (by decide) (by first | assumption | exact Is32.c (by decide)) (by first | assumption | exact Is32.c (by decide)) rfl ?_; intro z hz) | (refine wpV_go 6 rfl (fun K hK => ?_); go_simp; refine hK.out _ ?_; clear hK K))
  any_goals (refine wpV_go 7 rfl (fun K hK => ?_); go_simp; refine hK.out _ ?_; clear hK K)
  any_goals (refine wpV_go 8 rfl (fun K hK => ?_); go_simp; refine hK.out _ ?_; clear hK K)
  any_goals (refine wpV_go 9 rfl (fun K hK => ?_); go_simp; refine hK.out _ ?_; clear hK K)
  any_goals (refine wpV_go 10 rfl (fun K hK => ?_); go_simp; refine hK.out _ ?_; clear hK K)
  any_goals (first | (refine wpV_f32 11 rfl (drewC _) _ _ _ _ _ rfl rfl rfl rfl (by decide) (by first | assumption | exact Is32.c (by decide)) (by first | assumption | exact Is32.c (by decide)) rfl ?_; intro z hz) | (refine wpV_go 11 rfl (fun K hK => ?_); go_simp; refine hK.out _ ?_; clear hK K))
  any_goals (refine wpV_go 12 rfl (fun K hK => ?_); go_simp; refine hK.out _ ?_; clear hK K)
  any_goals (refine wpV_nil ?_; intro q)
  any_goals go_wp2_with (first | ((with_reducible refine wpList_bin ?_); refine wpList_f32 rfl _ _ _ _ _ rfl rfl rfl (by decide) (by first | assumption | exact Is32.c (by decide)) (by first | assumption | exact Is32.c (by decide)) ?_; intro z n hz) | ((with_reducible refine wpList_bin ?_); refine wpList_c32 rfl _ _ _ _ _ rfl rfl rfl (by decide) (by first | assumption | exact Is32.c (by decide)) (by first | assumption | exact Is32.c (by decide)) ?_; intro bb hbb; cases bb))
  any_goals apply wp_region_V (id := 4) (vmap [(4, V32k _), (9, V32k _)]) (by kernel_rfl) (by kernel_rfl)
  any_goals (refine wpV_go 1 rfl (fun K hK => ?_); go_simp; refine hK.out _ ?_; clear hK K)
  any_goals (refine wpV_go 2 rfl (fun K hK => ?_); go_simp; refine hK.out _ ?_; clear hK K)
  any_goals (refine wpV_go 3 rfl (fun K hK => ?_); go_simp; refine hK.out _ ?_; clear hK K)
  any_goals (refine wpV_go 4 rfl (fun K hK => ?_); go_simp; refine hK.out _ ?_; clear hK K)
  any_goals (first | (refine wpV_f32 5 rfl (drewC _) _ _ _ _ _ rfl rfl rfl rfl (by decide) (by first | assumption | exact Is32.c (by decide)) (by first | assumption | exact Is32.c (by decide)) rfl ?_; intro z hz) | (refine wpV_go 5 rfl (fun K hK => ?_); go_simp; refine hK.out _ ?_; clear hK K))
  any_goals (refine wpV_go 6 rfl (fun K hK => ?_); go_simp; refine hK.out _ ?_; clear hK K)
  any_goals (refine wpV_go 7 rfl (fun K hK => ?_); go_simp; refine hK.out _ ?_; clear hK K)
  any_goals (refine wpV_go 8 rfl (fun K hK => ?_); go_simp; refine hK.out _ ?_; clear hK K)
  any_goals (refine wpV_go 9 rfl (fun K hK => ?_); go_simp; refine hK.out _ ?_; clear hK K)
  any_goals (first | (refine wpV_f32 10 rfl (drewC _) _ _ _ _ _ rfl rfl rfl rfl (by decide) (by first | assumption | exact Is32.c (by decide)) (by first | assumption | exact Is32.c (by decide)) rfl ?_; intro z hz) | (refine wpV_go 10 rfl (fun K hK => ?_); go_simp; refine hK.out _ ?_; clear hK K))
  any_goals (refine wpV_go 11 rfl (fun K hK => ?_); go_simp; refine hK.out _ ?_; clear hK K)
  any_goals (refine wpV_nil ?_; intro q)
  any_goals go_wp2_with (first | ((with_reducible refine wpList_bin ?_); refine wpList_f32 rfl _ _ _ _ _ rfl rfl rfl (by decide) (by first | assumption | exact Is32.c (by decide)) (by first | assumption | exact Is32.c (by decide)) ?_; intro z n hz) | ((with_reducible refine wpList_bin ?_); refine wpList_c32 rfl _ _ _ _ _ rfl rfl rfl (by decide) (by first | assumption | exact Is32.c (by decide)) (by first | assumption | exact Is32.c (by decide)) ?_; intro bb hbb; cases bb))
  all_goals go_ret
  all_goals (refine ⟨_, rfl, ?_, _, rfl⟩; first | assumption | (simp [rainU, *]; done) | (simp [rainU, *]; exact Is32.c (by decide)) | (simp [rainU, *]; assumption))

set_option maxHeartbeats 4000000 in
theorem rainAt_s {A0 A1 A2 A3 : Option Nat} {a0 a1 a2 a3 : Nat} {T : Option Nat} {t : Nat} (w : World)  (ha0 : Is32 A0 a0) (ha1 : Is32 A1 a1) (ha2 : Is32 A2 a2) (ha3 : Is32 A3 a3) (ht : Is32 T t) :
    Calls Try.prog 27 #[.agg #[.float .f32 a0, .float .f32 a1, .float .f32 a2, .float .f32 a3], .float .f32 t] w (OnlyB (rainO A0 A1 A2 A3 T) w) := by
  go_enter Try.func27, Try.ntmps27
  go_wp2_with (first | ((with_reducible refine wpList_bin ?_); refine wpList_f32 rfl _ _ _ _ _ rfl rfl rfl (by decide) (by first | assumption | exact Is32.c (by decide)) (by first | assumption | exact Is32.c (by decide)) ?_; intro z n hz) | ((with_reducible refine wpList_bin ?_); refine wpList_c32 rfl _ _ _ _ _ rfl rfl rfl (by decide) (by first | assumption | exact Is32.c (by decide)) (by first | assumption | exact Is32.c (by decide)) ?_; intro bb hbb; cases bb) | (go_at_call 52; refine (l03Storm_o _ _ (by first | exact Bx.new _ [_, _, _, _] _ | exact Bx.drewN (Bx.new _ [_, _, _, _] _) _ | assumption) (by first | assumption | exact Is32.c (by decide)) (by first | assumption | exact Is32.c (by decide)) (by first | assumption | exact Is32.c (by decide)) (by first | assumption | exact Is32.c (by decide))).mono ?_; rintro e w' ⟨bb, hbb, rfl, q, rfl⟩; cases bb) | (go_at_call 59; refine (l01Fin_o _ (by first | assumption | exact Is32.c (by decide))).mono ?_; rintro e w' ⟨bb, hbb, rfl, q, rfl⟩; cases bb) | (go_at_call 61; refine (l03Rain_o _ _ (by first | exact Bx.new _ [_, _, _, _] _ | exact Bx.drewN (Bx.new _ [_, _, _, _] _) _ | assumption) (by first | assumption | exact Is32.c (by decide)) (by first | assumption | exact Is32.c (by decide)) (by first | assumption | exact Is32.c (by decide)) (by first | assumption | exact Is32.c (by decide)) (by first | assumption | exact Is32.c (by decide))).mono ?_; rintro e w' ⟨z, rfl, hz, q, rfl⟩) | (go_at_call 60; refine (l02Number_o _ (by first | assumption | exact Is32.c (by decide))).mono ?_; rintro e w' ⟨z, bb, rfl, hbb, hz, q, rfl⟩; cases bb))
  all_goals go_ret2
  all_goals (refine ⟨_, _, rfl, ?_, ?_, (by first | exact (bel1 _ _ ) | exact beld (bel1 _ _ ) _)⟩; (simp [rainO, *]); first | (simp [rainO, *]; done) | (simp [rainO, *]; exact Is32.c (by decide)) | (simp [rainO, *]; assumption))

end Go.Proofs.Ytfdijbghikeddaa
