/- A step upwards: the program and its model alike. -/
import Derived.Test.YtfdcfalkidcdnaaSecO
import Derived.Test.YtfdcfalkidcdnaaSecM
namespace Go.Proofs.Ytfdcfalkidcdnaa
open Go.RowKit
set_option linter.unusedVariables false
set_option linter.unusedSimpArgs false
set_option maxRecDepth 100000
attribute [local irreducible] wpV wpList Code.wp

theorem Bx.newAt (w : World) (b : Nat) (vs : List Value) (t : TypeId) (h : w.heap.size = b) : Bx (w.alloc (.cells vs.toArray t)) b vs := by subst h; exact Bx.new w vs t
/-- T: how steep; R: the rise; H: the head. -/
def backH (A0 A1 A2 A3 F L T R H : Option Nat) (X : Option Nat) : Bool × Bool := (fcmp .gtr .f32 (fop .add .f32 (headS A0 A1 A2 A3 X F).1 R) (fop .add .f32 H (fop .mul .f32 L (fop .quo .f32 (fop .add .f32 T (steepO A0 A1 A2 A3 X F).1) (some 1073741824)))), (headS A0 A1 A2 A3 X F).2 && (steepO A0 A1 A2 A3 X F).2)
def backR (A0 A1 A2 A3 D F L : Option Nat) : Option Nat × Option Nat × Bool := halveO (backH A0 A1 A2 A3 F L (steepO A0 A1 A2 A3 D F).1 (fop .mul .f32 A2 L) (headS A0 A1 A2 A3 D F).1) 40 (critO A0 A1 A2 A3 F).1 (some 1148846080)
def backO (A0 A1 A2 A3 D F L : Option Nat) : Option Nat × Bool := if (critO A0 A1 A2 A3 F).2 && (headS A0 A1 A2 A3 D F).2 && (steepO A0 A1 A2 A3 D F).2 && posO L && fcmp .gtr .f32 D (critO A0 A1 A2 A3 F).1 then ((backR A0 A1 A2 A3 D F L).2.1, (backR A0 A1 A2 A3 D F L).2.2) else (some 0, false)

set_option maxHeartbeats 8000000 in
theorem back_j {X : Option Nat} {x : Nat} {A0 A1 A2 A3 : Option Nat} {a0 a1 a2 a3 : Nat} (ba : Nat) {F0 : Option Nat} {f0 : Nat} (bf : Nat) {L0 : Option Nat} {l0 : Nat} (bl : Nat) {T0 : Option Nat} {t0 : Nat} (bt : Nat) {R0 : Option Nat} {r0 : Nat} (br : Nat) {H0 : Option Nat} {h0 : Nat} (bh : Nat) (w : World) (hBa : Bx w ba [.float .f32 a0, .float .f32 a1, .float .f32 a2, .float .f32 a3]) (hBf : Bx w bf [.float .f32 f0]) (hBl : Bx w bl [.float .f32 l0]) (hBt : Bx w bt [.float .f32 t0]) (hBr : Bx w br [.float .f32 r0]) (hBh : Bx w bh [.float .f32 h0]) (hx : Is32 X x) (ha0 : Is32 A0 a0) (ha1 : Is32 A1 a1) (ha2 : Is32 A2 a2) (ha3 : Is32 A3 a3) (hf0 : Is32 F0 f0) (hl0 : Is32 L0 l0) (ht0 : Is32 T0 t0) (hr0 : Is32 R0 r0) (hh0 : Is32 H0 h0) :
    Calls Try.prog 73 #[.float .f32 x, .pointer (some ⟨ba, 0, none⟩), .pointer (some ⟨bf, 0, none⟩), .pointer (some ⟨bl, 0, none⟩), .pointer (some ⟨bt, 0, none⟩), .pointer (some ⟨br, 0, none⟩), .pointer (some ⟨bh, 0, none⟩)] w (TwoB (backH A0 A1 A2 A3 F0 L0 T0 R0 H0 X) w) := by
  have ca0 := hBa.c 0 rfl
  have ca1 := hBa.c 1 rfl
  have ca2 := hBa.c 2 rfl
  have ca3 := hBa.c 3 rfl
  have cf0 := hBf.c 0 rfl
  have cl0 := hBl.c 0 rfl
  have ct0 := hBt.c 0 rfl
  have cr0 := hBr.c 0 rfl
  have ch0 := hBh.c 0 rfl
  go_enter Try.func73, Try.ntmps73
  go_wp2_with (first | ((with_reducible refine wpList_bin ?_); refine wpList_f32 rfl _ _ _ _ _ rfl rfl rfl (by decide) (by first | assumption | exact Is32.c (by decide)) (by first | assumption | exact Is32.c (by decide)) ?_; intro z n hz) | ((with_reducible refine wpList_bin ?_); refine wpList_c32 rfl _ _ _ _ _ rfl rfl rfl (by decide) (by first | assumption | exact Is32.c (by decide)) (by first | assumption | exact Is32.c (by decide)) ?_; intro bb hbb; cases bb) | (go_at_call 43; refine (headAt_i _ (by first | assumption | exact Is32.c (by decide)) (by first | assumption | exact Is32.c (by decide)) (by first | assumption | exact Is32.c (by decide)) (by first | assumption | exact Is32.c (by decide)) (by first | assumption | exact Is32.c (by decide)) (by first | assumption | exact Is32.c (by decide))).mono ?_; rintro e w1 ⟨z, bb, rfl, hbb, hz, hb⟩; have hb1 : Below w.heap.size w w1 := (by first | exact (Below.refl _ _).trans (hb.mono (by first | (simp; done) | (simp; omega) | omega)) | exact (beld (Below.refl _ _) _).trans (hb.mono (by first | (simp; done) | (simp; omega) | omega))); have hs1 : w.heap.size + 0 ≤ w1.heap.size := (by have := hb.size; (try simp at this); omega); have bxa1 : Bx w1 ba [.float .f32 a0, .float .f32 a1, .float .f32 a2, .float .f32 a3] := (by first | exact Bx.below hBa hb (by first | exact hBa.1 | (have := hBa.1; simp; omega) | (have := hBa.1; omega)) | exact Bx.below (Bx.drewN hBa _) hb (by first | exact hBa.1 | (have := hBa.1; simp; omega) | (have := hBa.1; omega))); have bxf1 : Bx w1 bf [.float .f32 f0] := (by first | exact Bx.below hBf hb (by first | exact hBf.1 | (have := hBf.1; simp; omega) | (have := hBf.1; omega)) | exact Bx.below (Bx.drewN hBf _) hb (by first | exact hBf.1 | (have := hBf.1; simp; omega) | (have := hBf.1; omega))); have bxl1 : Bx w1 bl [.float .f32 l0] := (by first | exact Bx.below hBl hb (by first | exact hBl.1 | (have := hBl.1; simp; omega) | (have := hBl.1; omega)) | exact Bx.below (Bx.drewN hBl _) hb (by first | exact hBl.1 | (have := hBl.1; simp; omega) | (have := hBl.1; omega))); have bxt1 : Bx w1 bt [.float .f32 t0] := (by first | exact Bx.below hBt hb (by first | exact hBt.1 | (have := hBt.1; simp; omega) | (have := hBt.1; omega)) | exact Bx.below (Bx.drewN hBt _) hb (by first | exact hBt.1 | (have := hBt.1; simp; omega) | (have := hBt.1; omega))); have bxr1 : Bx w1 br [.float .f32 r0] := (by first | exact Bx.below hBr hb (by first | exact hBr.1 | (have := hBr.1; simp; omega) | (have := hBr.1; omega)) | exact Bx.below (Bx.drewN hBr _) hb (by first | exact hBr.1 | (have := hBr.1; simp; omega) | (have := hBr.1; omega))); have bxh1 : Bx w1 bh [.float .f32 h0] := (by first | exact Bx.below hBh hb (by first | exact hBh.1 | (have := hBh.1; simp; omega) | (have := hBh.1; omega)) | exact Bx.below (Bx.drewN hBh _) hb (by first | exact hBh.1 | (have := hBh.1; simp; omega) | (have := hBh.1; omega))); have ca0_1 := bxa1.c 0 rfl; have ca1_1 := bxa1.c 1 rfl; have ca2_1 := bxa1.c 2 rfl; have ca3_1 := bxa1.c 3 rfl; have Bxa1 := Lib.hid bxa1; clear bxa1; have cf0_1 := bxf1.c 0 rfl; have Bxf1 := Lib.hid bxf1; clear bxf1; have cl0_1 := bxl1.c 0 rfl; have Bxl1 := Lib.hid bxl1; clear bxl1; have ct0_1 := bxt1.c 0 rfl; have Bxt1 := Lib.hid bxt1; clear bxt1; have cr0_1 := bxr1.c 0 rfl; have Bxr1 := Lib.hid bxr1; clear bxr1; have ch0_1 := bxh1.c 0 rfl; have Bxh1 := Lib.hid bxh1; clear bxh1; have Hb1 := Lib.hid hb1; clear hb hb1; cases bb) | (go_at_call 35; refine (steepnessAt_i _ (by first | assumption | exact Is32.c (by decide)) (by first | assumption | exact Is32.c (by decide)) (by first | assumption | exact Is32.c (by decide)) (by first | assumption | exact Is32.c (by decide)) (by first | assumption | exact Is32.c (by decide)) (by first | assumption | exact Is32.c (by decide))).mono ?_; rintro e w2 ⟨z, bb, rfl, hbb, hz, hb⟩; have hb2 : Below w.heap.size w w2 := (by first | exact Hb1.out.trans (hb.mono (by first | (simp; done) | (simp; omega) | omega)) | exact (beld Hb1.out _).trans (hb.mono (by first | (simp; done) | (simp; omega) | omega))); have hs2 : w.heap.size + 0 ≤ w2.heap.size := (by have := hb.size; (try simp at this); omega); have bxa2 : Bx w2 ba [.float .f32 a0, .float .f32 a1, .float .f32 a2, .float .f32 a3] := (by first | exact Bx.below Bxa1.out hb (by first | exact hBa.1 | (have := hBa.1; simp; omega) | (have := hBa.1; omega)) | exact Bx.below (Bx.drewN Bxa1.out _) hb (by first | exact hBa.1 | (have := hBa.1; simp; omega) | (have := hBa.1; omega))); have bxf2 : Bx w2 bf [.float .f32 f0] := (by first | exact Bx.below Bxf1.out hb (by first | exact hBf.1 | (have := hBf.1; simp; omega) | (have := hBf.1; omega)) | exact Bx.below (Bx.drewN Bxf1.out _) hb (by first | exact hBf.1 | (have := hBf.1; simp; omega) | (have := hBf.1; omega))); have bxl2 : Bx w2 bl [.float .f32 l0] := (by first | exact Bx.below Bxl1.out hb (by first | exact hBl.1 | (have := hBl.1; simp; omega) | (have := hBl.1; omega)) | exact Bx.below (Bx.drewN Bxl1.out _) hb (by first | exact hBl.1 | (have := hBl.1; simp; omega) | (have := hBl.1; omega))); have bxt2 : Bx w2 bt [.float .f32 t0] := (by first | exact Bx.below Bxt1.out hb (by first | exact hBt.1 | (have := hBt.1; simp; omega) | (have := hBt.1; omega)) | exact Bx.below (Bx.drewN Bxt1.out _) hb (by first | exact hBt.1 | (have := hBt.1; simp; omega) | (have := hBt.1; omega))); have bxr2 : Bx w2 br [.float .f32 r0] := (by first | exact Bx.below Bxr1.out hb (by first | exact hBr.1 | (have := hBr.1; simp; omega) | (have := hBr.1; omega)) | exact Bx.below (Bx.drewN Bxr1.out _) hb (by first | exact hBr.1 | (have := hBr.1; simp; omega) | (have := hBr.1; omega))); have bxh2 : Bx w2 bh [.float .f32 h0] := (by first | exact Bx.below Bxh1.out hb (by first | exact hBh.1 | (have := hBh.1; simp; omega) | (have := hBh.1; omega)) | exact Bx.below (Bx.drewN Bxh1.out _) hb (by first | exact hBh.1 | (have := hBh.1; simp; omega) | (have := hBh.1; omega))); have ca0_2 := bxa2.c 0 rfl; have ca1_2 := bxa2.c 1 rfl; have ca2_2 := bxa2.c 2 rfl; have ca3_2 := bxa2.c 3 rfl; have Bxa2 := Lib.hid bxa2; clear bxa2; have cf0_2 := bxf2.c 0 rfl; have Bxf2 := Lib.hid bxf2; clear bxf2; have cl0_2 := bxl2.c 0 rfl; have Bxl2 := Lib.hid bxl2; clear bxl2; have ct0_2 := bxt2.c 0 rfl; have Bxt2 := Lib.hid bxt2; clear bxt2; have cr0_2 := bxr2.c 0 rfl; have Bxr2 := Lib.hid bxr2; clear bxr2; have ch0_2 := bxh2.c 0 rfl; have Bxh2 := Lib.hid bxh2; clear bxh2; have Hb2 := Lib.hid hb2; clear hb hb2; cases bb) | (go_at_call 74; refine (half_o _ (by first | assumption | exact Is32.c (by decide))).mono ?_; rintro e w' ⟨z, rfl, hz, q, rfl⟩))
  any_goals apply wp_region_V (id := 3) (vmap [(3, V32k _), (4, V32k _), (5, V32k _)]) (by kernel_rfl) (by kernel_rfl)
  any_goals (refine wpV_go 1 rfl (fun K hK => ?_); go_simp; refine hK.out _ ?_; clear hK K)
  any_goals (refine wpV_go 2 rfl (fun K hK => ?_); go_simp; refine hK.out _ ?_; clear hK K)
  any_goals (refine wpV_go 3 rfl (fun K hK => ?_); go_simp; refine hK.out _ ?_; clear hK K)
  any_goals (first | (refine wpV_f32 4 rfl (drewC _) _ _ _ _ _ rfl rfl rfl rfl (by decide) (by first | assumption | exact Is32.c (by decide)) (by first | assumption | exact Is32.c (by decide)) rfl ?_; intro z hz) | (refine wpV_go 4 rfl (fun K hK => ?_); go_simp; refine hK.out _ ?_; clear hK K))
  any_goals (first | (refine wpV_num1 5 rfl (u := .float .f32 _) (drewC _) rfl (enters_of Try.func74 (by kernel_rfl) rfl) rfl rfl (fun _ => (half_o _ (by first | assumption | exact Is32.c (by decide)))) (Is32.nef (by decide) _ _) rfl ?_; intro z hz) | (refine wpV_go 5 rfl (fun K hK => ?_); go_simp; refine hK.out _ ?_; clear hK K))
  any_goals (first | (refine wpV_f32 6 rfl (drewC _) _ _ _ _ _ rfl rfl rfl rfl (by decide) (by first | assumption | exact Is32.c (by decide)) (by first | assumption | exact Is32.c (by decide)) rfl ?_; intro z hz) | (refine wpV_go 6 rfl (fun K hK => ?_); go_simp; refine hK.out _ ?_; clear hK K))
  any_goals (refine wpV_go 7 rfl (fun K hK => ?_); go_simp; refine hK.out _ ?_; clear hK K)
  any_goals (refine wpV_nil ?_; intro q)
  any_goals go_wp2_with (first | ((with_reducible refine wpList_bin ?_); refine wpList_f32 rfl _ _ _ _ _ rfl rfl rfl (by decide) (by first | assumption | exact Is32.c (by decide)) (by first | assumption | exact Is32.c (by decide)) ?_; intro z n hz) | ((with_reducible refine wpList_bin ?_); refine wpList_c32 rfl _ _ _ _ _ rfl rfl rfl (by decide) (by first | assumption | exact Is32.c (by decide)) (by first | assumption | exact Is32.c (by decide)) ?_; intro bb hbb; cases bb) | (go_at_call 43; refine (headAt_i _ (by first | assumption | exact Is32.c (by decide)) (by first | assumption | exact Is32.c (by decide)) (by first | assumption | exact Is32.c (by decide)) (by first | assumption | exact Is32.c (by decide)) (by first | assumption | exact Is32.c (by decide)) (by first | assumption | exact Is32.c (by decide))).mono ?_; rintro e w1 ⟨z, bb, rfl, hbb, hz, hb⟩; have hb1 : Below w.heap.size w w1 := (by first | exact (Below.refl _ _).trans (hb.mono (by first | (simp; done) | (simp; omega) | omega)) | exact (beld (Below.refl _ _) _).trans (hb.mono (by first | (simp; done) | (simp; omega) | omega))); have hs1 : w.heap.size + 0 ≤ w1.heap.size := (by have := hb.size; (try simp at this); omega); have bxa1 : Bx w1 ba [.float .f32 a0, .float .f32 a1, .float .f32 a2, .float .f32 a3] := (by first | exact Bx.below hBa hb (by first | exact hBa.1 | (have := hBa.1; simp; omega) | (have := hBa.1; omega)) | exact Bx.below (Bx.drewN hBa _) hb (by first | exact hBa.1 | (have := hBa.1; simp; omega) | (have := hBa.1; omega))); have bxf1 : Bx w1 bf [.float .f32 f0] := (by first | exact Bx.below hBf hb (by first | exact hBf.1 | (have := hBf.1; simp; omega) | (have := hBf.1; omega)) | exact Bx.below (Bx.drewN hBf _) hb (by first | exact hBf.1 | (have := hBf.1; simp; omega) | (have := hBf.1; omega))); have bxl1 : Bx w1 bl [.float .f32 l0] := (by first | exact Bx.below hBl hb (by first | exact hBl.1 | (have := hBl.1; simp; omega) | (have := hBl.1; omega)) | exact Bx.below (Bx.drewN hBl _) hb (by first | exact hBl.1 | (have := hBl.1; simp; omega) | (have := hBl.1; omega))); have bxt1 : Bx w1 bt [.float .f32 t0] := (by first | exact Bx.below hBt hb (by first | exact hBt.1 | (have := hBt.1; simp; omega) | (have := hBt.1; omega)) | exact Bx.below (Bx.drewN hBt _) hb (by first | exact hBt.1 | (have := hBt.1; simp; omega) | (have := hBt.1; omega))); have bxr1 : Bx w1 br [.float .f32 r0] := (by first | exact Bx.below hBr hb (by first | exact hBr.1 | (have := hBr.1; simp; omega) | (have := hBr.1; omega)) | exact Bx.below (Bx.drewN hBr _) hb (by first | exact hBr.1 | (have := hBr.1; simp; omega) | (have := hBr.1; omega))); have bxh1 : Bx w1 bh [.float .f32 h0] := (by first | exact Bx.below hBh hb (by first | exact hBh.1 | (have := hBh.1; simp; omega) | (have := hBh.1; omega)) | exact Bx.below (Bx.drewN hBh _) hb (by first | exact hBh.1 | (have := hBh.1; simp; omega) | (have := hBh.1; omega))); have ca0_1 := bxa1.c 0 rfl; have ca1_1 := bxa1.c 1 rfl; have ca2_1 := bxa1.c 2 rfl; have ca3_1 := bxa1.c 3 rfl; have Bxa1 := Lib.hid bxa1; clear bxa1; have cf0_1 := bxf1.c 0 rfl; have Bxf1 := Lib.hid bxf1; clear bxf1; have cl0_1 := bxl1.c 0 rfl; have Bxl1 := Lib.hid bxl1; clear bxl1; have ct0_1 := bxt1.c 0 rfl; have Bxt1 := Lib.hid bxt1; clear bxt1; have cr0_1 := bxr1.c 0 rfl; have Bxr1 := Lib.hid bxr1; clear bxr1; have ch0_1 := bxh1.c 0 rfl; have Bxh1 := Lib.hid bxh1; clear bxh1; have Hb1 := Lib.hid hb1; clear hb hb1; cases bb) | (go_at_call 35; refine (steepnessAt_i _ (by first | assumption | exact Is32.c (by decide)) (by first | assumption | exact Is32.c (by decide)) (by first | assumption | exact Is32.c (by decide)) (by first | assumption | exact Is32.c (by decide)) (by first | assumption | exact Is32.c (by decide)) (by first | assumption | exact Is32.c (by decide))).mono ?_; rintro e w2 ⟨z, bb, rfl, hbb, hz, hb⟩; have hb2 : Below w.heap.size w w2 := (by first | exact Hb1.out.trans (hb.mono (by first | (simp; done) | (simp; omega) | omega)) | exact (beld Hb1.out _).trans (hb.mono (by first | (simp; done) | (simp; omega) | omega))); have hs2 : w.heap.size + 0 ≤ w2.heap.size := (by have := hb.size; (try simp at this); omega); have bxa2 : Bx w2 ba [.float .f32 a0, .float .f32 a1, .float .f32 a2, .float .f32 a3] := (by first | exact Bx.below Bxa1.out hb (by first | exact hBa.1 | (have := hBa.1; simp; omega) | (have := hBa.1; omega)) | exact Bx.below (Bx.drewN Bxa1.out _) hb (by first | exact hBa.1 | (have := hBa.1; simp; omega) | (have := hBa.1; omega))); have bxf2 : Bx w2 bf [.float .f32 f0] := (by first | exact Bx.below Bxf1.out hb (by first | exact hBf.1 | (have := hBf.1; simp; omega) | (have := hBf.1; omega)) | exact Bx.below (Bx.drewN Bxf1.out _) hb (by first | exact hBf.1 | (have := hBf.1; simp; omega) | (have := hBf.1; omega))); have bxl2 : Bx w2 bl [.float .f32 l0] := (by first | exact Bx.below Bxl1.out hb (by first | exact hBl.1 | (have := hBl.1; simp; omega) | (have := hBl.1; omega)) | exact Bx.below (Bx.drewN Bxl1.out _) hb (by first | exact hBl.1 | (have := hBl.1; simp; omega) | (have := hBl.1; omega))); have bxt2 : Bx w2 bt [.float .f32 t0] := (by first | exact Bx.below Bxt1.out hb (by first | exact hBt.1 | (have := hBt.1; simp; omega) | (have := hBt.1; omega)) | exact Bx.below (Bx.drewN Bxt1.out _) hb (by first | exact hBt.1 | (have := hBt.1; simp; omega) | (have := hBt.1; omega))); have bxr2 : Bx w2 br [.float .f32 r0] := (by first | exact Bx.below Bxr1.out hb (by first | exact hBr.1 | (have := hBr.1; simp; omega) | (have := hBr.1; omega)) | exact Bx.below (Bx.drewN Bxr1.out _) hb (by first | exact hBr.1 | (have := hBr.1; simp; omega) | (have := hBr.1; omega))); have bxh2 : Bx w2 bh [.float .f32 h0] := (by first | exact Bx.below Bxh1.out hb (by first | exact hBh.1 | (have := hBh.1; simp; omega) | (have := hBh.1; omega)) | exact Bx.below (Bx.drewN Bxh1.out _) hb (by first | exact hBh.1 | (have := hBh.1; simp; omega) | (have := hBh.1; omega))); have ca0_2 := bxa2.c 0 rfl; have ca1_2 := bxa2.c 1 rfl; have ca2_2 := bxa2.c 2 rfl; have ca3_2 := bxa2.c 3 rfl; have Bxa2 := Lib.hid bxa2; clear bxa2; have cf0_2 := bxf2.c 0 rfl; have Bxf2 := Lib.hid bxf2; clear bxf2; have cl0_2 := bxl2.c 0 rfl; have Bxl2 := Lib.hid bxl2; clear bxl2; have ct0_2 := bxt2.c 0 rfl; have Bxt2 := Lib.hid bxt2; clear bxt2; have cr0_2 := bxr2.c 0 rfl; have Bxr2 := Lib.hid bxr2; clear bxr2; have ch0_2 := bxh2.c 0 rfl; have Bxh2 := Lib.hid bxh2; clear bxh2; have Hb2 := Lib.hid hb2; clear hb hb2; cases bb) | (go_at_call 74; refine (half_o _ (by first | assumption | exact Is32.c (by decide))).mono ?_; rintro e w' ⟨z, rfl, hz, q, rfl⟩))
  all_goals go_ret2
  all_goals exact ⟨_, _, rfl, (by first | (unfold backH; dsimp only; assumption) | (simp [backH, *]; done)), (by first | (unfold backH; dsimp only; simp only [*, Bool.and_self, Bool.and_true, Bool.and_false, Bool.true_and, Bool.false_and]; done) | (simp [backH, *]; done)), (by first | exact (Below.refl _ _) | exact beld (Below.refl _ _) _ | exact beld (beld (Below.refl _ _) _) _ | exact Hb2.out | exact beld Hb2.out _ | exact beld (beld Hb2.out _) _ | exact Hb1.out | exact beld Hb1.out _ | exact beld (beld Hb1.out _) _ | exact Below.alloc (by first | exact (Below.refl _ _) | exact beld (Below.refl _ _) _) (by first | (simp; done) | (simp; omega) | omega) _ | exact beld (Below.alloc (by first | exact (Below.refl _ _) | exact beld (Below.refl _ _) _) (by first | (simp; done) | (simp; omega) | omega) _) _ | exact Below.alloc (by first | exact Hb2.out | exact beld Hb2.out _) (by first | (simp; done) | (simp; omega) | omega) _ | exact beld (Below.alloc (by first | exact Hb2.out | exact beld Hb2.out _) (by first | (simp; done) | (simp; omega) | omega) _) _ | exact Below.alloc (by first | exact Hb1.out | exact beld Hb1.out _) (by first | (simp; done) | (simp; omega) | omega) _ | exact beld (Below.alloc (by first | exact Hb1.out | exact beld Hb1.out _) (by first | (simp; done) | (simp; omega) | omega) _) _)⟩

theorem backJudge {A0 A1 A2 A3 F L T R H : Option Nat} {a0 a1 a2 a3 f l t r h : Nat} (ha0 : Is32 A0 a0) (ha1 : Is32 A1 a1) (ha2 : Is32 A2 a2) (ha3 : Is32 A3 a3) (hf : Is32 F f) (hl : Is32 L l) (ht : Is32 T t) (hr : Is32 R r) (hh : Is32 H h) (bs bf bl bt br bh : Nat) :
    Judges 73 #[.pointer (some ⟨bs, 0, none⟩), .pointer (some ⟨bf, 0, none⟩), .pointer (some ⟨bl, 0, none⟩), .pointer (some ⟨bt, 0, none⟩), .pointer (some ⟨br, 0, none⟩), .pointer (some ⟨bh, 0, none⟩)] (backH A0 A1 A2 A3 F L T R H) (fun W => Bx W bs [.float .f32 a0, .float .f32 a1, .float .f32 a2, .float .f32 a3] ∧ Bx W bf [.float .f32 f] ∧ Bx W bl [.float .f32 l] ∧ Bx W bt [.float .f32 t] ∧ Bx W br [.float .f32 r] ∧ Bx W bh [.float .f32 h]) where
  keep := fun W n h => h
  call := fun X x W hx ⟨i1, i2, i3, i4, i5, i6⟩ => (back_j bs bf bl bt br bh W i1 i2 i3 i4 i5 i6 hx ha0 ha1 ha2 ha3 hf hl ht hr hh).mono fun e W' ⟨b, c, h1, h2, h3, h4⟩ => ⟨b, c, h1, h3, fun _ => h2, h4, i1.below h4 i1.1, i2.below h4 i2.1, i3.below h4 i3.1, i4.below h4 i4.1, i5.below h4 i5.1, i6.below h4 i6.1⟩

set_option maxHeartbeats 8000000 in
theorem backStep_i {A0 A1 A2 A3 D F L : Option Nat} {a0 a1 a2 a3 d f l : Nat} (w : World) (ha0 : Is32 A0 a0) (ha1 : Is32 A1 a1) (ha2 : Is32 A2 a2) (ha3 : Is32 A3 a3) (hd : Is32 D d) (hf : Is32 F f) (hl : Is32 L l) :
    Calls Try.prog 28 #[.agg #[.float .f32 a0, .float .f32 a1, .float .f32 a2, .float .f32 a3], .float .f32 d, .float .f32 f, .float .f32 l] w (OnlyB (backO A0 A1 A2 A3 D F L) w) := by
  obtain ⟨R, hR⟩ : ∃ R, backO A0 A1 A2 A3 D F L = R := ⟨_, rfl⟩
  rw [hR]
  have HR := Lib.hid hR
  clear hR
  go_enter Try.func28, Try.ntmps28
  go_wp2_with fail
  refine (criticalDepth_i _ ha0 ha1 ha2 ha3 hf).mono ?_
  rintro e w1 ⟨z1, b1, rfl, hb1, hz1, hb⟩
  have hB1 : Below w.heap.size w w1 := Below.trans (bel3 _ _ _ _) (hb.mono (by first | (simp; done) | (simp; omega) | omega))
  have hs1 : w.heap.size + 3 ≤ w1.heap.size := (by have := hb.size; (try simp at this); omega)
  have xa : Bx w1 (w.heap.size) [.float .f32 a0, .float .f32 a1, .float .f32 a2, .float .f32 a3] := Bx.below (Bx.alloc (Bx.alloc (Bx.new w [_, _, _, _] _) _) _) hb (by first | (simp; done) | (simp; omega) | omega)
  have xf : Bx w1 (w.heap.size + 1) [.float .f32 f] := Bx.below (Bx.alloc (Bx.second w _ [_] _) _) hb (by first | (simp; done) | (simp; omega) | omega)
  have xl : Bx w1 (w.heap.size + 1 + 1) [.float .f32 l] := Bx.below (Bx.third w _ _ [_] _) hb (by first | (simp; done) | (simp; omega) | omega)
  have ca0 := xa.c 0 rfl
  have ca1 := xa.c 1 rfl
  have ca2 := xa.c 2 rfl
  have ca3 := xa.c 3 rfl
  have Xa1 := Lib.hid xa
  clear xa
  have cf0 := xf.c 0 rfl
  have Xf1 := Lib.hid xf
  clear xf
  have cl0 := xl.c 0 rfl
  have Xl1 := Lib.hid xl
  clear xl
  have HB1 := Lib.hid hB1
  clear hb hB1
  have Hb1 := Lib.hid hb1
  clear hb1
  go_wp2_with fail
  refine (headAt_i _ ha0 ha1 ha2 ha3 hd hf).mono ?_
  rintro e w2 ⟨z2, b2, rfl, hb2, hz2, hb⟩
  have hB2 : Below w.heap.size w w2 := Below.trans HB1.out (hb.mono (by first | (simp; done) | (simp; omega) | omega))
  have hs2 : w.heap.size + 3 ≤ w2.heap.size := (by have := hb.size; (try simp at this); omega)
  have hq2 : w1.heap.size ≤ w2.heap.size := hb.size
  have xa : Bx w2 (w.heap.size) [.float .f32 a0, .float .f32 a1, .float .f32 a2, .float .f32 a3] := Bx.below Xa1.out hb (by first | (simp; done) | (simp; omega) | omega)
  have xf : Bx w2 (w.heap.size + 1) [.float .f32 f] := Bx.below Xf1.out hb (by first | (simp; done) | (simp; omega) | omega)
  have xl : Bx w2 (w.heap.size + 1 + 1) [.float .f32 l] := Bx.below Xl1.out hb (by first | (simp; done) | (simp; omega) | omega)
  clear ca0 ca1 ca2 ca3 cf0 cl0
  have ca0 := xa.c 0 rfl
  have ca1 := xa.c 1 rfl
  have ca2 := xa.c 2 rfl
  have ca3 := xa.c 3 rfl
  have Xa2 := Lib.hid xa
  clear xa
  have cf0 := xf.c 0 rfl
  have Xf2 := Lib.hid xf
  clear xf
  have cl0 := xl.c 0 rfl
  have Xl2 := Lib.hid xl
  clear xl
  have HB2 := Lib.hid hB2
  clear hb hB2
  have qa0 := (Xa2.out.alloc (.cells #[.float .f32 z2] 22)).c 0 rfl
  have qa1 := (Xa2.out.alloc (.cells #[.float .f32 z2] 22)).c 1 rfl
  have qa2 := (Xa2.out.alloc (.cells #[.float .f32 z2] 22)).c 2 rfl
  have qa3 := (Xa2.out.alloc (.cells #[.float .f32 z2] 22)).c 3 rfl
  have qf0 := (Xf2.out.alloc (.cells #[.float .f32 z2] 22)).c 0 rfl
  have ql0 := (Xl2.out.alloc (.cells #[.float .f32 z2] 22)).c 0 rfl
  have Hb2 := Lib.hid hb2
  clear hb2
  go_wp2_with fail
  refine (steepnessAt_i _ ha0 ha1 ha2 ha3 hd hf).mono ?_
  rintro e w3 ⟨z3, b3, rfl, hb3, hz3, hb⟩
  have hB3 : Below w.heap.size w w3 := Below.trans (by repeat (first | with_reducible exact HB2.out | with_reducible refine beld ?_ _ | (with_reducible refine Below.alloc ?_ ?_ _; rotate_left; exact (by first | (simp; done) | (simp; omega) | omega)) | (with_reducible refine Below.setCell ?_ ?_ _; rotate_left; exact (by first | (simp; done) | (simp; omega) | omega)))) (hb.mono (by first | (simp; done) | (simp; omega) | omega))
  have hs3 : w.heap.size + 3 ≤ w3.heap.size := (by have := hb.size; (try simp at this); omega)
  have hq3 : w2.heap.size < w3.heap.size := (by have := hb.size; (try simp at this); omega)
  have xa : Bx w3 (w.heap.size) [.float .f32 a0, .float .f32 a1, .float .f32 a2, .float .f32 a3] := Bx.below (Bx.alloc Xa2.out _) hb (by first | (simp; done) | (simp; omega) | omega)
  have xf : Bx w3 (w.heap.size + 1) [.float .f32 f] := Bx.below (Bx.alloc Xf2.out _) hb (by first | (simp; done) | (simp; omega) | omega)
  have xl : Bx w3 (w.heap.size + 1 + 1) [.float .f32 l] := Bx.below (Bx.alloc Xl2.out _) hb (by first | (simp; done) | (simp; omega) | omega)
  have xh : Bx w3 (w2.heap.size) [.float .f32 z2] := Bx.below (Bx.new w2 [_] _) hb (by first | (simp; done) | (simp; omega) | omega)
  clear ca0 ca1 ca2 ca3 cf0 cl0 qa0 qa1 qa2 qa3 qf0 ql0
  have ca0 := xa.c 0 rfl
  have ca1 := xa.c 1 rfl
  have ca2 := xa.c 2 rfl
  have ca3 := xa.c 3 rfl
  have Xa3 := Lib.hid xa
  clear xa
  have cf0 := xf.c 0 rfl
  have Xf3 := Lib.hid xf
  clear xf
  have cl0 := xl.c 0 rfl
  have Xl3 := Lib.hid xl
  clear xl
  have ch0 := xh.c 0 rfl
  have Xh3 := Lib.hid xh
  clear xh
  have HB3 := Lib.hid hB3
  clear hb hB3
  have qa0 := (Xa3.out.alloc (.cells #[.float .f32 z3] 22)).c 0 rfl
  have qa1 := (Xa3.out.alloc (.cells #[.float .f32 z3] 22)).c 1 rfl
  have qa2 := (Xa3.out.alloc (.cells #[.float .f32 z3] 22)).c 2 rfl
  have qa3 := (Xa3.out.alloc (.cells #[.float .f32 z3] 22)).c 3 rfl
  have qf0 := (Xf3.out.alloc (.cells #[.float .f32 z3] 22)).c 0 rfl
  have ql0 := (Xl3.out.alloc (.cells #[.float .f32 z3] 22)).c 0 rfl
  have Hb3 := Lib.hid hb3
  clear hb3
  by_cases hbb : (b1 && b2 && b3) = true
  · rw [Bool.and_eq_true, Bool.and_eq_true] at hbb
    obtain ⟨⟨rfl, rfl⟩, rfl⟩ := hbb
    go_wp2_with fail
    refine (isPositive_o _ hl).mono ?_
    rintro e w' ⟨bb, hbb, rfl, rfl⟩
    have Hbb := Lib.hid hbb
    clear hbb
    obtain ⟨c5, hc5⟩ : ∃ c, fcmp .gtr .f32 D (critO A0 A1 A2 A3 F).1 = c := ⟨_, rfl⟩
    have HC5 := Lib.hid hc5
    clear hc5
    have o5 : (FloatKind.f32.format.order d z1 == some .gt) = c5 := by rw [Is32.ord hd hz1]; exact HC5.out
    cases bb
    · have hv : R = (some 0, false) := by rw [← HR.out]; unfold backO; rw [Hbb.out, Bool.and_false, Bool.false_and]; rfl
      have HV := Lib.hid hv
      clear hv
      go_wp2_with fail
      go_ret2
      exact ⟨_, _, rfl, by rw [HV.out], by rw [HV.out]; exact Is32.c (by decide), (by repeat (first | with_reducible exact HB3.out | with_reducible refine beld ?_ _ | (with_reducible refine Below.alloc ?_ ?_ _; rotate_left; exact (by first | (simp; done) | (simp; omega) | omega)) | (with_reducible refine Below.setCell ?_ ?_ _; rotate_left; exact (by first | (simp; done) | (simp; omega) | omega))))⟩
    cases c5
    · have hv : R = (some 0, false) := by rw [← HR.out]; unfold backO; rw [HC5.out, Bool.and_false]; rfl
      have HV := Lib.hid hv
      clear hv
      go_wp2_with fail
      go_ret2
      exact ⟨_, _, rfl, by rw [HV.out], by rw [HV.out]; exact Is32.c (by decide), (by repeat (first | with_reducible exact HB3.out | with_reducible refine beld ?_ _ | (with_reducible refine Below.alloc ?_ ?_ _; rotate_left; exact (by first | (simp; done) | (simp; omega) | omega)) | (with_reducible refine Below.setCell ?_ ?_ _; rotate_left; exact (by first | (simp; done) | (simp; omega) | omega))))⟩
    have hv : ((backR A0 A1 A2 A3 D F L).2.1, (backR A0 A1 A2 A3 D F L).2.2) = R := by rw [← HR.out]; unfold backO; rw [Hb1.out, Hb2.out, Hb3.out, Hbb.out, HC5.out]; rfl
    have HV := Lib.hid hv
    clear hv
    go_wp2_with fail
    refine at_f32k (fun R => Oper.upon _ _ _ _ _ (Result.andThen R _)) _ _ (by decide) ha2 hl ?_
    intro z n hz
    go_wp2_with fail
    refine (halve_any _ _ (enters_of Try.func73 (by kernel_rfl) rfl) (backH A0 A1 A2 A3 F L (steepO A0 A1 A2 A3 D F).1 (fop .mul .f32 A2 L) (headS A0 A1 A2 A3 D F).1) _ _ hz1 (Is32.c (b := 1148846080) (by decide)) (backJudge ha0 ha1 ha2 ha3 hf hl hz3 hz hz2 _ _ _ _ _ _) ?_).mono ?_
    · refine ⟨?_, ?_, ?_, ?_, ?_, ?_⟩
      all_goals (first | exact (((Xa3.out.alloc _).drewN _).alloc _) | exact (((Xf3.out.alloc _).drewN _).alloc _) | exact (((Xl3.out.alloc _).drewN _).alloc _) | exact (((Xh3.out.alloc _).drewN _).alloc _) | exact (((Bx.new w3 [.float .f32 z3] _).drewN _).alloc _) | exact Bx.newAt _ _ [.float .f32 z] _ (by simp))
    · rintro e w4 ⟨pp, qq, bb, rfl, hbb, hpp, hqq, hb4⟩
      have HB4 := Lib.hid (Below.trans (by repeat (first | with_reducible exact HB3.out | with_reducible refine beld ?_ _ | (with_reducible refine Below.alloc ?_ ?_ _; rotate_left; exact (by first | (simp; done) | (simp; omega) | omega)) | (with_reducible refine Below.setCell ?_ ?_ _; rotate_left; exact (by first | (simp; done) | (simp; omega) | omega)))) (hb4.mono (by first | (simp; done) | (simp; omega) | omega)) : Below w.heap.size w w4)
      clear hb4
      go_wp2_with fail
      go_ret2
      exact ⟨_, _, rfl, by rw [← HV.out]; exact hbb, by rw [← HV.out]; exact hqq, HB4.out⟩
  · have hbf : (b1 && b2 && b3) = false := by simpa using hbb
    have hv : R = (some 0, false) := by rw [← HR.out]; unfold backO; rw [Hb1.out, Hb2.out, Hb3.out, hbf, Bool.false_and, Bool.false_and]; rfl
    have HV := Lib.hid hv
    clear hv hbf
    cases b1
    all_goals cases b2
    all_goals cases b3
    all_goals first | (exact absurd rfl hbb) | skip
    all_goals clear hbb
    all_goals go_wp2_with fail
    all_goals go_ret2
    all_goals exact ⟨_, _, rfl, by rw [HV.out], by rw [HV.out]; exact Is32.c (by decide), (by repeat (first | with_reducible exact HB3.out | with_reducible refine beld ?_ _ | (with_reducible refine Below.alloc ?_ ?_ _; rotate_left; exact (by first | (simp; done) | (simp; omega) | omega)) | (with_reducible refine Below.setCell ?_ ?_ _; rotate_left; exact (by first | (simp; done) | (simp; omega) | omega))))⟩

end Go.Proofs.Ytfdcfalkidcdnaa
namespace Go.Proofs.Ytfdcfalkidcdnaa
open Go.RowKit
set_option linter.unusedVariables false
set_option linter.unusedSimpArgs false
set_option maxRecDepth 100000
attribute [local irreducible] wpV wpList Code.wp

theorem backH_1 {A0 A1 A2 A3 F L T R H X : Option Nat} : (backH A0 A1 A2 A3 F L T R H X).1 = fcmp .gtr .f32 (fop .add .f32 (headS A0 A1 A2 A3 X F).1 R) (fop .add .f32 H (fop .mul .f32 L (fop .mul .f32 (some 1056964608) (fop .add .f32 T (steepO A0 A1 A2 A3 X F).1)))) := by rw [← halfO]; rfl
theorem backH_2 {A0 A1 A2 A3 F L T R H X : Option Nat} : (backH A0 A1 A2 A3 F L T R H X).2 = ((headS A0 A1 A2 A3 X F).2 && (steepO A0 A1 A2 A3 X F).2) := rfl

set_option maxHeartbeats 8000000 in
theorem backStep_s {A0 A1 A2 A3 D F L : Option Nat} {a0 a1 a2 a3 d f l : Nat} (w : World) (ha0 : Is32 A0 a0) (ha1 : Is32 A1 a1) (ha2 : Is32 A2 a2) (ha3 : Is32 A3 a3) (hd : Is32 D d) (hf : Is32 F f) (hl : Is32 L l) :
    Calls Try.prog 27 #[.agg #[.float .f32 a0, .float .f32 a1, .float .f32 a2, .float .f32 a3], .float .f32 d, .float .f32 f, .float .f32 l] w (OnlyB (backO A0 A1 A2 A3 D F L) w) := by
  obtain ⟨R, hR⟩ : ∃ R, backO A0 A1 A2 A3 D F L = R := ⟨_, rfl⟩
  rw [hR]
  have HR := Lib.hid hR
  clear hR
  go_enter Try.func27, Try.ntmps27
  go_wp2_with fail
  refine (criticalDepth_s _ ha0 ha1 ha2 ha3 hf).mono ?_
  rintro e w1 ⟨z1, b1, rfl, hb1, hz1, hb⟩
  have hB1 : Below w.heap.size w w1 := Below.trans (bel1 _ _) (hb.mono (by first | (simp; done) | (simp; omega) | omega))
  have hs1 : w.heap.size + 1 ≤ w1.heap.size := (by have := hb.size; (try simp at this); omega)
  have xa : Bx w1 w.heap.size [.float .f32 a0, .float .f32 a1, .float .f32 a2, .float .f32 a3] := Bx.below (Bx.new w [_, _, _, _] _) hb (by first | (simp; done) | (simp; omega) | omega)
  have ca0 := xa.c 0 rfl
  have ca1 := xa.c 1 rfl
  have ca2 := xa.c 2 rfl
  have ca3 := xa.c 3 rfl
  have Xa1 := Lib.hid xa
  have HB1 := Lib.hid hB1
  clear xa hb hB1
  have Hb1 := Lib.hid hb1
  clear hb1
  go_wp2_with fail
  refine (headAt_s _ ha0 ha1 ha2 ha3 hd hf).mono ?_
  rintro e w2 ⟨z2, b2, rfl, hb2, hz2, hb⟩
  have hB2 : Below w.heap.size w w2 := Below.trans HB1.out (hb.mono (by first | (simp; done) | (simp; omega) | omega))
  have hs2 : w.heap.size + 1 ≤ w2.heap.size := (by have := hb.size; (try simp at this); omega)
  have xa : Bx w2 w.heap.size [.float .f32 a0, .float .f32 a1, .float .f32 a2, .float .f32 a3] := Bx.below Xa1.out hb (by first | (simp; done) | (simp; omega) | omega)
  clear ca0 ca1 ca2 ca3
  have ca0 := xa.c 0 rfl
  have ca1 := xa.c 1 rfl
  have ca2 := xa.c 2 rfl
  have ca3 := xa.c 3 rfl
  have Xa2 := Lib.hid xa
  have HB2 := Lib.hid hB2
  clear xa hb hB2
  have Hb2 := Lib.hid hb2
  clear hb2
  go_wp2_with fail
  refine (steepnessAt_s _ ha0 ha1 ha2 ha3 hd hf).mono ?_
  rintro e w3 ⟨z3, b3, rfl, hb3, hz3, hb⟩
  have hB3 : Below w.heap.size w w3 := Below.trans HB2.out (hb.mono (by first | (simp; done) | (simp; omega) | omega))
  have hs3 : w.heap.size + 1 ≤ w3.heap.size := (by have := hb.size; (try simp at this); omega)
  have xa : Bx w3 w.heap.size [.float .f32 a0, .float .f32 a1, .float .f32 a2, .float .f32 a3] := Bx.below Xa2.out hb (by first | (simp; done) | (simp; omega) | omega)
  clear ca0 ca1 ca2 ca3
  have ca0 := xa.c 0 rfl
  have ca1 := xa.c 1 rfl
  have ca2 := xa.c 2 rfl
  have ca3 := xa.c 3 rfl
  have Xa3 := Lib.hid xa
  have HB3 := Lib.hid hB3
  clear xa hb hB3
  have Hb3 := Lib.hid hb3
  clear hb3
  by_cases hbb : (b1 && b2 && b3) = true
  · rw [Bool.and_eq_true, Bool.and_eq_true] at hbb
    obtain ⟨⟨rfl, rfl⟩, rfl⟩ := hbb
    go_wp2_with fail
    refine (l02Above_o _ hl).mono ?_
    rintro e w' ⟨bb, hbb, rfl, n3, rfl⟩
    have Hbb := Lib.hid hbb
    clear hbb
    have HB4 := Lib.hid (beld HB3.out n3)
    have Xa4 := Lib.hid (Xa3.out.drewN n3)
    obtain ⟨c5, hc5⟩ : ∃ c, fcmp .gtr .f32 D (critO A0 A1 A2 A3 F).1 = c := ⟨_, rfl⟩
    have HC5 := Lib.hid hc5
    clear hc5
    have o5 : (FloatKind.f32.format.order d z1 == some .gt) = c5 := by rw [Is32.ord hd hz1]; exact HC5.out
    cases bb
    · have hv : R = (some 0, false) := by rw [← HR.out]; unfold backO; rw [Hbb.out, Bool.and_false, Bool.false_and]; rfl
      have HV := Lib.hid hv
      clear hv
      go_wp2_with fail
      go_ret2
      exact ⟨_, _, rfl, by rw [HV.out], by rw [HV.out]; exact Is32.c (by decide), HB4.out⟩
    cases c5
    · have hv : R = (some 0, false) := by rw [← HR.out]; unfold backO; rw [HC5.out, Bool.and_false]; rfl
      have HV := Lib.hid hv
      clear hv
      go_wp2_with fail
      go_ret2
      exact ⟨_, _, rfl, by rw [HV.out], by rw [HV.out]; exact Is32.c (by decide), HB4.out⟩
    have hv : ((backR A0 A1 A2 A3 D F L).2.1, (backR A0 A1 A2 A3 D F L).2.2) = R := by rw [← HR.out]; unfold backO; rw [Hb1.out, Hb2.out, Hb3.out, Hbb.out, HC5.out]; rfl
    have HV := Lib.hid hv
    clear hv
    obtain ⟨R2, hR2⟩ : ∃ R2, backR A0 A1 A2 A3 D F L = R2 := ⟨_, rfl⟩
    have HR2 : Hid (halveO (backH A0 A1 A2 A3 F L (steepO A0 A1 A2 A3 D F).1 (fop .mul .f32 A2 L) (headS A0 A1 A2 A3 D F).1) (40 - 0) (critO A0 A1 A2 A3 F).1 (some 1148846080) = R2) := Lib.hid hR2
    have hv := HV.out
    rw [hR2] at hv
    have HV2 := Lib.hid hv
    clear hv hR2 HV
    go_wp2_with fail
    go_loopw [16, 17, 18] (fun lo hi nn wr => ∃ (k : Nat) (X Y : Option Nat) (x y : Nat), k ≤ 40 ∧ lo = .float .f32 x ∧ hi = .float .f32 y ∧ nn = .int .i64 (k : Int) ∧ Is32 X x ∧ Is32 Y y ∧ Hid (halveO (backH A0 A1 A2 A3 F L (steepO A0 A1 A2 A3 D F).1 (fop .mul .f32 A2 L) (headS A0 A1 A2 A3 D F).1) (40 - k) X Y = R2) ∧ Hid (Below w.heap.size w wr) ∧ Hid (Bx wr w.heap.size [.float .f32 a0, .float .f32 a1, .float .f32 a2, .float .f32 a3])) (fun _ _ nn _ => 40 - (intOf nn).toNat)
    case atStart => exact ⟨0, _, _, _, _, by omega, rfl, rfl, rfl, hz1, Is32.c (b := 1148846080) (by decide), HR2, HB4, Xa4⟩
    case round =>
      obtain ⟨k, X, Y, x, y, hk, rfl, rfl, rfl, hx, hy, HK, HBk, HX⟩ := hrel
      clear ca0 ca1 ca2 ca3
      have ca0 := HX.out.c 0 rfl
      have ca1 := HX.out.c 1 rfl
      have ca2 := HX.out.c 2 rfl
      have ca3 := HX.out.c 3 rfl
      by_cases hlt : k < 40
      · have hlt2 : (k : Int) < 40 := by omega
        go_wp2_with (first | ((with_reducible refine wpList_bin ?_); refine wpList_f32 rfl _ _ _ _ _ rfl rfl rfl (by decide) (by first | assumption | exact Is32.c (by decide)) (by first | assumption | exact Is32.c (by decide)) ?_; intro z n hz))
        have hmid : Is32 (fop .quo .f32 (fop .add .f32 X Y) (some 1073741824)) z := by rw [halfO]; exact hz
        have Hm := Lib.hid hmid
        clear hz hmid
        have hwr : w.heap.size + 1 ≤ wr.heap.size := HX.out.1
        refine (headAt_s _ ha0 ha1 ha2 ha3 Hm.out hf).mono ?_
        rintro e w5 ⟨z5, b5, rfl, hb5, hz5, hb⟩
        have hB5 : Below w.heap.size w w5 := Below.trans (by first | exact HBk.out | exact beld HBk.out _ | exact beld (beld HBk.out _) _ | exact beld (beld (beld HBk.out _) _) _ | exact beld (beld (beld (beld HBk.out _) _) _) _ | exact beld (beld (beld (beld (beld HBk.out _) _) _) _) _ | exact beld (beld (beld (beld (beld (beld HBk.out _) _) _) _) _) _) (hb.mono (by first | (simp; done) | (simp; omega) | omega))
        have hs5 : w.heap.size + 1 ≤ w5.heap.size := (by have := hb.size; (try simp at this); omega)
        have xa : Bx w5 w.heap.size [.float .f32 a0, .float .f32 a1, .float .f32 a2, .float .f32 a3] := Bx.below (by first | exact HX.out | exact HX.out.drewN _ | exact (HX.out.drewN _).drewN _) hb (by first | (simp; done) | (simp; omega) | omega)
        clear ca0 ca1 ca2 ca3
        have ca0 := xa.c 0 rfl
        have ca1 := xa.c 1 rfl
        have ca2 := xa.c 2 rfl
        have ca3 := xa.c 3 rfl
        have Xa5 := Lib.hid xa
        have HB5 := Lib.hid hB5
        clear xa hb hB5
        have Hb5 := Lib.hid hb5
        clear hb5
        go_wp2_with fail
        refine (steepnessAt_s _ ha0 ha1 ha2 ha3 Hm.out hf).mono ?_
        rintro e w6 ⟨z6, b6, rfl, hb6, hz6, hb⟩
        have hB6 : Below w.heap.size w w6 := Below.trans HB5.out (hb.mono (by first | (simp; done) | (simp; omega) | omega))
        have hs6 : w.heap.size + 1 ≤ w6.heap.size := (by have := hb.size; (try simp at this); omega)
        have xa : Bx w6 w.heap.size [.float .f32 a0, .float .f32 a1, .float .f32 a2, .float .f32 a3] := Bx.below Xa5.out hb (by first | (simp; done) | (simp; omega) | omega)
        clear ca0 ca1 ca2 ca3
        have ca0 := xa.c 0 rfl
        have ca1 := xa.c 1 rfl
        have ca2 := xa.c 2 rfl
        have ca3 := xa.c 3 rfl
        have Xa6 := Lib.hid xa
        have HB6 := Lib.hid hB6
        clear xa hb hB6
        have Hb6 := Lib.hid hb6
        clear hb6
        have e40 : 40 - k = (40 - (k + 1)) + 1 := by omega
        have hk4 : halveO (backH A0 A1 A2 A3 F L (steepO A0 A1 A2 A3 D F).1 (fop .mul .f32 A2 L) (headS A0 A1 A2 A3 D F).1) ((40 - (k + 1)) + 1) X Y = R2 := by rw [← e40]; exact HK.out
        have HK4 := Lib.hid hk4
        clear e40 hk4
        have hcc : (backH A0 A1 A2 A3 F L (steepO A0 A1 A2 A3 D F).1 (fop .mul .f32 A2 L) (headS A0 A1 A2 A3 D F).1 (fop .quo .f32 (fop .add .f32 X Y) (some 1073741824))).2 = (b5 && b6) := by rw [backH_2, Hb5.out, Hb6.out]
        have HC := Lib.hid hcc
        clear hcc
        by_cases hbb : (b5 && b6) = true
        · rw [Bool.and_eq_true] at hbb
          obtain ⟨rfl, rfl⟩ := hbb
          go_wp2_with (first | ((with_reducible refine wpList_bin ?_); refine wpList_f32 rfl _ _ _ _ _ rfl rfl rfl (by decide) (by first | assumption | exact Is32.c (by decide)) (by first | assumption | exact Is32.c (by decide)) ?_; intro z n hz) | ((with_reducible refine wpList_bin ?_); refine wpList_c32 rfl _ _ _ _ _ rfl rfl rfl (by decide) (by first | assumption | exact Is32.c (by decide)) (by first | assumption | exact Is32.c (by decide)) ?_; intro b3 hb3; rw [← backH_1] at hb3; have HB3b := Lib.hid hb3; clear hb3; cases b3))
          · exact ⟨⟨k + 1, _, _, _, _, by omega, rfl, rfl, by go_num, Hm.out, hy, Lib.hid ((halve_lo (H := (backH A0 A1 A2 A3 F L (steepO A0 A1 A2 A3 D F).1 (fop .mul .f32 A2 L) (headS A0 A1 A2 A3 D F).1)) HC.out HB3b.out).symm.trans HK4.out), Lib.hid (by first | exact HB6.out | exact beld HB6.out _ | exact beld (beld HB6.out _) _ | exact beld (beld (beld HB6.out _) _) _ | exact beld (beld (beld (beld HB6.out _) _) _) _ | exact beld (beld (beld (beld (beld HB6.out _) _) _) _) _ | exact beld (beld (beld (beld (beld (beld HB6.out _) _) _) _) _) _), Lib.hid (by exact Xa6.out)⟩, by simp [intOf]; omega⟩
          · exact ⟨⟨k + 1, _, _, _, _, by omega, rfl, rfl, by go_num, hx, Hm.out, Lib.hid ((halve_hi (H := (backH A0 A1 A2 A3 F L (steepO A0 A1 A2 A3 D F).1 (fop .mul .f32 A2 L) (headS A0 A1 A2 A3 D F).1)) HC.out HB3b.out).symm.trans HK4.out), Lib.hid (by first | exact HB6.out | exact beld HB6.out _ | exact beld (beld HB6.out _) _ | exact beld (beld (beld HB6.out _) _) _ | exact beld (beld (beld (beld HB6.out _) _) _) _ | exact beld (beld (beld (beld (beld HB6.out _) _) _) _) _ | exact beld (beld (beld (beld (beld (beld HB6.out _) _) _) _) _) _), Lib.hid (by exact Xa6.out)⟩, by simp [intOf]; omega⟩
        · have hbf : (b5 && b6) = false := by simpa using hbb
          have hRv : R2 = (some 0, some 0, false) := HK4.out.symm.trans (halve_no (H := (backH A0 A1 A2 A3 F L (steepO A0 A1 A2 A3 D F).1 (fop .mul .f32 A2 L) (headS A0 A1 A2 A3 D F).1)) (HC.out.trans hbf))
          have HRv := Lib.hid hRv
          clear hRv hbf
          cases b5
          all_goals cases b6
          all_goals first | (exact absurd rfl hbb) | skip
          all_goals clear hbb
          all_goals go_wp2_with fail
          all_goals go_ret2
          all_goals exact ⟨_, _, rfl, by rw [← HV2.out, HRv.out], by rw [← HV2.out, HRv.out]; exact Is32.c (by decide), HB6.out⟩
      · obtain rfl : k = 40 := by omega
        have h9 := HK.out
        simp only [Nat.sub_self, halveO] at h9
        have H9 := Lib.hid h9
        clear h9
        go_wp2_with fail
        go_ret2
        exact ⟨_, _, rfl, by rw [← HV2.out, ← H9.out], by rw [← HV2.out, ← H9.out]; exact hy, HBk.out⟩
  · have hbf : (b1 && b2 && b3) = false := by simpa using hbb
    have hv : R = (some 0, false) := by rw [← HR.out]; unfold backO; rw [Hb1.out, Hb2.out, Hb3.out, hbf, Bool.false_and, Bool.false_and]; rfl
    have HV := Lib.hid hv
    clear hv hbf
    cases b1
    all_goals cases b2
    all_goals cases b3
    all_goals first | (exact absurd rfl hbb) | skip
    all_goals clear hbb
    all_goals go_wp2_with fail
    all_goals go_ret2
    all_goals exact ⟨_, _, rfl, by rw [HV.out], by rw [HV.out]; exact Is32.c (by decide), HB3.out⟩
end Go.Proofs.Ytfdcfalkidcdnaa
