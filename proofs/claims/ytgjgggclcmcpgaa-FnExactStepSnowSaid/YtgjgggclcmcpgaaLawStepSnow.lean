/- The walk of the law on StepSnow. -/
import Derived.Test.YtgjgggclcmcpgaaSnowQ
import Derived.Test.YtgjgggclcmcpgaaTo
import Derived.Test.YtgjgggclcmcpgaaSame
import Derived.Test.YtgjgggclcmcpgaaStepH
namespace Go.Proofs.Ytgjgggclcmcpgaa
open Go.RowKit
set_option linter.unusedVariables false
set_option linter.unusedSimpArgs false
set_option maxRecDepth 100000
attribute [local irreducible] wpV wpList Code.wp

set_option maxHeartbeats 4000000 in
theorem eqSnow_o {O0 O1 O2 O3 : Option Nat} {x0 x1 x2 x3 y0 y1 y2 y3 : Nat} (w : World) (hx0 : Is32 O0 x0) (hy0 : Is32 O0 y0) (hx1 : Is32 O1 x1) (hy1 : Is32 O1 y1) (hx2 : Is32 O2 x2) (hy2 : Is32 O2 y2) (hx3 : Is32 O3 x3) (hy3 : Is32 O3 y3) :
    Calls Try.prog 27 #[.agg #[.float .f32 x0, .float .f32 x1, .float .f32 x2, .float .f32 x3], .agg #[.float .f32 y0, .float .f32 y1, .float .f32 y2, .float .f32 y3]] w fun e w' => e = .returned (.bool true) ∧ Below w.heap.size w w' := by
  go_enter Try.func27, Try.ntmps27
  go_wp2_with (first | ((with_reducible refine wpList_cv ?_); refine wpList_widen rfl _ _ _ rfl rfl (by kernel_rfl) Try.underlying31 (by assumption) ?_; intro y q hy) | (go_at_call 19; refine (sameFloat_true _ _ _ (by assumption) (by assumption) _).mono ?_; rintro e w' ⟨rfl, n3, rfl⟩))
  go_ret
  exact ⟨rfl, by repeat (first | with_reducible exact bel2 _ _ _ | with_reducible refine beld ?_ _)⟩

set_option maxHeartbeats 8000000 in
theorem walk_FnExactStepSnow (a0 a1 a2 a3 x v t : Nat) (ha0 : a0 < 4294967296) (ha1 : a1 < 4294967296) (ha2 : a2 < 4294967296) (ha3 : a3 < 4294967296) (hx : x < 4294967296) (hv : v < 4294967296) (ht : t < 4294967296) (w : World) :
    Calls Try.prog 6 #[.agg #[.float .f32 a0, .float .f32 a1, .float .f32 a2, .float .f32 a3], .float .f32 x, .float .f32 v, .float .f32 t] w fun e w' => e = .returned (.bool true) ∧ Below w.heap.size w w' := by
  obtain ⟨R, hR⟩ : ∃ R, snowStep (some a0) (some a1) (some a2) (some a3) (some x) (some v) (some t) = R := ⟨_, rfl⟩
  have cS : ∀ W : World, Calls Try.prog 25 #[.agg #[.float .f32 a0, .float .f32 a1, .float .f32 a2, .float .f32 a3], .float .f32 x, .float .f32 v, .float .f32 t] W (SnowB R W) := fun W => by have := stepSnow_s W (Is32.c ha0) (Is32.c ha1) (Is32.c ha2) (Is32.c ha3) (Is32.c hx) (Is32.c hv) (Is32.c ht); rw [hR] at this; exact this
  have cI : ∀ W : World, Calls Try.prog 26 #[.agg #[.float .f32 a0, .float .f32 a1, .float .f32 a2, .float .f32 a3], .float .f32 x, .float .f32 v, .float .f32 t] W (SnowB R W) := fun W => by have := stepSnow_i W (Is32.c ha0) (Is32.c ha1) (Is32.c ha2) (Is32.c ha3) (Is32.c hx) (Is32.c hv) (Is32.c ht); rw [hR] at this; exact this
  have HS := Lib.hid cS
  have HI := Lib.hid cI
  clear cS cI hR
  go_enter Try.func6, Try.ntmps6
  go_wp2_with fail
  refine (toSnow_o _ _ _ _ _).mono ?_
  rintro e w1 ⟨rfl, hb⟩
  have hb1 : Below w.heap.size w w1 := Below.trans (by repeat (first | with_reducible exact bel1 _ _ | with_reducible refine beld ?_ _ | (with_reducible refine Below.alloc ?_ ?_ _; rotate_left; exact (by first | (simp; done) | (simp; omega) | omega)) | (with_reducible refine Below.setCell ?_ ?_ _; rotate_left; exact (by first | (simp; done) | (simp; omega) | omega)))) (hb.mono (by first | (simp; done) | (simp; omega) | omega))
  have hs1 : w.heap.size + 1 ≤ w1.heap.size := (by have := hb.size; (try simp at this); omega)
  have bA : Bx w1 (w.heap.size) [.float .f32 a0, .float .f32 a1, .float .f32 a2, .float .f32 a3] := Bx.below (Bx.of4 (by first | (simp; done) | (simp; omega) | omega) (by first | (simp [go_sem]; done) | (simp (maxDischargeDepth := 8) [go_sem]; done) | (simp [go_sem]; rfl)) (by first | (simp [go_sem]; done) | (simp (maxDischargeDepth := 8) [go_sem]; done) | (simp [go_sem]; rfl)) (by first | (simp [go_sem]; done) | (simp (maxDischargeDepth := 8) [go_sem]; done) | (simp [go_sem]; rfl)) (by first | (simp [go_sem]; done) | (simp (maxDischargeDepth := 8) [go_sem]; done) | (simp [go_sem]; rfl))) hb (by first | (simp; done) | (simp; omega) | omega)
  have cA0 := bA.c 0 rfl
  have cA1 := bA.c 1 rfl
  have cA2 := bA.c 2 rfl
  have cA3 := bA.c 3 rfl
  have HB1 := Lib.hid hb1
  clear hb hb1
  have HA1 := Lib.hid bA
  clear bA
  go_wp2_with fail
  refine (HS.out _).mono ?_
  rintro e w2 ⟨s0, s1, s2, s3, s4, rfl, ⟨is0, is1, is2, is3, is4⟩, hb⟩
  have gz2 : w1.heap.size ≤ w2.heap.size := hb.size
  have hb2 : Below w.heap.size w w2 := Below.trans (by repeat (first | with_reducible exact HB1.out | with_reducible refine beld ?_ _ | (with_reducible refine Below.alloc ?_ ?_ _; rotate_left; exact (by first | (simp; done) | (simp; omega) | omega)) | (with_reducible refine Below.setCell ?_ ?_ _; rotate_left; exact (by first | (simp; done) | (simp; omega) | omega)))) (hb.mono (by first | (simp; done) | (simp; omega) | omega))
  have hs2 : w.heap.size + 1 ≤ w2.heap.size := (by have := hb.size; (try simp at this); omega)
  have bA : Bx w2 (w.heap.size) [.float .f32 a0, .float .f32 a1, .float .f32 a2, .float .f32 a3] := Bx.below (Bx.of4 (by first | (simp; done) | (simp; omega) | omega) (by first | (simp [go_sem, cA0, cA1, cA2, cA3]; done) | (simp (maxDischargeDepth := 8) [go_sem, cA0, cA1, cA2, cA3]; done) | (simp [go_sem, cA0, cA1, cA2, cA3]; rfl)) (by first | (simp [go_sem, cA0, cA1, cA2, cA3]; done) | (simp (maxDischargeDepth := 8) [go_sem, cA0, cA1, cA2, cA3]; done) | (simp [go_sem, cA0, cA1, cA2, cA3]; rfl)) (by first | (simp [go_sem, cA0, cA1, cA2, cA3]; done) | (simp (maxDischargeDepth := 8) [go_sem, cA0, cA1, cA2, cA3]; done) | (simp [go_sem, cA0, cA1, cA2, cA3]; rfl)) (by first | (simp [go_sem, cA0, cA1, cA2, cA3]; done) | (simp (maxDischargeDepth := 8) [go_sem, cA0, cA1, cA2, cA3]; done) | (simp [go_sem, cA0, cA1, cA2, cA3]; rfl))) hb (by first | (simp; done) | (simp; omega) | omega)
  clear cA0 cA1 cA2 cA3
  have cA0 := bA.c 0 rfl
  have cA1 := bA.c 1 rfl
  have cA2 := bA.c 2 rfl
  have cA3 := bA.c 3 rfl
  have HB2 := Lib.hid hb2
  clear hb hb2 HA1
  have HA2 := Lib.hid bA
  clear bA
  have lt2 : w.heap.size < w2.heap.size := by omega
  go_wp2_with fail
  refine (toSnow_o _ _ _ _ _).mono ?_
  rintro e w3 ⟨rfl, hb⟩
  have gz3 : w2.heap.size + 1 ≤ w3.heap.size := (by have := hb.size; (try simp at this); omega)
  have hb3 : Below w.heap.size w w3 := Below.trans (by repeat (first | with_reducible exact HB2.out | with_reducible refine beld ?_ _ | (with_reducible refine Below.alloc ?_ ?_ _; rotate_left; exact (by first | (simp; done) | (simp; omega) | omega)) | (with_reducible refine Below.setCell ?_ ?_ _; rotate_left; exact (by first | (simp; done) | (simp; omega) | omega)))) (hb.mono (by first | (simp; done) | (simp; omega) | omega))
  have hs3 : w.heap.size + 1 ≤ w3.heap.size := (by have := hb.size; (try simp at this); omega)
  have bA : Bx w3 (w.heap.size) [.float .f32 a0, .float .f32 a1, .float .f32 a2, .float .f32 a3] := Bx.below (Bx.of4 (by first | (simp; done) | (simp; omega) | omega) (by first | (simp [go_sem, cA0, cA1, cA2, cA3, lt2]; done) | (simp (maxDischargeDepth := 8) [go_sem, cA0, cA1, cA2, cA3, lt2]; done) | (simp [go_sem, cA0, cA1, cA2, cA3, lt2]; rfl)) (by first | (simp [go_sem, cA0, cA1, cA2, cA3, lt2]; done) | (simp (maxDischargeDepth := 8) [go_sem, cA0, cA1, cA2, cA3, lt2]; done) | (simp [go_sem, cA0, cA1, cA2, cA3, lt2]; rfl)) (by first | (simp [go_sem, cA0, cA1, cA2, cA3, lt2]; done) | (simp (maxDischargeDepth := 8) [go_sem, cA0, cA1, cA2, cA3, lt2]; done) | (simp [go_sem, cA0, cA1, cA2, cA3, lt2]; rfl)) (by first | (simp [go_sem, cA0, cA1, cA2, cA3, lt2]; done) | (simp (maxDischargeDepth := 8) [go_sem, cA0, cA1, cA2, cA3, lt2]; done) | (simp [go_sem, cA0, cA1, cA2, cA3, lt2]; rfl))) hb (by first | (simp; done) | (simp; omega) | omega)
  have bS : Bx w3 (w2.heap.size) [.float .f32 s0, .float .f32 s1, .float .f32 s2, .float .f32 s3] := Bx.below (Bx.of4 (by first | (simp; done) | (simp; omega) | omega) (by first | (simp [go_sem]; done) | (simp (maxDischargeDepth := 8) [go_sem]; done) | (simp [go_sem]; rfl)) (by first | (simp [go_sem]; done) | (simp (maxDischargeDepth := 8) [go_sem]; done) | (simp [go_sem]; rfl)) (by first | (simp [go_sem]; done) | (simp (maxDischargeDepth := 8) [go_sem]; done) | (simp [go_sem]; rfl)) (by first | (simp [go_sem]; done) | (simp (maxDischargeDepth := 8) [go_sem]; done) | (simp [go_sem]; rfl))) hb (by first | (simp; done) | (simp; omega) | omega)
  clear cA0 cA1 cA2 cA3
  have cA0 := bA.c 0 rfl
  have cA1 := bA.c 1 rfl
  have cA2 := bA.c 2 rfl
  have cA3 := bA.c 3 rfl
  have cS0 := bS.c 0 rfl
  have cS1 := bS.c 1 rfl
  have cS2 := bS.c 2 rfl
  have cS3 := bS.c 3 rfl
  have HB3 := Lib.hid hb3
  clear hb hb3 HA2
  have HA3 := Lib.hid bA
  have HS3 := Lib.hid bS
  clear bA bS
  go_wp2_with fail
  refine (HI.out _).mono ?_
  rintro e w4 ⟨t0, t1, t2, t3, t4, rfl, ⟨it0, it1, it2, it3, it4⟩, hb⟩
  have gz4 : w3.heap.size ≤ w4.heap.size := hb.size
  have hb4 : Below w.heap.size w w4 := Below.trans (by repeat (first | with_reducible exact HB3.out | with_reducible refine beld ?_ _ | (with_reducible refine Below.alloc ?_ ?_ _; rotate_left; exact (by first | (simp; done) | (simp; omega) | omega)) | (with_reducible refine Below.setCell ?_ ?_ _; rotate_left; exact (by first | (simp; done) | (simp; omega) | omega)))) (hb.mono (by first | (simp; done) | (simp; omega) | omega))
  have hs4 : w.heap.size + 1 ≤ w4.heap.size := (by have := hb.size; (try simp at this); omega)
  have bS : Bx w4 (w2.heap.size) [.float .f32 s0, .float .f32 s1, .float .f32 s2, .float .f32 s3] := Bx.below (Bx.of4 (by first | (simp; done) | (simp; omega) | omega) (by first | (simp [go_sem, cS0, cS1, cS2, cS3]; done) | (simp (maxDischargeDepth := 8) [go_sem, cS0, cS1, cS2, cS3]; done) | (simp [go_sem, cS0, cS1, cS2, cS3]; rfl)) (by first | (simp [go_sem, cS0, cS1, cS2, cS3]; done) | (simp (maxDischargeDepth := 8) [go_sem, cS0, cS1, cS2, cS3]; done) | (simp [go_sem, cS0, cS1, cS2, cS3]; rfl)) (by first | (simp [go_sem, cS0, cS1, cS2, cS3]; done) | (simp (maxDischargeDepth := 8) [go_sem, cS0, cS1, cS2, cS3]; done) | (simp [go_sem, cS0, cS1, cS2, cS3]; rfl)) (by first | (simp [go_sem, cS0, cS1, cS2, cS3]; done) | (simp (maxDischargeDepth := 8) [go_sem, cS0, cS1, cS2, cS3]; done) | (simp [go_sem, cS0, cS1, cS2, cS3]; rfl))) hb (by first | (simp; done) | (simp; omega) | omega)
  clear cA0 cA1 cA2 cA3 cS0 cS1 cS2 cS3
  have cS0 := bS.c 0 rfl
  have cS1 := bS.c 1 rfl
  have cS2 := bS.c 2 rfl
  have cS3 := bS.c 3 rfl
  have HB4 := Lib.hid hb4
  clear hb hb4 HA3 HS3
  have HS4 := Lib.hid bS
  clear bS
  have lt4 : w2.heap.size < w4.heap.size := by omega
  go_wp2_with fail
  refine (eqSnow_o _ it0 is0 it1 is1 it2 is2 it3 is3).mono ?_
  rintro e w5 ⟨rfl, hb⟩
  have hb5 : Below w.heap.size w w5 := Below.trans (by repeat (first | with_reducible exact HB4.out | with_reducible refine beld ?_ _ | (with_reducible refine Below.alloc ?_ ?_ _; rotate_left; exact (by first | (simp; done) | (simp; omega) | omega)) | (with_reducible refine Below.setCell ?_ ?_ _; rotate_left; exact (by first | (simp; done) | (simp; omega) | omega)))) (hb.mono (by first | (simp; done) | (simp; omega) | omega))
  have hs5 : w.heap.size + 1 ≤ w5.heap.size := (by have := hb.size; (try simp at this); omega)
  have HB5 := Lib.hid hb5
  clear hb hb5
  go_wp2_with (first | ((with_reducible refine wpList_cv ?_); refine wpList_widen rfl _ _ _ rfl rfl (by kernel_rfl) Try.underlying31 (by assumption) ?_; intro y q hy) | (go_at_call 19; refine (sameFloat_true _ _ _ (by assumption) (by assumption) _).mono ?_; rintro e w' ⟨rfl, n3, rfl⟩))
  go_ret
  exact ⟨rfl, by repeat (first | with_reducible exact HB5.out | with_reducible refine beld ?_ _)⟩
end Go.Proofs.Ytgjgggclcmcpgaa
