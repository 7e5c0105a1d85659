/- A tick of a soil: the model, path by path (0). -/
import Derived.Test.YtdoecpghlfjhiacStepH
namespace Go.Proofs.Ytdoecpghlfjhiac
open Go.RowKit
set_option linter.unusedVariables false
set_option linter.unusedSimpArgs false
set_option maxRecDepth 100000
attribute [local irreducible] wpV wpList Code.wp

set_option maxHeartbeats 4000000 in
theorem l03Step_0000 {A0 A1 A2 A3 A4 X T : Option Nat} {a0 a1 a2 a3 a4 x t : Nat} (w : World) (h0 : Is32 A0 a0) (h1 : Is32 A1 a1) (h2 : Is32 A2 a2) (h3 : Is32 A3 a3) (h4 : Is32 A4 a4) (hx : Is32 X x) (ht : Is32 T t) (hs : soilO A0 A1 A2 A3 A4 = true) (hc : fin32o (canO A0 A1 A4) = true) (hX : amtO X = true) (hT : posO T = true) (c1 : fcmp .lss .f32 (fop .mul .f32 (canO A0 A1 A4) T) X = false) (c2 : fcmp .lss .f32 (fop .sub .f32 A2 A4) X = false) (c3 : fcmp .gtr .f32 (fop .add .f32 A4 X) A2 = false) (c4 : fcmp .gtr .f32 (fop .mul .f32 (fop .mul .f32 (fop .add .f32 A4 X) A3) T) (fop .add .f32 A4 X) = false) :
    Calls Try.prog 138 #[.agg #[.float .f32 a0, .float .f32 a1, .float .f32 a2, .float .f32 a3, .float .f32 a4], .float .f32 x, .float .f32 t] w (StepB (tickO A0 A1 A2 A3 A4 X T) w) := by
  have eK : takenO A0 A1 A2 A4 X T = X := by simp only [takenO, minO, c1, c2, if_true, if_false, Bool.false_eq_true]
  have eW : wetO A2 A4 X = (fop .add .f32 A4 X) := by simp only [wetO, capO, c3, if_true, if_false, Bool.false_eq_true]
  have eG : goneO A3 (fop .add .f32 A4 X) T = (fop .mul .f32 (fop .mul .f32 (fop .add .f32 A4 X) A3) T) := by simp only [goneO, capO, c4, if_true, if_false, Bool.false_eq_true]
  have eT : tickO A0 A1 A2 A3 A4 X T = ⟨A0, A1, A2, A3, (fop .sub .f32 (fop .add .f32 A4 X) (fop .mul .f32 (fop .mul .f32 (fop .add .f32 A4 X) A3) T)), (fop .sub .f32 X X), (fop .mul .f32 (fop .mul .f32 (fop .add .f32 A4 X) A3) T), true⟩ := by unfold tickO; rw [eK, eW, eG]
  have hfin := tick_fin h0 h1 h2 h3 h4 hx ht hs hc hX hT
  rw [eT] at hfin ⊢
  obtain ⟨t1, t2, t3⟩ := hfin
  have Ht1 := Lib.hid t1
  have Ht2 := Lib.hid t2
  have Ht3 := Lib.hid t3
  have Hc := Lib.hid hc
  clear t1 t2 t3 eT eK eW eG hs hc hX hT
  have C1 := Lib.hid c1
  have C2 := Lib.hid c2
  have C3 := Lib.hid c3
  have C4 := Lib.hid c4
  clear c1 c2 c3 c4
  go_enter Try.func138, Try.ntmps138
  go_wp2_with fail
  refine (l03Can_o _ _ (Bx.of5 (by first | (simp; done) | (simp; omega) | omega) (by first | (simp [go_sem]; done) | (simp (maxDischargeDepth := 8) [go_sem]; done) | (simp (maxDischargeDepth := 8) [go_sem]; rfl)) (by first | (simp [go_sem]; done) | (simp (maxDischargeDepth := 8) [go_sem]; done) | (simp (maxDischargeDepth := 8) [go_sem]; rfl)) (by first | (simp [go_sem]; done) | (simp (maxDischargeDepth := 8) [go_sem]; done) | (simp (maxDischargeDepth := 8) [go_sem]; rfl)) (by first | (simp [go_sem]; done) | (simp (maxDischargeDepth := 8) [go_sem]; done) | (simp (maxDischargeDepth := 8) [go_sem]; rfl)) (by first | (simp [go_sem]; done) | (simp (maxDischargeDepth := 8) [go_sem]; done) | (simp (maxDischargeDepth := 8) [go_sem]; rfl))) (by first | assumption | exact Is32.c (by decide)) (by first | assumption | exact Is32.c (by decide)) (by first | assumption | exact Is32.c (by decide)) (by first | assumption | exact Is32.c (by decide)) (by first | assumption | exact Is32.c (by decide))).mono ?_
  rintro e w' ⟨z0, rfl, hz0, q0, rfl⟩
  go_wp2_with fail
  refine (l01Fin_o _ hz0).mono ?_
  rintro e w' ⟨bb, hbb, rfl, q1, rfl⟩
  obtain rfl := hbb.symm.trans Hc.out
  clear hbb
  go_wp2_with fail
  refine at_f32 (fun R => Oper.upon _ _ _ _ _ (Result.andThen R _)) _ _ (by decide) (by first | assumption | exact Is32.c (by decide)) (by first | assumption | exact Is32.c (by decide)) ?_
  intro m1 nm1 hm1
  have o1 : (FloatKind.f32.format.order m1 x == some .lt) = false := by rw [Is32.ord hm1 hx]; exact C1.out
  go_wp2_with fail
  refine at_f32 (fun R => Oper.upon _ _ _ _ _ (Result.andThen R _)) _ _ (by decide) (by first | assumption | exact Is32.c (by decide)) (by first | assumption | exact Is32.c (by decide)) ?_
  intro m2 nm2 hm2
  have o2 : (FloatKind.f32.format.order m2 x == some .lt) = false := by rw [Is32.ord hm2 hx]; exact C2.out
  go_wp2_with fail
  refine at_f32 (fun R => Oper.upon _ _ _ _ _ (Result.andThen R _)) _ _ (by decide) (by first | assumption | exact Is32.c (by decide)) (by first | assumption | exact Is32.c (by decide)) ?_
  intro m3 nm3 hm3
  have o3 : (FloatKind.f32.format.order m3 a2 == some .gt) = false := by rw [Is32.ord hm3 h2]; exact C3.out
  go_wp2_with fail
  refine at_f32 (fun R => Oper.upon _ _ _ _ _ (Result.andThen R _)) _ _ (by decide) (by first | assumption | exact Is32.c (by decide)) (by first | assumption | exact Is32.c (by decide)) ?_
  intro m4 nm4 hm4
  go_wp2_with fail
  refine at_f32 (fun R => Oper.upon _ _ _ _ _ (Result.andThen R _)) _ _ (by decide) (by first | assumption | exact Is32.c (by decide)) (by first | assumption | exact Is32.c (by decide)) ?_
  intro m5 nm5 hm5
  have o4 : (FloatKind.f32.format.order m5 m3 == some .gt) = false := by rw [Is32.ord hm5 hm3]; exact C4.out
  go_wp2_with fail
  refine at_f32 (fun R => Oper.upon _ _ _ _ _ (Result.andThen R _)) _ _ (by decide) (by first | assumption | exact Is32.c (by decide)) (by first | assumption | exact Is32.c (by decide)) ?_
  intro m6 nm6 hm6
  go_wp2_with fail
  refine at_f32 (fun R => Oper.upon _ _ _ _ _ (Result.andThen R _)) _ _ (by decide) (by first | assumption | exact Is32.c (by decide)) (by first | assumption | exact Is32.c (by decide)) ?_
  intro m7 nm7 hm7
  go_wp2_with fail
  refine (l03Soil_o _ _ (Bx.of5 (by first | (simp; done) | (simp; omega) | omega) (by first | (simp [go_sem]; done) | (simp (maxDischargeDepth := 8) [go_sem]; done) | (simp (maxDischargeDepth := 8) [go_sem]; rfl)) (by first | (simp [go_sem]; done) | (simp (maxDischargeDepth := 8) [go_sem]; done) | (simp (maxDischargeDepth := 8) [go_sem]; rfl)) (by first | (simp [go_sem]; done) | (simp (maxDischargeDepth := 8) [go_sem]; done) | (simp (maxDischargeDepth := 8) [go_sem]; rfl)) (by first | (simp [go_sem]; done) | (simp (maxDischargeDepth := 8) [go_sem]; done) | (simp (maxDischargeDepth := 8) [go_sem]; rfl)) (by first | (simp [go_sem]; done) | (simp (maxDischargeDepth := 8) [go_sem]; done) | (simp (maxDischargeDepth := 8) [go_sem]; rfl))) (by first | assumption | exact Is32.c (by decide)) (by first | assumption | exact Is32.c (by decide)) (by first | assumption | exact Is32.c (by decide)) (by first | assumption | exact Is32.c (by decide)) (by first | assumption | exact Is32.c (by decide))).mono ?_
  rintro e w9 ⟨bb, hbb, rfl, q2, hw9⟩
  obtain rfl := hbb.symm.trans Ht1.out
  clear hbb
  have bs : Bw w9 w.heap.size [.float .f32 a0, .float .f32 a1, .float .f32 a2, .float .f32 a3, .float .f32 m6] := by rw [hw9]; exact Bw.drewN (Bw.of5 (by first | (simp; done) | (simp; omega) | omega) (by first | (simp [go_sem]; done) | (simp (maxDischargeDepth := 8) [go_sem]; done) | (simp (maxDischargeDepth := 8) [go_sem]; rfl)) (by first | (simp [go_sem]; done) | (simp (maxDischargeDepth := 8) [go_sem]; done) | (simp (maxDischargeDepth := 8) [go_sem]; rfl)) (by first | (simp [go_sem]; done) | (simp (maxDischargeDepth := 8) [go_sem]; done) | (simp (maxDischargeDepth := 8) [go_sem]; rfl)) (by first | (simp [go_sem]; done) | (simp (maxDischargeDepth := 8) [go_sem]; done) | (simp (maxDischargeDepth := 8) [go_sem]; rfl)) (by first | (simp [go_sem]; done) | (simp (maxDischargeDepth := 8) [go_sem]; done) | (simp (maxDischargeDepth := 8) [go_sem]; rfl)) (by first | (simp [go_sem]; done) | (simp (maxDischargeDepth := 8) [go_sem]; done) | (simp (maxDischargeDepth := 8) [go_sem]; rfl)) (by first | (simp [go_sem]; done) | (simp (maxDischargeDepth := 8) [go_sem]; done) | (simp (maxDischargeDepth := 8) [go_sem]; rfl)) (by first | (simp [go_sem]; done) | (simp (maxDischargeDepth := 8) [go_sem]; done) | (simp (maxDischargeDepth := 8) [go_sem]; rfl)) (by first | (simp [go_sem]; done) | (simp (maxDischargeDepth := 8) [go_sem]; done) | (simp (maxDischargeDepth := 8) [go_sem]; rfl)) (by first | (simp [go_sem]; done) | (simp (maxDischargeDepth := 8) [go_sem]; done) | (simp (maxDischargeDepth := 8) [go_sem]; rfl))) _
  have br : Bw w9 (w.heap.size + 1) [.float .f32 0, .float .f32 0, .float .f32 0, .float .f32 0, .float .f32 0] := by rw [hw9]; exact Bw.drewN (Bw.of5 (by first | (simp; done) | (simp; omega) | omega) (by first | (simp [go_sem]; done) | (simp (maxDischargeDepth := 8) [go_sem]; done) | (simp (maxDischargeDepth := 8) [go_sem]; rfl)) (by first | (simp [go_sem]; done) | (simp (maxDischargeDepth := 8) [go_sem]; done) | (simp (maxDischargeDepth := 8) [go_sem]; rfl)) (by first | (simp [go_sem]; done) | (simp (maxDischargeDepth := 8) [go_sem]; done) | (simp (maxDischargeDepth := 8) [go_sem]; rfl)) (by first | (simp [go_sem]; done) | (simp (maxDischargeDepth := 8) [go_sem]; done) | (simp (maxDischargeDepth := 8) [go_sem]; rfl)) (by first | (simp [go_sem]; done) | (simp (maxDischargeDepth := 8) [go_sem]; done) | (simp (maxDischargeDepth := 8) [go_sem]; rfl)) (by first | (simp [go_sem]; done) | (simp (maxDischargeDepth := 8) [go_sem]; done) | (simp (maxDischargeDepth := 8) [go_sem]; rfl)) (by first | (simp [go_sem]; done) | (simp (maxDischargeDepth := 8) [go_sem]; done) | (simp (maxDischargeDepth := 8) [go_sem]; rfl)) (by first | (simp [go_sem]; done) | (simp (maxDischargeDepth := 8) [go_sem]; done) | (simp (maxDischargeDepth := 8) [go_sem]; rfl)) (by first | (simp [go_sem]; done) | (simp (maxDischargeDepth := 8) [go_sem]; done) | (simp (maxDischargeDepth := 8) [go_sem]; rfl)) (by first | (simp [go_sem]; done) | (simp (maxDischargeDepth := 8) [go_sem]; done) | (simp (maxDischargeDepth := 8) [go_sem]; rfl))) _
  have hb9 : Below w.heap.size w w9 := by rw [hw9]; exact (by repeat (first | with_reducible exact bel2 _ _ _ | with_reducible refine beld ?_ _ | (with_reducible refine Below.setCell ?_ ?_ _; rotate_left; exact (by first | (simp; done) | (simp; omega) | omega))))
  have hs9 : w.heap.size + 2 ≤ w9.heap.size := by rw [hw9]; simp
  clear hw9
  have cs0 := bs.c 0 rfl
  have cs1 := bs.c 1 rfl
  have cs2 := bs.c 2 rfl
  have cs3 := bs.c 3 rfl
  have cs4 := bs.c 4 rfl
  have cr0 := br.c 0 rfl
  have cr1 := br.c 1 rfl
  have cr2 := br.c 2 rfl
  have cr3 := br.c 3 rfl
  have cr4 := br.c 4 rfl
  have fs0 := bs.f 0 (by simp)
  have fs1 := bs.f 1 (by simp)
  have fs2 := bs.f 2 (by simp)
  have fs3 := bs.f 3 (by simp)
  have fs4 := bs.f 4 (by simp)
  have fr0 := br.f 0 (by simp)
  have fr1 := br.f 1 (by simp)
  have fr2 := br.f 2 (by simp)
  have fr3 := br.f 3 (by simp)
  have fr4 := br.f 4 (by simp)
  have HB9 := Lib.hid hb9
  clear hb9
  go_wp2_with fail
  refine (l01Fin_o _ hm7).mono ?_
  rintro e w' ⟨bb, hbb, rfl, q3, rfl⟩
  obtain rfl := hbb.symm.trans Ht2.out
  clear hbb
  go_wp2_with fail
  refine (l01Fin_o (X := (fop .mul .f32 (fop .mul .f32 (fop .add .f32 A4 X) A3) T)) _ (by first | assumption | exact Is32.c (by decide))).mono ?_
  rintro e w' ⟨bb, hbb, rfl, q4, rfl⟩
  obtain rfl := hbb.symm.trans Ht3.out
  clear hbb
  go_wp2_with fail
  exact bodyPost_ret (v := .tuple #[.agg #[.float .f32 a0, .float .f32 a1, .float .f32 a2, .float .f32 a3, .float .f32 m6], .float .f32 m7, .float .f32 m5, .bool true]) (by simp [results, Try.results138, go_sem, cs0, fs0, cs1, fs1, cs2, fs2, cs3, fs3, cs4, fs4, cr0, fr0, cr1, fr1, cr2, fr2, cr3, fr3, cr4, fr4]) rfl ⟨a0, a1, a2, a3, m6, m7, m5, rfl, ⟨h0, h1, h2, h3, hm6, hm7, (by first | assumption | exact Is32.c (by decide))⟩, (by repeat (first | with_reducible exact HB9.out | with_reducible refine beld ?_ _ | (with_reducible refine Below.setCell ?_ ?_ _; rotate_left; exact (by first | (simp; done) | (simp; omega) | omega))))⟩

set_option maxHeartbeats 4000000 in
theorem l03Step_0001 {A0 A1 A2 A3 A4 X T : Option Nat} {a0 a1 a2 a3 a4 x t : Nat} (w : World) (h0 : Is32 A0 a0) (h1 : Is32 A1 a1) (h2 : Is32 A2 a2) (h3 : Is32 A3 a3) (h4 : Is32 A4 a4) (hx : Is32 X x) (ht : Is32 T t) (hs : soilO A0 A1 A2 A3 A4 = true) (hc : fin32o (canO A0 A1 A4) = true) (hX : amtO X = true) (hT : posO T = true) (c1 : fcmp .lss .f32 (fop .mul .f32 (canO A0 A1 A4) T) X = false) (c2 : fcmp .lss .f32 (fop .sub .f32 A2 A4) X = false) (c3 : fcmp .gtr .f32 (fop .add .f32 A4 X) A2 = false) (c4 : fcmp .gtr .f32 (fop .mul .f32 (fop .mul .f32 (fop .add .f32 A4 X) A3) T) (fop .add .f32 A4 X) = true) :
    Calls Try.prog 138 #[.agg #[.float .f32 a0, .float .f32 a1, .float .f32 a2, .float .f32 a3, .float .f32 a4], .float .f32 x, .float .f32 t] w (StepB (tickO A0 A1 A2 A3 A4 X T) w) := by
  have eK : takenO A0 A1 A2 A4 X T = X := by simp only [takenO, minO, c1, c2, if_true, if_false, Bool.false_eq_true]
  have eW : wetO A2 A4 X = (fop .add .f32 A4 X) := by simp only [wetO, capO, c3, if_true, if_false, Bool.false_eq_true]
  have eG : goneO A3 (fop .add .f32 A4 X) T = (fop .add .f32 A4 X) := by simp only [goneO, capO, c4, if_true, if_false, Bool.false_eq_true]
  have eT : tickO A0 A1 A2 A3 A4 X T = ⟨A0, A1, A2, A3, (fop .sub .f32 (fop .add .f32 A4 X) (fop .add .f32 A4 X)), (fop .sub .f32 X X), (fop .add .f32 A4 X), true⟩ := by unfold tickO; rw [eK, eW, eG]
  have hfin := tick_fin h0 h1 h2 h3 h4 hx ht hs hc hX hT
  rw [eT] at hfin ⊢
  obtain ⟨t1, t2, t3⟩ := hfin
  have Ht1 := Lib.hid t1
  have Ht2 := Lib.hid t2
  have Ht3 := Lib.hid t3
  have Hc := Lib.hid hc
  clear t1 t2 t3 eT eK eW eG hs hc hX hT
  have C1 := Lib.hid c1
  have C2 := Lib.hid c2
  have C3 := Lib.hid c3
  have C4 := Lib.hid c4
  clear c1 c2 c3 c4
  go_enter Try.func138, Try.ntmps138
  go_wp2_with fail
  refine (l03Can_o _ _ (Bx.of5 (by first | (simp; done) | (simp; omega) | omega) (by first | (simp [go_sem]; done) | (simp (maxDischargeDepth := 8) [go_sem]; done) | (simp (maxDischargeDepth := 8) [go_sem]; rfl)) (by first | (simp [go_sem]; done) | (simp (maxDischargeDepth := 8) [go_sem]; done) | (simp (maxDischargeDepth := 8) [go_sem]; rfl)) (by first | (simp [go_sem]; done) | (simp (maxDischargeDepth := 8) [go_sem]; done) | (simp (maxDischargeDepth := 8) [go_sem]; rfl)) (by first | (simp [go_sem]; done) | (simp (maxDischargeDepth := 8) [go_sem]; done) | (simp (maxDischargeDepth := 8) [go_sem]; rfl)) (by first | (simp [go_sem]; done) | (simp (maxDischargeDepth := 8) [go_sem]; done) | (simp (maxDischargeDepth := 8) [go_sem]; rfl))) (by first | assumption | exact Is32.c (by decide)) (by first | assumption | exact Is32.c (by decide)) (by first | assumption | exact Is32.c (by decide)) (by first | assumption | exact Is32.c (by decide)) (by first | assumption | exact Is32.c (by decide))).mono ?_
  rintro e w' ⟨z0, rfl, hz0, q0, rfl⟩
  go_wp2_with fail
  refine (l01Fin_o _ hz0).mono ?_
  rintro e w' ⟨bb, hbb, rfl, q1, rfl⟩
  obtain rfl := hbb.symm.trans Hc.out
  clear hbb
  go_wp2_with fail
  refine at_f32 (fun R => Oper.upon _ _ _ _ _ (Result.andThen R _)) _ _ (by decide) (by first | assumption | exact Is32.c (by decide)) (by first | assumption | exact Is32.c (by decide)) ?_
  intro m1 nm1 hm1
  have o1 : (FloatKind.f32.format.order m1 x == some .lt) = false := by rw [Is32.ord hm1 hx]; exact C1.out
  go_wp2_with fail
  refine at_f32 (fun R => Oper.upon _ _ _ _ _ (Result.andThen R _)) _ _ (by decide) (by first | assumption | exact Is32.c (by decide)) (by first | assumption | exact Is32.c (by decide)) ?_
  intro m2 nm2 hm2
  have o2 : (FloatKind.f32.format.order m2 x == some .lt) = false := by rw [Is32.ord hm2 hx]; exact C2.out
  go_wp2_with fail
  refine at_f32 (fun R => Oper.upon _ _ _ _ _ (Result.andThen R _)) _ _ (by decide) (by first | assumption | exact Is32.c (by decide)) (by first | assumption | exact Is32.c (by decide)) ?_
  intro m3 nm3 hm3
  have o3 : (FloatKind.f32.format.order m3 a2 == some .gt) = false := by rw [Is32.ord hm3 h2]; exact C3.out
  go_wp2_with fail
  refine at_f32 (fun R => Oper.upon _ _ _ _ _ (Result.andThen R _)) _ _ (by decide) (by first | assumption | exact Is32.c (by decide)) (by first | assumption | exact Is32.c (by decide)) ?_
  intro m4 nm4 hm4
  go_wp2_with fail
  refine at_f32 (fun R => Oper.upon _ _ _ _ _ (Result.andThen R _)) _ _ (by decide) (by first | assumption | exact Is32.c (by decide)) (by first | assumption | exact Is32.c (by decide)) ?_
  intro m5 nm5 hm5
  have o4 : (FloatKind.f32.format.order m5 m3 == some .gt) = true := by rw [Is32.ord hm5 hm3]; exact C4.out
  go_wp2_with fail
  refine at_f32 (fun R => Oper.upon _ _ _ _ _ (Result.andThen R _)) _ _ (by decide) (by first | assumption | exact Is32.c (by decide)) (by first | assumption | exact Is32.c (by decide)) ?_
  intro m6 nm6 hm6
  go_wp2_with fail
  refine at_f32 (fun R => Oper.upon _ _ _ _ _ (Result.andThen R _)) _ _ (by decide) (by first | assumption | exact Is32.c (by decide)) (by first | assumption | exact Is32.c (by decide)) ?_
  intro m7 nm7 hm7
  go_wp2_with fail
  refine (l03Soil_o _ _ (Bx.of5 (by first | (simp; done) | (simp; omega) | omega) (by first | (simp [go_sem]; done) | (simp (maxDischargeDepth := 8) [go_sem]; done) | (simp (maxDischargeDepth := 8) [go_sem]; rfl)) (by first | (simp [go_sem]; done) | (simp (maxDischargeDepth := 8) [go_sem]; done) | (simp (maxDischargeDepth := 8) [go_sem]; rfl)) (by first | (simp [go_sem]; done) | (simp (maxDischargeDepth := 8) [go_sem]; done) | (simp (maxDischargeDepth := 8) [go_sem]; rfl)) (by first | (simp [go_sem]; done) | (simp (maxDischargeDepth := 8) [go_sem]; done) | (simp (maxDischargeDepth := 8) [go_sem]; rfl)) (by first | (simp [go_sem]; done) | (simp (maxDischargeDepth := 8) [go_sem]; done) | (simp (maxDischargeDepth := 8) [go_sem]; rfl))) (by first | assumption | exact Is32.c (by decide)) (by first | assumption | exact Is32.c (by decide)) (by first | assumption | exact Is32.c (by decide)) (by first | assumption | exact Is32.c (by decide)) (by first | assumption | exact Is32.c (by decide))).mono ?_
  rintro e w9 ⟨bb, hbb, rfl, q2, hw9⟩
  obtain rfl := hbb.symm.trans Ht1.out
  clear hbb
  have bs : Bw w9 w.heap.size [.float .f32 a0, .float .f32 a1, .float .f32 a2, .float .f32 a3, .float .f32 m6] := by rw [hw9]; exact Bw.drewN (Bw.of5 (by first | (simp; done) | (simp; omega) | omega) (by first | (simp [go_sem]; done) | (simp (maxDischargeDepth := 8) [go_sem]; done) | (simp (maxDischargeDepth := 8) [go_sem]; rfl)) (by first | (simp [go_sem]; done) | (simp (maxDischargeDepth := 8) [go_sem]; done) | (simp (maxDischargeDepth := 8) [go_sem]; rfl)) (by first | (simp [go_sem]; done) | (simp (maxDischargeDepth := 8) [go_sem]; done) | (simp (maxDischargeDepth := 8) [go_sem]; rfl)) (by first | (simp [go_sem]; done) | (simp (maxDischargeDepth := 8) [go_sem]; done) | (simp (maxDischargeDepth := 8) [go_sem]; rfl)) (by first | (simp [go_sem]; done) | (simp (maxDischargeDepth := 8) [go_sem]; done) | (simp (maxDischargeDepth := 8) [go_sem]; rfl)) (by first | (simp [go_sem]; done) | (simp (maxDischargeDepth := 8) [go_sem]; done) | (simp (maxDischargeDepth := 8) [go_sem]; rfl)) (by first | (simp [go_sem]; done) | (simp (maxDischargeDepth := 8) [go_sem]; done) | (simp (maxDischargeDepth := 8) [go_sem]; rfl)) (by first | (simp [go_sem]; done) | (simp (maxDischargeDepth := 8) [go_sem]; done) | (simp (maxDischargeDepth := 8) [go_sem]; rfl)) (by first | (simp [go_sem]; done) | (simp (maxDischargeDepth := 8) [go_sem]; done) | (simp (maxDischargeDepth := 8) [go_sem]; rfl)) (by first | (simp [go_sem]; done) | (simp (maxDischargeDepth := 8) [go_sem]; done) | (simp (maxDischargeDepth := 8) [go_sem]; rfl))) _
  have br : Bw w9 (w.heap.size + 1) [.float .f32 0, .float .f32 0, .float .f32 0, .float .f32 0, .float .f32 0] := by rw [hw9]; exact Bw.drewN (Bw.of5 (by first | (simp; done) | (simp; omega) | omega) (by first | (simp [go_sem]; done) | (simp (maxDischargeDepth := 8) [go_sem]; done) | (simp (maxDischargeDepth := 8) [go_sem]; rfl)) (by first | (simp [go_sem]; done) | (simp (maxDischargeDepth := 8) [go_sem]; done) | (simp (maxDischargeDepth := 8) [go_sem]; rfl)) (by first | (simp [go_sem]; done) | (simp (maxDischargeDepth := 8) [go_sem]; done) | (simp (maxDischargeDepth := 8) [go_sem]; rfl)) (by first | (simp [go_sem]; done) | (simp (maxDischargeDepth := 8) [go_sem]; done) | (simp (maxDischargeDepth := 8) [go_sem]; rfl)) (by first | (simp [go_sem]; done) | (simp (maxDischargeDepth := 8) [go_sem]; done) | (simp (maxDischargeDepth := 8) [go_sem]; rfl)) (by first | (simp [go_sem]; done) | (simp (maxDischargeDepth := 8) [go_sem]; done) | (simp (maxDischargeDepth := 8) [go_sem]; rfl)) (by first | (simp [go_sem]; done) | (simp (maxDischargeDepth := 8) [go_sem]; done) | (simp (maxDischargeDepth := 8) [go_sem]; rfl)) (by first | (simp [go_sem]; done) | (simp (maxDischargeDepth := 8) [go_sem]; done) | (simp (maxDischargeDepth := 8) [go_sem]; rfl)) (by first | (simp [go_sem]; done) | (simp (maxDischargeDepth := 8) [go_sem]; done) | (simp (maxDischargeDepth := 8) [go_sem]; rfl)) (by first | (simp [go_sem]; done) | (simp (maxDischargeDepth := 8) [go_sem]; done) | (simp (maxDischargeDepth := 8) [go_sem]; rfl))) _
  have hb9 : Below w.heap.size w w9 := by rw [hw9]; exact (by repeat (first | with_reducible exact bel2 _ _ _ | with_reducible refine beld ?_ _ | (with_reducible refine Below.setCell ?_ ?_ _; rotate_left; exact (by first | (simp; done) | (simp; omega) | omega))))
  have hs9 : w.heap.size + 2 ≤ w9.heap.size := by rw [hw9]; simp
  clear hw9
  have cs0 := bs.c 0 rfl
  have cs1 := bs.c 1 rfl
  have cs2 := bs.c 2 rfl
  have cs3 := bs.c 3 rfl
  have cs4 := bs.c 4 rfl
  have cr0 := br.c 0 rfl
  have cr1 := br.c 1 rfl
  have cr2 := br.c 2 rfl
  have cr3 := br.c 3 rfl
  have cr4 := br.c 4 rfl
  have fs0 := bs.f 0 (by simp)
  have fs1 := bs.f 1 (by simp)
  have fs2 := bs.f 2 (by simp)
  have fs3 := bs.f 3 (by simp)
  have fs4 := bs.f 4 (by simp)
  have fr0 := br.f 0 (by simp)
  have fr1 := br.f 1 (by simp)
  have fr2 := br.f 2 (by simp)
  have fr3 := br.f 3 (by simp)
  have fr4 := br.f 4 (by simp)
  have HB9 := Lib.hid hb9
  clear hb9
  go_wp2_with fail
  refine (l01Fin_o _ hm7).mono ?_
  rintro e w' ⟨bb, hbb, rfl, q3, rfl⟩
  obtain rfl := hbb.symm.trans Ht2.out
  clear hbb
  go_wp2_with fail
  refine (l01Fin_o (X := (fop .add .f32 A4 X)) _ (by first | assumption | exact Is32.c (by decide))).mono ?_
  rintro e w' ⟨bb, hbb, rfl, q4, rfl⟩
  obtain rfl := hbb.symm.trans Ht3.out
  clear hbb
  go_wp2_with fail
  exact bodyPost_ret (v := .tuple #[.agg #[.float .f32 a0, .float .f32 a1, .float .f32 a2, .float .f32 a3, .float .f32 m6], .float .f32 m7, .float .f32 m3, .bool true]) (by simp [results, Try.results138, go_sem, cs0, fs0, cs1, fs1, cs2, fs2, cs3, fs3, cs4, fs4, cr0, fr0, cr1, fr1, cr2, fr2, cr3, fr3, cr4, fr4]) rfl ⟨a0, a1, a2, a3, m6, m7, m3, rfl, ⟨h0, h1, h2, h3, hm6, hm7, (by first | assumption | exact Is32.c (by decide))⟩, (by repeat (first | with_reducible exact HB9.out | with_reducible refine beld ?_ _ | (with_reducible refine Below.setCell ?_ ?_ _; rotate_left; exact (by first | (simp; done) | (simp; omega) | omega))))⟩

set_option maxHeartbeats 4000000 in
theorem l03Step_0010 {A0 A1 A2 A3 A4 X T : Option Nat} {a0 a1 a2 a3 a4 x t : Nat} (w : World) (h0 : Is32 A0 a0) (h1 : Is32 A1 a1) (h2 : Is32 A2 a2) (h3 : Is32 A3 a3) (h4 : Is32 A4 a4) (hx : Is32 X x) (ht : Is32 T t) (hs : soilO A0 A1 A2 A3 A4 = true) (hc : fin32o (canO A0 A1 A4) = true) (hX : amtO X = true) (hT : posO T = true) (c1 : fcmp .lss .f32 (fop .mul .f32 (canO A0 A1 A4) T) X = false) (c2 : fcmp .lss .f32 (fop .sub .f32 A2 A4) X = false) (c3 : fcmp .gtr .f32 (fop .add .f32 A4 X) A2 = true) (c4 : fcmp .gtr .f32 (fop .mul .f32 (fop .mul .f32 A2 A3) T) A2 = false) :
    Calls Try.prog 138 #[.agg #[.float .f32 a0, .float .f32 a1, .float .f32 a2, .float .f32 a3, .float .f32 a4], .float .f32 x, .float .f32 t] w (StepB (tickO A0 A1 A2 A3 A4 X T) w) := by
  have eK : takenO A0 A1 A2 A4 X T = X := by simp only [takenO, minO, c1, c2, if_true, if_false, Bool.false_eq_true]
  have eW : wetO A2 A4 X = A2 := by simp only [wetO, capO, c3, if_true, if_false, Bool.false_eq_true]
  have eG : goneO A3 A2 T = (fop .mul .f32 (fop .mul .f32 A2 A3) T) := by simp only [goneO, capO, c4, if_true, if_false, Bool.false_eq_true]
  have eT : tickO A0 A1 A2 A3 A4 X T = ⟨A0, A1, A2, A3, (fop .sub .f32 A2 (fop .mul .f32 (fop .mul .f32 A2 A3) T)), (fop .sub .f32 X X), (fop .mul .f32 (fop .mul .f32 A2 A3) T), true⟩ := by unfold tickO; rw [eK, eW, eG]
  have hfin := tick_fin h0 h1 h2 h3 h4 hx ht hs hc hX hT
  rw [eT] at hfin ⊢
  obtain ⟨t1, t2, t3⟩ := hfin
  have Ht1 := Lib.hid t1
  have Ht2 := Lib.hid t2
  have Ht3 := Lib.hid t3
  have Hc := Lib.hid hc
  clear t1 t2 t3 eT eK eW eG hs hc hX hT
  have C1 := Lib.hid c1
  have C2 := Lib.hid c2
  have C3 := Lib.hid c3
  have C4 := Lib.hid c4
  clear c1 c2 c3 c4
  go_enter Try.func138, Try.ntmps138
  go_wp2_with fail
  refine (l03Can_o _ _ (Bx.of5 (by first | (simp; done) | (simp; omega) | omega) (by first | (simp [go_sem]; done) | (simp (maxDischargeDepth := 8) [go_sem]; done) | (simp (maxDischargeDepth := 8) [go_sem]; rfl)) (by first | (simp [go_sem]; done) | (simp (maxDischargeDepth := 8) [go_sem]; done) | (simp (maxDischargeDepth := 8) [go_sem]; rfl)) (by first | (simp [go_sem]; done) | (simp (maxDischargeDepth := 8) [go_sem]; done) | (simp (maxDischargeDepth := 8) [go_sem]; rfl)) (by first | (simp [go_sem]; done) | (simp (maxDischargeDepth := 8) [go_sem]; done) | (simp (maxDischargeDepth := 8) [go_sem]; rfl)) (by first | (simp [go_sem]; done) | (simp (maxDischargeDepth := 8) [go_sem]; done) | (simp (maxDischargeDepth := 8) [go_sem]; rfl))) (by first | assumption | exact Is32.c (by decide)) (by first | assumption | exact Is32.c (by decide)) (by first | assumption | exact Is32.c (by decide)) (by first | assumption | exact Is32.c (by decide)) (by first | assumption | exact Is32.c (by decide))).mono ?_
  rintro e w' ⟨z0, rfl, hz0, q0, rfl⟩
  go_wp2_with fail
  refine (l01Fin_o _ hz0).mono ?_
  rintro e w' ⟨bb, hbb, rfl, q1, rfl⟩
  obtain rfl := hbb.symm.trans Hc.out
  clear hbb
  go_wp2_with fail
  refine at_f32 (fun R => Oper.upon _ _ _ _ _ (Result.andThen R _)) _ _ (by decide) (by first | assumption | exact Is32.c (by decide)) (by first | assumption | exact Is32.c (by decide)) ?_
  intro m1 nm1 hm1
  have o1 : (FloatKind.f32.format.order m1 x == some .lt) = false := by rw [Is32.ord hm1 hx]; exact C1.out
  go_wp2_with fail
  refine at_f32 (fun R => Oper.upon _ _ _ _ _ (Result.andThen R _)) _ _ (by decide) (by first | assumption | exact Is32.c (by decide)) (by first | assumption | exact Is32.c (by decide)) ?_
  intro m2 nm2 hm2
  have o2 : (FloatKind.f32.format.order m2 x == some .lt) = false := by rw [Is32.ord hm2 hx]; exact C2.out
  go_wp2_with fail
  refine at_f32 (fun R => Oper.upon _ _ _ _ _ (Result.andThen R _)) _ _ (by decide) (by first | assumption | exact Is32.c (by decide)) (by first | assumption | exact Is32.c (by decide)) ?_
  intro m3 nm3 hm3
  have o3 : (FloatKind.f32.format.order m3 a2 == some .gt) = true := by rw [Is32.ord hm3 h2]; exact C3.out
  go_wp2_with fail
  refine at_f32 (fun R => Oper.upon _ _ _ _ _ (Result.andThen R _)) _ _ (by decide) (by first | assumption | exact Is32.c (by decide)) (by first | assumption | exact Is32.c (by decide)) ?_
  intro m4 nm4 hm4
  go_wp2_with fail
  refine at_f32 (fun R => Oper.upon _ _ _ _ _ (Result.andThen R _)) _ _ (by decide) (by first | assumption | exact Is32.c (by decide)) (by first | assumption | exact Is32.c (by decide)) ?_
  intro m5 nm5 hm5
  have o4 : (FloatKind.f32.format.order m5 a2 == some .gt) = false := by rw [Is32.ord hm5 h2]; exact C4.out
  go_wp2_with fail
  refine at_f32 (fun R => Oper.upon _ _ _ _ _ (Result.andThen R _)) _ _ (by decide) (by first | assumption | exact Is32.c (by decide)) (by first | assumption | exact Is32.c (by decide)) ?_
  intro m6 nm6 hm6
  go_wp2_with fail
  refine at_f32 (fun R => Oper.upon _ _ _ _ _ (Result.andThen R _)) _ _ (by decide) (by first | assumption | exact Is32.c (by decide)) (by first | assumption | exact Is32.c (by decide)) ?_
  intro m7 nm7 hm7
  go_wp2_with fail
  refine (l03Soil_o _ _ (Bx.of5 (by first | (simp; done) | (simp; omega) | omega) (by first | (simp [go_sem]; done) | (simp (maxDischargeDepth := 8) [go_sem]; done) | (simp (maxDischargeDepth := 8) [go_sem]; rfl)) (by first | (simp [go_sem]; done) | (simp (maxDischargeDepth := 8) [go_sem]; done) | (simp (maxDischargeDepth := 8) [go_sem]; rfl)) (by first | (simp [go_sem]; done) | (simp (maxDischargeDepth := 8) [go_sem]; done) | (simp (maxDischargeDepth := 8) [go_sem]; rfl)) (by first | (simp [go_sem]; done) | (simp (maxDischargeDepth := 8) [go_sem]; done) | (simp (maxDischargeDepth := 8) [go_sem]; rfl)) (by first | (simp [go_sem]; done) | (simp (maxDischargeDepth := 8) [go_sem]; done) | (simp (maxDischargeDepth := 8) [go_sem]; rfl))) (by first | assumption | exact Is32.c (by decide)) (by first | assumption | exact Is32.c (by decide)) (by first | assumption | exact Is32.c (by decide)) (by first | assumption | exact Is32.c (by decide)) (by first | assumption | exact Is32.c (by decide))).mono ?_
  rintro e w9 ⟨bb, hbb, rfl, q2, hw9⟩
  obtain rfl := hbb.symm.trans Ht1.out
  clear hbb
  have bs : Bw w9 w.heap.size [.float .f32 a0, .float .f32 a1, .float .f32 a2, .float .f32 a3, .float .f32 m6] := by rw [hw9]; exact Bw.drewN (Bw.of5 (by first | (simp; done) | (simp; omega) | omega) (by first | (simp [go_sem]; done) | (simp (maxDischargeDepth := 8) [go_sem]; done) | (simp (maxDischargeDepth := 8) [go_sem]; rfl)) (by first | (simp [go_sem]; done) | (simp (maxDischargeDepth := 8) [go_sem]; done) | (simp (maxDischargeDepth := 8) [go_sem]; rfl)) (by first | (simp [go_sem]; done) | (simp (maxDischargeDepth := 8) [go_sem]; done) | (simp (maxDischargeDepth := 8) [go_sem]; rfl)) (by first | (simp [go_sem]; done) | (simp (maxDischargeDepth := 8) [go_sem]; done) | (simp (maxDischargeDepth := 8) [go_sem]; rfl)) (by first | (simp [go_sem]; done) | (simp (maxDischargeDepth := 8) [go_sem]; done) | (simp (maxDischargeDepth := 8) [go_sem]; rfl)) (by first | (simp [go_sem]; done) | (simp (maxDischargeDepth := 8) [go_sem]; done) | (simp (maxDischargeDepth := 8) [go_sem]; rfl)) (by first | (simp [go_sem]; done) | (simp (maxDischargeDepth := 8) [go_sem]; done) | (simp (maxDischargeDepth := 8) [go_sem]; rfl)) (by first | (simp [go_sem]; done) | (simp (maxDischargeDepth := 8) [go_sem]; done) | (simp (maxDischargeDepth := 8) [go_sem]; rfl)) (by first | (simp [go_sem]; done) | (simp (maxDischargeDepth := 8) [go_sem]; done) | (simp (maxDischargeDepth := 8) [go_sem]; rfl)) (by first | (simp [go_sem]; done) | (simp (maxDischargeDepth := 8) [go_sem]; done) | (simp (maxDischargeDepth := 8) [go_sem]; rfl))) _
  have br : Bw w9 (w.heap.size + 1) [.float .f32 0, .float .f32 0, .float .f32 0, .float .f32 0, .float .f32 0] := by rw [hw9]; exact Bw.drewN (Bw.of5 (by first | (simp; done) | (simp; omega) | omega) (by first | (simp [go_sem]; done) | (simp (maxDischargeDepth := 8) [go_sem]; done) | (simp (maxDischargeDepth := 8) [go_sem]; rfl)) (by first | (simp [go_sem]; done) | (simp (maxDischargeDepth := 8) [go_sem]; done) | (simp (maxDischargeDepth := 8) [go_sem]; rfl)) (by first | (simp [go_sem]; done) | (simp (maxDischargeDepth := 8) [go_sem]; done) | (simp (maxDischargeDepth := 8) [go_sem]; rfl)) (by first | (simp [go_sem]; done) | (simp (maxDischargeDepth := 8) [go_sem]; done) | (simp (maxDischargeDepth := 8) [go_sem]; rfl)) (by first | (simp [go_sem]; done) | (simp (maxDischargeDepth := 8) [go_sem]; done) | (simp (maxDischargeDepth := 8) [go_sem]; rfl)) (by first | (simp [go_sem]; done) | (simp (maxDischargeDepth := 8) [go_sem]; done) | (simp (maxDischargeDepth := 8) [go_sem]; rfl)) (by first | (simp [go_sem]; done) | (simp (maxDischargeDepth := 8) [go_sem]; done) | (simp (maxDischargeDepth := 8) [go_sem]; rfl)) (by first | (simp [go_sem]; done) | (simp (maxDischargeDepth := 8) [go_sem]; done) | (simp (maxDischargeDepth := 8) [go_sem]; rfl)) (by first | (simp [go_sem]; done) | (simp (maxDischargeDepth := 8) [go_sem]; done) | (simp (maxDischargeDepth := 8) [go_sem]; rfl)) (by first | (simp [go_sem]; done) | (simp (maxDischargeDepth := 8) [go_sem]; done) | (simp (maxDischargeDepth := 8) [go_sem]; rfl))) _
  have hb9 : Below w.heap.size w w9 := by rw [hw9]; exact (by repeat (first | with_reducible exact bel2 _ _ _ | with_reducible refine beld ?_ _ | (with_reducible refine Below.setCell ?_ ?_ _; rotate_left; exact (by first | (simp; done) | (simp; omega) | omega))))
  have hs9 : w.heap.size + 2 ≤ w9.heap.size := by rw [hw9]; simp
  clear hw9
  have cs0 := bs.c 0 rfl
  have cs1 := bs.c 1 rfl
  have cs2 := bs.c 2 rfl
  have cs3 := bs.c 3 rfl
  have cs4 := bs.c 4 rfl
  have cr0 := br.c 0 rfl
  have cr1 := br.c 1 rfl
  have cr2 := br.c 2 rfl
  have cr3 := br.c 3 rfl
  have cr4 := br.c 4 rfl
  have fs0 := bs.f 0 (by simp)
  have fs1 := bs.f 1 (by simp)
  have fs2 := bs.f 2 (by simp)
  have fs3 := bs.f 3 (by simp)
  have fs4 := bs.f 4 (by simp)
  have fr0 := br.f 0 (by simp)
  have fr1 := br.f 1 (by simp)
  have fr2 := br.f 2 (by simp)
  have fr3 := br.f 3 (by simp)
  have fr4 := br.f 4 (by simp)
  have HB9 := Lib.hid hb9
  clear hb9
  go_wp2_with fail
  refine (l01Fin_o _ hm7).mono ?_
  rintro e w' ⟨bb, hbb, rfl, q3, rfl⟩
  obtain rfl := hbb.symm.trans Ht2.out
  clear hbb
  go_wp2_with fail
  refine (l01Fin_o (X := (fop .mul .f32 (fop .mul .f32 A2 A3) T)) _ (by first | assumption | exact Is32.c (by decide))).mono ?_
  rintro e w' ⟨bb, hbb, rfl, q4, rfl⟩
  obtain rfl := hbb.symm.trans Ht3.out
  clear hbb
  go_wp2_with fail
  exact bodyPost_ret (v := .tuple #[.agg #[.float .f32 a0, .float .f32 a1, .float .f32 a2, .float .f32 a3, .float .f32 m6], .float .f32 m7, .float .f32 m5, .bool true]) (by simp [results, Try.results138, go_sem, cs0, fs0, cs1, fs1, cs2, fs2, cs3, fs3, cs4, fs4, cr0, fr0, cr1, fr1, cr2, fr2, cr3, fr3, cr4, fr4]) rfl ⟨a0, a1, a2, a3, m6, m7, m5, rfl, ⟨h0, h1, h2, h3, hm6, hm7, (by first | assumption | exact Is32.c (by decide))⟩, (by repeat (first | with_reducible exact HB9.out | with_reducible refine beld ?_ _ | (with_reducible refine Below.setCell ?_ ?_ _; rotate_left; exact (by first | (simp; done) | (simp; omega) | omega))))⟩

set_option maxHeartbeats 4000000 in
theorem l03Step_0011 {A0 A1 A2 A3 A4 X T : Option Nat} {a0 a1 a2 a3 a4 x t : Nat} (w : World) (h0 : Is32 A0 a0) (h1 : Is32 A1 a1) (h2 : Is32 A2 a2) (h3 : Is32 A3 a3) (h4 : Is32 A4 a4) (hx : Is32 X x) (ht : Is32 T t) (hs : soilO A0 A1 A2 A3 A4 = true) (hc : fin32o (canO A0 A1 A4) = true) (hX : amtO X = true) (hT : posO T = true) (c1 : fcmp .lss .f32 (fop .mul .f32 (canO A0 A1 A4) T) X = false) (c2 : fcmp .lss .f32 (fop .sub .f32 A2 A4) X = false) (c3 : fcmp .gtr .f32 (fop .add .f32 A4 X) A2 = true) (c4 : fcmp .gtr .f32 (fop .mul .f32 (fop .mul .f32 A2 A3) T) A2 = true) :
    Calls Try.prog 138 #[.agg #[.float .f32 a0, .float .f32 a1, .float .f32 a2, .float .f32 a3, .float .f32 a4], .float .f32 x, .float .f32 t] w (StepB (tickO A0 A1 A2 A3 A4 X T) w) := by
  have eK : takenO A0 A1 A2 A4 X T = X := by simp only [takenO, minO, c1, c2, if_true, if_false, Bool.false_eq_true]
  have eW : wetO A2 A4 X = A2 := by simp only [wetO, capO, c3, if_true, if_false, Bool.false_eq_true]
  have eG : goneO A3 A2 T = A2 := by simp only [goneO, capO, c4, if_true, if_false, Bool.false_eq_true]
  have eT : tickO A0 A1 A2 A3 A4 X T = ⟨A0, A1, A2, A3, (fop .sub .f32 A2 A2), (fop .sub .f32 X X), A2, true⟩ := by unfold tickO; rw [eK, eW, eG]
  have hfin := tick_fin h0 h1 h2 h3 h4 hx ht hs hc hX hT
  rw [eT] at hfin ⊢
  obtain ⟨t1, t2, t3⟩ := hfin
  have Ht1 := Lib.hid t1
  have Ht2 := Lib.hid t2
  have Ht3 := Lib.hid t3
  have Hc := Lib.hid hc
  clear t1 t2 t3 eT eK eW eG hs hc hX hT
  have C1 := Lib.hid c1
  have C2 := Lib.hid c2
  have C3 := Lib.hid c3
  have C4 := Lib.hid c4
  clear c1 c2 c3 c4
  go_enter Try.func138, Try.ntmps138
  go_wp2_with fail
  refine (l03Can_o _ _ (Bx.of5 (by first | (simp; done) | (simp; omega) | omega) (by first | (simp [go_sem]; done) | (simp (maxDischargeDepth := 8) [go_sem]; done) | (simp (maxDischargeDepth := 8) [go_sem]; rfl)) (by first | (simp [go_sem]; done) | (simp (maxDischargeDepth := 8) [go_sem]; done) | (simp (maxDischargeDepth := 8) [go_sem]; rfl)) (by first | (simp [go_sem]; done) | (simp (maxDischargeDepth := 8) [go_sem]; done) | (simp (maxDischargeDepth := 8) [go_sem]; rfl)) (by first | (simp [go_sem]; done) | (simp (maxDischargeDepth := 8) [go_sem]; done) | (simp (maxDischargeDepth := 8) [go_sem]; rfl)) (by first | (simp [go_sem]; done) | (simp (maxDischargeDepth := 8) [go_sem]; done) | (simp (maxDischargeDepth := 8) [go_sem]; rfl))) (by first | assumption | exact Is32.c (by decide)) (by first | assumption | exact Is32.c (by decide)) (by first | assumption | exact Is32.c (by decide)) (by first | assumption | exact Is32.c (by decide)) (by first | assumption | exact Is32.c (by decide))).mono ?_
  rintro e w' ⟨z0, rfl, hz0, q0, rfl⟩
  go_wp2_with fail
  refine (l01Fin_o _ hz0).mono ?_
  rintro e w' ⟨bb, hbb, rfl, q1, rfl⟩
  obtain rfl := hbb.symm.trans Hc.out
  clear hbb
  go_wp2_with fail
  refine at_f32 (fun R => Oper.upon _ _ _ _ _ (Result.andThen R _)) _ _ (by decide) (by first | assumption | exact Is32.c (by decide)) (by first | assumption | exact Is32.c (by decide)) ?_
  intro m1 nm1 hm1
  have o1 : (FloatKind.f32.format.order m1 x == some .lt) = false := by rw [Is32.ord hm1 hx]; exact C1.out
  go_wp2_with fail
  refine at_f32 (fun R => Oper.upon _ _ _ _ _ (Result.andThen R _)) _ _ (by decide) (by first | assumption | exact Is32.c (by decide)) (by first | assumption | exact Is32.c (by decide)) ?_
  intro m2 nm2 hm2
  have o2 : (FloatKind.f32.format.order m2 x == some .lt) = false := by rw [Is32.ord hm2 hx]; exact C2.out
  go_wp2_with fail
  refine at_f32 (fun R => Oper.upon _ _ _ _ _ (Result.andThen R _)) _ _ (by decide) (by first | assumption | exact Is32.c (by decide)) (by first | assumption | exact Is32.c (by decide)) ?_
  intro m3 nm3 hm3
  have o3 : (FloatKind.f32.format.order m3 a2 == some .gt) = true := by rw [Is32.ord hm3 h2]; exact C3.out
  go_wp2_with fail
  refine at_f32 (fun R => Oper.upon _ _ _ _ _ (Result.andThen R _)) _ _ (by decide) (by first | assumption | exact Is32.c (by decide)) (by first | assumption | exact Is32.c (by decide)) ?_
  intro m4 nm4 hm4
  go_wp2_with fail
  refine at_f32 (fun R => Oper.upon _ _ _ _ _ (Result.andThen R _)) _ _ (by decide) (by first | assumption | exact Is32.c (by decide)) (by first | assumption | exact Is32.c (by decide)) ?_
  intro m5 nm5 hm5
  have o4 : (FloatKind.f32.format.order m5 a2 == some .gt) = true := by rw [Is32.ord hm5 h2]; exact C4.out
  go_wp2_with fail
  refine at_f32 (fun R => Oper.upon _ _ _ _ _ (Result.andThen R _)) _ _ (by decide) (by first | assumption | exact Is32.c (by decide)) (by first | assumption | exact Is32.c (by decide)) ?_
  intro m6 nm6 hm6
  go_wp2_with fail
  refine at_f32 (fun R => Oper.upon _ _ _ _ _ (Result.andThen R _)) _ _ (by decide) (by first | assumption | exact Is32.c (by decide)) (by first | assumption | exact Is32.c (by decide)) ?_
  intro m7 nm7 hm7
  go_wp2_with fail
  refine (l03Soil_o _ _ (Bx.of5 (by first | (simp; done) | (simp; omega) | omega) (by first | (simp [go_sem]; done) | (simp (maxDischargeDepth := 8) [go_sem]; done) | (simp (maxDischargeDepth := 8) [go_sem]; rfl)) (by first | (simp [go_sem]; done) | (simp (maxDischargeDepth := 8) [go_sem]; done) | (simp (maxDischargeDepth := 8) [go_sem]; rfl)) (by first | (simp [go_sem]; done) | (simp (maxDischargeDepth := 8) [go_sem]; done) | (simp (maxDischargeDepth := 8) [go_sem]; rfl)) (by first | (simp [go_sem]; done) | (simp (maxDischargeDepth := 8) [go_sem]; done) | (simp (maxDischargeDepth := 8) [go_sem]; rfl)) (by first | (simp [go_sem]; done) | (simp (maxDischargeDepth := 8) [go_sem]; done) | (simp (maxDischargeDepth := 8) [go_sem]; rfl))) (by first | assumption | exact Is32.c (by decide)) (by first | assumption | exact Is32.c (by decide)) (by first | assumption | exact Is32.c (by decide)) (by first | assumption | exact Is32.c (by decide)) (by first | assumption | exact Is32.c (by decide))).mono ?_
  rintro e w9 ⟨bb, hbb, rfl, q2, hw9⟩
  obtain rfl := hbb.symm.trans Ht1.out
  clear hbb
  have bs : Bw w9 w.heap.size [.float .f32 a0, .float .f32 a1, .float .f32 a2, .float .f32 a3, .float .f32 m6] := by rw [hw9]; exact Bw.drewN (Bw.of5 (by first | (simp; done) | (simp; omega) | omega) (by first | (simp [go_sem]; done) | (simp (maxDischargeDepth := 8) [go_sem]; done) | (simp (maxDischargeDepth := 8) [go_sem]; rfl)) (by first | (simp [go_sem]; done) | (simp (maxDischargeDepth := 8) [go_sem]; done) | (simp (maxDischargeDepth := 8) [go_sem]; rfl)) (by first | (simp [go_sem]; done) | (simp (maxDischargeDepth := 8) [go_sem]; done) | (simp (maxDischargeDepth := 8) [go_sem]; rfl)) (by first | (simp [go_sem]; done) | (simp (maxDischargeDepth := 8) [go_sem]; done) | (simp (maxDischargeDepth := 8) [go_sem]; rfl)) (by first | (simp [go_sem]; done) | (simp (maxDischargeDepth := 8) [go_sem]; done) | (simp (maxDischargeDepth := 8) [go_sem]; rfl)) (by first | (simp [go_sem]; done) | (simp (maxDischargeDepth := 8) [go_sem]; done) | (simp (maxDischargeDepth := 8) [go_sem]; rfl)) (by first | (simp [go_sem]; done) | (simp (maxDischargeDepth := 8) [go_sem]; done) | (simp (maxDischargeDepth := 8) [go_sem]; rfl)) (by first | (simp [go_sem]; done) | (simp (maxDischargeDepth := 8) [go_sem]; done) | (simp (maxDischargeDepth := 8) [go_sem]; rfl)) (by first | (simp [go_sem]; done) | (simp (maxDischargeDepth := 8) [go_sem]; done) | (simp (maxDischargeDepth := 8) [go_sem]; rfl)) (by first | (simp [go_sem]; done) | (simp (maxDischargeDepth := 8) [go_sem]; done) | (simp (maxDischargeDepth := 8) [go_sem]; rfl))) _
  have br : Bw w9 (w.heap.size + 1) [.float .f32 0, .float .f32 0, .float .f32 0, .float .f32 0, .float .f32 0] := by rw [hw9]; exact Bw.drewN (Bw.of5 (by first | (simp; done) | (simp; omega) | omega) (by first | (simp [go_sem]; done) | (simp (maxDischargeDepth := 8) [go_sem]; done) | (simp (maxDischargeDepth := 8) [go_sem]; rfl)) (by first | (simp [go_sem]; done) | (simp (maxDischargeDepth := 8) [go_sem]; done) | (simp (maxDischargeDepth := 8) [go_sem]; rfl)) (by first | (simp [go_sem]; done) | (simp (maxDischargeDepth := 8) [go_sem]; done) | (simp (maxDischargeDepth := 8) [go_sem]; rfl)) (by first | (simp [go_sem]; done) | (simp (maxDischargeDepth := 8) [go_sem]; done) | (simp (maxDischargeDepth := 8) [go_sem]; rfl)) (by first | (simp [go_sem]; done) | (simp (maxDischargeDepth := 8) [go_sem]; done) | (simp (maxDischargeDepth := 8) [go_sem]; rfl)) (by first | (simp [go_sem]; done) | (simp (maxDischargeDepth := 8) [go_sem]; done) | (simp (maxDischargeDepth := 8) [go_sem]; rfl)) (by first | (simp [go_sem]; done) | (simp (maxDischargeDepth := 8) [go_sem]; done) | (simp (maxDischargeDepth := 8) [go_sem]; rfl)) (by first | (simp [go_sem]; done) | (simp (maxDischargeDepth := 8) [go_sem]; done) | (simp (maxDischargeDepth := 8) [go_sem]; rfl)) (by first | (simp [go_sem]; done) | (simp (maxDischargeDepth := 8) [go_sem]; done) | (simp (maxDischargeDepth := 8) [go_sem]; rfl)) (by first | (simp [go_sem]; done) | (simp (maxDischargeDepth := 8) [go_sem]; done) | (simp (maxDischargeDepth := 8) [go_sem]; rfl))) _
  have hb9 : Below w.heap.size w w9 := by rw [hw9]; exact (by repeat (first | with_reducible exact bel2 _ _ _ | with_reducible refine beld ?_ _ | (with_reducible refine Below.setCell ?_ ?_ _; rotate_left; exact (by first | (simp; done) | (simp; omega) | omega))))
  have hs9 : w.heap.size + 2 ≤ w9.heap.size := by rw [hw9]; simp
  clear hw9
  have cs0 := bs.c 0 rfl
  have cs1 := bs.c 1 rfl
  have cs2 := bs.c 2 rfl
  have cs3 := bs.c 3 rfl
  have cs4 := bs.c 4 rfl
  have cr0 := br.c 0 rfl
  have cr1 := br.c 1 rfl
  have cr2 := br.c 2 rfl
  have cr3 := br.c 3 rfl
  have cr4 := br.c 4 rfl
  have fs0 := bs.f 0 (by simp)
  have fs1 := bs.f 1 (by simp)
  have fs2 := bs.f 2 (by simp)
  have fs3 := bs.f 3 (by simp)
  have fs4 := bs.f 4 (by simp)
  have fr0 := br.f 0 (by simp)
  have fr1 := br.f 1 (by simp)
  have fr2 := br.f 2 (by simp)
  have fr3 := br.f 3 (by simp)
  have fr4 := br.f 4 (by simp)
  have HB9 := Lib.hid hb9
  clear hb9
  go_wp2_with fail
  refine (l01Fin_o _ hm7).mono ?_
  rintro e w' ⟨bb, hbb, rfl, q3, rfl⟩
  obtain rfl := hbb.symm.trans Ht2.out
  clear hbb
  go_wp2_with fail
  refine (l01Fin_o (X := A2) _ (by first | assumption | exact Is32.c (by decide))).mono ?_
  rintro e w' ⟨bb, hbb, rfl, q4, rfl⟩
  obtain rfl := hbb.symm.trans Ht3.out
  clear hbb
  go_wp2_with fail
  exact bodyPost_ret (v := .tuple #[.agg #[.float .f32 a0, .float .f32 a1, .float .f32 a2, .float .f32 a3, .float .f32 m6], .float .f32 m7, .float .f32 a2, .bool true]) (by simp [results, Try.results138, go_sem, cs0, fs0, cs1, fs1, cs2, fs2, cs3, fs3, cs4, fs4, cr0, fr0, cr1, fr1, cr2, fr2, cr3, fr3, cr4, fr4]) rfl ⟨a0, a1, a2, a3, m6, m7, a2, rfl, ⟨h0, h1, h2, h3, hm6, hm7, (by first | assumption | exact Is32.c (by decide))⟩, (by repeat (first | with_reducible exact HB9.out | with_reducible refine beld ?_ _ | (with_reducible refine Below.setCell ?_ ?_ _; rotate_left; exact (by first | (simp; done) | (simp; omega) | omega))))⟩

end Go.Proofs.Ytdoecpghlfjhiac
