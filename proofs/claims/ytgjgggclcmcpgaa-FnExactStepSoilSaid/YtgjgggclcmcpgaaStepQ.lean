/- A tick of a soil: the model. -/
import Derived.Test.YtgjgggclcmcpgaaStepI
import Derived.Test.YtgjgggclcmcpgaaStepP0
import Derived.Test.YtgjgggclcmcpgaaStepP1
import Derived.Test.YtgjgggclcmcpgaaStepP2
import Derived.Test.YtgjgggclcmcpgaaStepP3
namespace Go.Proofs.Ytgjgggclcmcpgaa
open Go.RowKit
set_option linter.unusedVariables false
set_option linter.unusedSimpArgs false
set_option maxRecDepth 100000
attribute [local irreducible] wpV wpList Code.wp

set_option maxHeartbeats 4000000 in
theorem l03Step_inf {A0 A1 A2 A3 A4 X T : Option Nat} {a0 a1 a2 a3 a4 x t : Nat} (w : World) (h0 : Is32 A0 a0) (h1 : Is32 A1 a1) (h2 : Is32 A2 a2) (h3 : Is32 A3 a3) (h4 : Is32 A4 a4) (hx : Is32 X x) (ht : Is32 T t) (hc : fin32o (canO A0 A1 A4) = false) :
    Calls Try.prog 56 #[.agg #[.float .f32 a0, .float .f32 a1, .float .f32 a2, .float .f32 a3, .float .f32 a4], .float .f32 x, .float .f32 t] w (StepB failSoil w) := by
  go_enter Try.func56, Try.ntmps56
  go_wp2_with fail
  refine (l03Can_o _ _ (Bx.of5 (by first | (simp; done) | (simp; omega) | omega) (by first | (simp [go_sem]; done) | (simp [go_sem]; rfl)) (by first | (simp [go_sem]; done) | (simp [go_sem]; rfl)) (by first | (simp [go_sem]; done) | (simp [go_sem]; rfl)) (by first | (simp [go_sem]; done) | (simp [go_sem]; rfl)) (by first | (simp [go_sem]; done) | (simp [go_sem]; rfl))) (by first | assumption | exact Is32.c (by decide)) (by first | assumption | exact Is32.c (by decide)) (by first | assumption | exact Is32.c (by decide)) (by first | assumption | exact Is32.c (by decide)) (by first | assumption | exact Is32.c (by decide))).mono ?_
  rintro e w' ⟨z0, rfl, hz0, q0, rfl⟩
  go_wp2_with fail
  refine (l01Fin_o _ hz0).mono ?_
  rintro e w' ⟨bb, hbb, rfl, q1, rfl⟩
  obtain rfl := hbb.symm.trans hc
  clear hbb hc
  go_wp2_with fail
  exact bodyPost_ret (v := .tuple #[.agg #[.float .f32 0, .float .f32 0, .float .f32 0, .float .f32 0, .float .f32 0], .float .f32 0, .float .f32 0, .bool false]) (by simp [results, Try.results56, go_sem]) rfl ⟨0, 0, 0, 0, 0, 0, 0, rfl, ⟨(Is32.c (by decide)), (Is32.c (by decide)), (Is32.c (by decide)), (Is32.c (by decide)), (Is32.c (by decide)), (Is32.c (by decide)), (Is32.c (by decide))⟩, (by repeat (first | with_reducible exact bel2 _ _ _ | with_reducible refine beld ?_ _ | (with_reducible refine Below.setCell ?_ ?_ _; rotate_left; exact (by first | (simp; done) | (simp; omega) | omega))))⟩

theorem l03Step_yes {A0 A1 A2 A3 A4 X T : Option Nat} {a0 a1 a2 a3 a4 x t : Nat} (w : World) (h0 : Is32 A0 a0) (h1 : Is32 A1 a1) (h2 : Is32 A2 a2) (h3 : Is32 A3 a3) (h4 : Is32 A4 a4) (hx : Is32 X x) (ht : Is32 T t) (hs : soilO A0 A1 A2 A3 A4 = true) (hc : fin32o (canO A0 A1 A4) = true) (hX : amtO X = true) (hT : posO T = true) : Calls Try.prog 56 #[.agg #[.float .f32 a0, .float .f32 a1, .float .f32 a2, .float .f32 a3, .float .f32 a4], .float .f32 x, .float .f32 t] w (StepB (tickO A0 A1 A2 A3 A4 X T) w) := by
  cases c1 : fcmp .lss .f32 (fop .mul .f32 (canO A0 A1 A4) T) X with
  | false =>
    cases c2 : fcmp .lss .f32 (fop .sub .f32 A2 A4) X with
    | false =>
      cases c3 : fcmp .gtr .f32 (fop .add .f32 A4 X) A2 with
      | false =>
        cases c4 : fcmp .gtr .f32 (fop .mul .f32 (fop .mul .f32 (fop .add .f32 A4 X) A3) T) (fop .add .f32 A4 X) with
        | false =>
          exact l03Step_0000 w h0 h1 h2 h3 h4 hx ht hs hc hX hT c1 c2 c3 c4
        | true =>
          exact l03Step_0001 w h0 h1 h2 h3 h4 hx ht hs hc hX hT c1 c2 c3 c4
      | true =>
        cases c4 : fcmp .gtr .f32 (fop .mul .f32 (fop .mul .f32 A2 A3) T) A2 with
        | false =>
          exact l03Step_0010 w h0 h1 h2 h3 h4 hx ht hs hc hX hT c1 c2 c3 c4
        | true =>
          exact l03Step_0011 w h0 h1 h2 h3 h4 hx ht hs hc hX hT c1 c2 c3 c4
    | true =>
      cases c3 : fcmp .gtr .f32 (fop .add .f32 A4 (fop .sub .f32 A2 A4)) A2 with
      | false =>
        cases c4 : fcmp .gtr .f32 (fop .mul .f32 (fop .mul .f32 (fop .add .f32 A4 (fop .sub .f32 A2 A4)) A3) T) (fop .add .f32 A4 (fop .sub .f32 A2 A4)) with
        | false =>
          exact l03Step_0100 w h0 h1 h2 h3 h4 hx ht hs hc hX hT c1 c2 c3 c4
        | true =>
          exact l03Step_0101 w h0 h1 h2 h3 h4 hx ht hs hc hX hT c1 c2 c3 c4
      | true =>
        cases c4 : fcmp .gtr .f32 (fop .mul .f32 (fop .mul .f32 A2 A3) T) A2 with
        | false =>
          exact l03Step_0110 w h0 h1 h2 h3 h4 hx ht hs hc hX hT c1 c2 c3 c4
        | true =>
          exact l03Step_0111 w h0 h1 h2 h3 h4 hx ht hs hc hX hT c1 c2 c3 c4
  | true =>
    cases c2 : fcmp .lss .f32 (fop .sub .f32 A2 A4) (fop .mul .f32 (canO A0 A1 A4) T) with
    | false =>
      cases c3 : fcmp .gtr .f32 (fop .add .f32 A4 (fop .mul .f32 (canO A0 A1 A4) T)) A2 with
      | false =>
        cases c4 : fcmp .gtr .f32 (fop .mul .f32 (fop .mul .f32 (fop .add .f32 A4 (fop .mul .f32 (canO A0 A1 A4) T)) A3) T) (fop .add .f32 A4 (fop .mul .f32 (canO A0 A1 A4) T)) with
        | false =>
          exact l03Step_1000 w h0 h1 h2 h3 h4 hx ht hs hc hX hT c1 c2 c3 c4
        | true =>
          exact l03Step_1001 w h0 h1 h2 h3 h4 hx ht hs hc hX hT c1 c2 c3 c4
      | true =>
        cases c4 : fcmp .gtr .f32 (fop .mul .f32 (fop .mul .f32 A2 A3) T) A2 with
        | false =>
          exact l03Step_1010 w h0 h1 h2 h3 h4 hx ht hs hc hX hT c1 c2 c3 c4
        | true =>
          exact l03Step_1011 w h0 h1 h2 h3 h4 hx ht hs hc hX hT c1 c2 c3 c4
    | true =>
      cases c3 : fcmp .gtr .f32 (fop .add .f32 A4 (fop .sub .f32 A2 A4)) A2 with
      | false =>
        cases c4 : fcmp .gtr .f32 (fop .mul .f32 (fop .mul .f32 (fop .add .f32 A4 (fop .sub .f32 A2 A4)) A3) T) (fop .add .f32 A4 (fop .sub .f32 A2 A4)) with
        | false =>
          exact l03Step_1100 w h0 h1 h2 h3 h4 hx ht hs hc hX hT c1 c2 c3 c4
        | true =>
          exact l03Step_1101 w h0 h1 h2 h3 h4 hx ht hs hc hX hT c1 c2 c3 c4
      | true =>
        cases c4 : fcmp .gtr .f32 (fop .mul .f32 (fop .mul .f32 A2 A3) T) A2 with
        | false =>
          exact l03Step_1110 w h0 h1 h2 h3 h4 hx ht hs hc hX hT c1 c2 c3 c4
        | true =>
          exact l03Step_1111 w h0 h1 h2 h3 h4 hx ht hs hc hX hT c1 c2 c3 c4

def tryO (A0 A1 A2 A3 A4 X T : Option Nat) : SoilR := if fin32o (canO A0 A1 A4) then tickO A0 A1 A2 A3 A4 X T else failSoil
theorem l03Step_any {A0 A1 A2 A3 A4 X T : Option Nat} {a0 a1 a2 a3 a4 x t : Nat} (w : World) (h0 : Is32 A0 a0) (h1 : Is32 A1 a1) (h2 : Is32 A2 a2) (h3 : Is32 A3 a3) (h4 : Is32 A4 a4) (hx : Is32 X x) (ht : Is32 T t) (hs : soilO A0 A1 A2 A3 A4 = true) (hX : amtO X = true) (hT : posO T = true) : Calls Try.prog 56 #[.agg #[.float .f32 a0, .float .f32 a1, .float .f32 a2, .float .f32 a3, .float .f32 a4], .float .f32 x, .float .f32 t] w (StepB (tryO A0 A1 A2 A3 A4 X T) w) := by
  unfold tryO
  cases hc : fin32o (canO A0 A1 A4)
  · exact l03Step_inf w h0 h1 h2 h3 h4 hx ht hc
  · exact l03Step_yes w h0 h1 h2 h3 h4 hx ht hs hc hX hT

set_option maxHeartbeats 4000000 in
theorem stepS_bad {A0 A1 A2 A3 A4 X T : Option Nat} {a0 a1 a2 a3 a4 x t : Nat} (w : World) (h0 : Is32 A0 a0) (h1 : Is32 A1 a1) (h2 : Is32 A2 a2) (h3 : Is32 A3 a3) (h4 : Is32 A4 a4) (hx : Is32 X x) (ht : Is32 T t) (hs : soilO A0 A1 A2 A3 A4 = false) : Calls Try.prog 15 #[.agg #[.float .f32 a0, .float .f32 a1, .float .f32 a2, .float .f32 a3, .float .f32 a4], .float .f32 x, .float .f32 t] w (StepB (failSoil) w) := by
  have HS := Lib.hid hs
  clear hs
  go_enter Try.func15, Try.ntmps15
  go_wp2_with fail
  refine (l03Soil_o _ _ (Bx.of5 (by first | (simp; done) | (simp; omega) | omega) (by first | (simp [go_sem]; done) | (simp [go_sem]; rfl)) (by first | (simp [go_sem]; done) | (simp [go_sem]; rfl)) (by first | (simp [go_sem]; done) | (simp [go_sem]; rfl)) (by first | (simp [go_sem]; done) | (simp [go_sem]; rfl)) (by first | (simp [go_sem]; done) | (simp [go_sem]; rfl))) (by first | assumption | exact Is32.c (by decide)) (by first | assumption | exact Is32.c (by decide)) (by first | assumption | exact Is32.c (by decide)) (by first | assumption | exact Is32.c (by decide)) (by first | assumption | exact Is32.c (by decide))).mono ?_
  rintro e w' ⟨bb, hbb, rfl, q1, rfl⟩
  obtain rfl := hbb.symm.trans HS.out
  clear hbb
  go_wp2_with fail
  exact bodyPost_ret (v := .tuple #[.agg #[.float .f32 0, .float .f32 0, .float .f32 0, .float .f32 0, .float .f32 0], .float .f32 0, .float .f32 0, .bool false]) (by simp [results, Try.results15, go_sem]) rfl ⟨0, 0, 0, 0, 0, 0, 0, rfl, ⟨(Is32.c (by decide)), (Is32.c (by decide)), (Is32.c (by decide)), (Is32.c (by decide)), (Is32.c (by decide)), (Is32.c (by decide)), (Is32.c (by decide))⟩, (by repeat (first | with_reducible exact bel2 _ _ _ | with_reducible refine beld ?_ _ | (with_reducible refine Below.setCell ?_ ?_ _; rotate_left; exact (by first | (simp; done) | (simp; omega) | omega))))⟩

set_option maxHeartbeats 4000000 in
theorem stepS_amt {A0 A1 A2 A3 A4 X T : Option Nat} {a0 a1 a2 a3 a4 x t : Nat} (w : World) (h0 : Is32 A0 a0) (h1 : Is32 A1 a1) (h2 : Is32 A2 a2) (h3 : Is32 A3 a3) (h4 : Is32 A4 a4) (hx : Is32 X x) (ht : Is32 T t) (hs : soilO A0 A1 A2 A3 A4 = true) (hX : amtO X = false) : Calls Try.prog 15 #[.agg #[.float .f32 a0, .float .f32 a1, .float .f32 a2, .float .f32 a3, .float .f32 a4], .float .f32 x, .float .f32 t] w (StepB (failSoil) w) := by
  have HS := Lib.hid hs
  have HX := Lib.hid hX
  clear hs hX
  go_enter Try.func15, Try.ntmps15
  go_wp2_with fail
  refine (l03Soil_o _ _ (Bx.of5 (by first | (simp; done) | (simp; omega) | omega) (by first | (simp [go_sem]; done) | (simp [go_sem]; rfl)) (by first | (simp [go_sem]; done) | (simp [go_sem]; rfl)) (by first | (simp [go_sem]; done) | (simp [go_sem]; rfl)) (by first | (simp [go_sem]; done) | (simp [go_sem]; rfl)) (by first | (simp [go_sem]; done) | (simp [go_sem]; rfl))) (by first | assumption | exact Is32.c (by decide)) (by first | assumption | exact Is32.c (by decide)) (by first | assumption | exact Is32.c (by decide)) (by first | assumption | exact Is32.c (by decide)) (by first | assumption | exact Is32.c (by decide))).mono ?_
  rintro e w' ⟨bb, hbb, rfl, q1, rfl⟩
  obtain rfl := hbb.symm.trans HS.out
  clear hbb
  go_wp2_with fail
  refine (l02Least_o _ hx).mono ?_
  rintro e w' ⟨bb, hbb, rfl, q2, rfl⟩
  obtain rfl := hbb.symm.trans HX.out
  clear hbb
  go_wp2_with fail
  exact bodyPost_ret (v := .tuple #[.agg #[.float .f32 0, .float .f32 0, .float .f32 0, .float .f32 0, .float .f32 0], .float .f32 0, .float .f32 0, .bool false]) (by simp [results, Try.results15, go_sem]) rfl ⟨0, 0, 0, 0, 0, 0, 0, rfl, ⟨(Is32.c (by decide)), (Is32.c (by decide)), (Is32.c (by decide)), (Is32.c (by decide)), (Is32.c (by decide)), (Is32.c (by decide)), (Is32.c (by decide))⟩, (by repeat (first | with_reducible exact bel2 _ _ _ | with_reducible refine beld ?_ _ | (with_reducible refine Below.setCell ?_ ?_ _; rotate_left; exact (by first | (simp; done) | (simp; omega) | omega))))⟩

set_option maxHeartbeats 4000000 in
theorem stepS_pos {A0 A1 A2 A3 A4 X T : Option Nat} {a0 a1 a2 a3 a4 x t : Nat} (w : World) (h0 : Is32 A0 a0) (h1 : Is32 A1 a1) (h2 : Is32 A2 a2) (h3 : Is32 A3 a3) (h4 : Is32 A4 a4) (hx : Is32 X x) (ht : Is32 T t) (hs : soilO A0 A1 A2 A3 A4 = true) (hX : amtO X = true) (hT : posO T = false) : Calls Try.prog 15 #[.agg #[.float .f32 a0, .float .f32 a1, .float .f32 a2, .float .f32 a3, .float .f32 a4], .float .f32 x, .float .f32 t] w (StepB (failSoil) w) := by
  have HS := Lib.hid hs
  have HX := Lib.hid hX
  have HT := Lib.hid hT
  clear hs hX hT
  go_enter Try.func15, Try.ntmps15
  go_wp2_with fail
  refine (l03Soil_o _ _ (Bx.of5 (by first | (simp; done) | (simp; omega) | omega) (by first | (simp [go_sem]; done) | (simp [go_sem]; rfl)) (by first | (simp [go_sem]; done) | (simp [go_sem]; rfl)) (by first | (simp [go_sem]; done) | (simp [go_sem]; rfl)) (by first | (simp [go_sem]; done) | (simp [go_sem]; rfl)) (by first | (simp [go_sem]; done) | (simp [go_sem]; rfl))) (by first | assumption | exact Is32.c (by decide)) (by first | assumption | exact Is32.c (by decide)) (by first | assumption | exact Is32.c (by decide)) (by first | assumption | exact Is32.c (by decide)) (by first | assumption | exact Is32.c (by decide))).mono ?_
  rintro e w' ⟨bb, hbb, rfl, q1, rfl⟩
  obtain rfl := hbb.symm.trans HS.out
  clear hbb
  go_wp2_with fail
  refine (l02Least_o _ hx).mono ?_
  rintro e w' ⟨bb, hbb, rfl, q2, rfl⟩
  obtain rfl := hbb.symm.trans HX.out
  clear hbb
  go_wp2_with fail
  refine (l02Above_o _ ht).mono ?_
  rintro e w' ⟨bb, hbb, rfl, q3, rfl⟩
  obtain rfl := hbb.symm.trans HT.out
  clear hbb
  go_wp2_with fail
  exact bodyPost_ret (v := .tuple #[.agg #[.float .f32 0, .float .f32 0, .float .f32 0, .float .f32 0, .float .f32 0], .float .f32 0, .float .f32 0, .bool false]) (by simp [results, Try.results15, go_sem]) rfl ⟨0, 0, 0, 0, 0, 0, 0, rfl, ⟨(Is32.c (by decide)), (Is32.c (by decide)), (Is32.c (by decide)), (Is32.c (by decide)), (Is32.c (by decide)), (Is32.c (by decide)), (Is32.c (by decide))⟩, (by repeat (first | with_reducible exact bel2 _ _ _ | with_reducible refine beld ?_ _ | (with_reducible refine Below.setCell ?_ ?_ _; rotate_left; exact (by first | (simp; done) | (simp; omega) | omega))))⟩

set_option maxHeartbeats 4000000 in
theorem stepS_yes {A0 A1 A2 A3 A4 X T : Option Nat} {a0 a1 a2 a3 a4 x t : Nat} (w : World) (h0 : Is32 A0 a0) (h1 : Is32 A1 a1) (h2 : Is32 A2 a2) (h3 : Is32 A3 a3) (h4 : Is32 A4 a4) (hx : Is32 X x) (ht : Is32 T t) (hs : soilO A0 A1 A2 A3 A4 = true) (hX : amtO X = true) (hT : posO T = true) : Calls Try.prog 15 #[.agg #[.float .f32 a0, .float .f32 a1, .float .f32 a2, .float .f32 a3, .float .f32 a4], .float .f32 x, .float .f32 t] w (StepB (tryO A0 A1 A2 A3 A4 X T) w) := by
  have HS := Lib.hid hs
  have HX := Lib.hid hX
  have HT := Lib.hid hT
  clear hs hX hT
  go_enter Try.func15, Try.ntmps15
  go_wp2_with fail
  refine (l03Soil_o _ _ (Bx.of5 (by first | (simp; done) | (simp; omega) | omega) (by first | (simp [go_sem]; done) | (simp [go_sem]; rfl)) (by first | (simp [go_sem]; done) | (simp [go_sem]; rfl)) (by first | (simp [go_sem]; done) | (simp [go_sem]; rfl)) (by first | (simp [go_sem]; done) | (simp [go_sem]; rfl)) (by first | (simp [go_sem]; done) | (simp [go_sem]; rfl))) (by first | assumption | exact Is32.c (by decide)) (by first | assumption | exact Is32.c (by decide)) (by first | assumption | exact Is32.c (by decide)) (by first | assumption | exact Is32.c (by decide)) (by first | assumption | exact Is32.c (by decide))).mono ?_
  rintro e w' ⟨bb, hbb, rfl, q1, rfl⟩
  obtain rfl := hbb.symm.trans HS.out
  clear hbb
  go_wp2_with fail
  refine (l02Least_o _ hx).mono ?_
  rintro e w' ⟨bb, hbb, rfl, q2, rfl⟩
  obtain rfl := hbb.symm.trans HX.out
  clear hbb
  go_wp2_with fail
  refine (l02Above_o _ ht).mono ?_
  rintro e w' ⟨bb, hbb, rfl, q3, rfl⟩
  obtain rfl := hbb.symm.trans HT.out
  clear hbb
  go_wp2_with fail
  refine (l03Step_any _ h0 h1 h2 h3 h4 hx ht HS.out HX.out HT.out).mono ?_
  rintro e w1 ⟨y0, y1, y2, y3, y4, yo, yg, rfl, ⟨i0, i1, i2, i3, i4, i5, i6⟩, hb⟩
  have hb1 : Below w.heap.size w w1 := Below.trans (by repeat (first | with_reducible exact (bel2 _ _ _ ) | with_reducible refine beld ?_ _ | (with_reducible refine Below.alloc ?_ ?_ _; rotate_left; exact (by first | (simp; done) | (simp; omega) | omega)) | (with_reducible refine Below.setCell ?_ ?_ _; rotate_left; exact (by first | (simp; done) | (simp; omega) | omega)))) (hb.mono (by first | (simp; done) | (simp; omega) | omega))
  have hs1 : w.heap.size + 2 ≤ w1.heap.size := (by have := hb.size; (try simp at this); omega)
  have bwr : Bw w1 (w.heap.size + 1) [.float .f32 0, .float .f32 0, .float .f32 0, .float .f32 0, .float .f32 0] := (by first | exact Bw.below (Bw.of5 (by first | (simp; done) | (simp; omega) | omega) (by first | (simp [go_sem]; done) | (simp [go_sem]; rfl)) (by first | (simp [go_sem]; done) | (simp [go_sem]; rfl)) (by first | (simp [go_sem]; done) | (simp [go_sem]; rfl)) (by first | (simp [go_sem]; done) | (simp [go_sem]; rfl)) (by first | (simp [go_sem]; done) | (simp [go_sem]; rfl)) (by first | (simp [go_sem]; done) | (simp [go_sem]; rfl)) (by first | (simp [go_sem]; done) | (simp [go_sem]; rfl)) (by first | (simp [go_sem]; done) | (simp [go_sem]; rfl)) (by first | (simp [go_sem]; done) | (simp [go_sem]; rfl)) (by first | (simp [go_sem]; done) | (simp [go_sem]; rfl))) hb (by first | (simp; done) | (simp; omega) | omega))
  have cr0 := bwr.c 0 rfl
  have fr0 := bwr.f 0 (by simp)
  have cr1 := bwr.c 1 rfl
  have fr1 := bwr.f 1 (by simp)
  have cr2 := bwr.c 2 rfl
  have fr2 := bwr.f 2 (by simp)
  have cr3 := bwr.c 3 rfl
  have fr3 := bwr.f 3 (by simp)
  have cr4 := bwr.c 4 rfl
  have fr4 := bwr.f 4 (by simp)
  have BWr1 := Lib.hid bwr
  clear bwr
  have Hb1 := Lib.hid hb1
  clear hb hb1
  go_wp2_with fail
  exact bodyPost_ret (v := .tuple #[.agg #[.float .f32 y0, .float .f32 y1, .float .f32 y2, .float .f32 y3, .float .f32 y4], .float .f32 yo, .float .f32 yg, .bool (tryO A0 A1 A2 A3 A4 X T).ok]) (by simp [results, Try.results15, go_sem, cr0, fr0, cr1, fr1, cr2, fr2, cr3, fr3, cr4, fr4]) rfl ⟨y0, y1, y2, y3, y4, yo, yg, rfl, ⟨i0, i1, i2, i3, i4, i5, i6⟩, (by repeat (first | with_reducible exact Hb1.out | with_reducible refine beld ?_ _ | (with_reducible refine Below.alloc ?_ ?_ _; rotate_left; exact (by first | (simp; done) | (simp; omega) | omega)) | (with_reducible refine Below.setCell ?_ ?_ _; rotate_left; exact (by first | (simp; done) | (simp; omega) | omega))))⟩
  
theorem stepSoil_s {A0 A1 A2 A3 A4 X T : Option Nat} {a0 a1 a2 a3 a4 x t : Nat} (w : World) (h0 : Is32 A0 a0) (h1 : Is32 A1 a1) (h2 : Is32 A2 a2) (h3 : Is32 A3 a3) (h4 : Is32 A4 a4) (hx : Is32 X x) (ht : Is32 T t) : Calls Try.prog 15 #[.agg #[.float .f32 a0, .float .f32 a1, .float .f32 a2, .float .f32 a3, .float .f32 a4], .float .f32 x, .float .f32 t] w (StepB (stepO A0 A1 A2 A3 A4 X T) w) := by
  cases hs : soilO A0 A1 A2 A3 A4
  · rw [show stepO A0 A1 A2 A3 A4 X T = failSoil by unfold stepO; rw [hs]; rfl]; exact stepS_bad w h0 h1 h2 h3 h4 hx ht hs
  cases hX : amtO X
  · rw [show stepO A0 A1 A2 A3 A4 X T = failSoil by unfold stepO; rw [hX]; simp]; exact stepS_amt w h0 h1 h2 h3 h4 hx ht hs hX
  cases hT : posO T
  · rw [show stepO A0 A1 A2 A3 A4 X T = failSoil by unfold stepO; rw [hT]; simp]; exact stepS_pos w h0 h1 h2 h3 h4 hx ht hs hX hT
  rw [show stepO A0 A1 A2 A3 A4 X T = tryO A0 A1 A2 A3 A4 X T by unfold stepO tryO; rw [hs, hX, hT]; simp]
  exact stepS_yes w h0 h1 h2 h3 h4 hx ht hs hX hT

end Go.Proofs.Ytgjgggclcmcpgaa
