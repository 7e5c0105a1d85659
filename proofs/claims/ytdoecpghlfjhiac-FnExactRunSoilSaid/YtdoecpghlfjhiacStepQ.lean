/- A tick of a soil: the model. -/
import Derived.Test.YtdoecpghlfjhiacStepI
import Derived.Test.YtdoecpghlfjhiacStepP0
import Derived.Test.YtdoecpghlfjhiacStepP1
import Derived.Test.YtdoecpghlfjhiacStepP2
import Derived.Test.YtdoecpghlfjhiacStepP3
namespace Go.Proofs.Ytdoecpghlfjhiac
open Go.RowKit
set_option linter.unusedVariables false
set_option linter.unusedSimpArgs false
set_option maxRecDepth 100000
attribute [local irreducible] wpV wpList Code.wp

set_option maxHeartbeats 4000000 in
theorem l03Step_inf {A0 A1 A2 A3 A4 X T : Option Nat} {a0 a1 a2 a3 a4 x t : Nat} (w : World) (h0 : Is32 A0 a0) (h1 : Is32 A1 a1) (h2 : Is32 A2 a2) (h3 : Is32 A3 a3) (h4 : Is32 A4 a4) (hx : Is32 X x) (ht : Is32 T t) (hc : fin32o (canO A0 A1 A4) = false) :
    Calls Try.prog 138 #[.agg #[.float .f32 a0, .float .f32 a1, .float .f32 a2, .float .f32 a3, .float .f32 a4], .float .f32 x, .float .f32 t] w (StepB failSoil w) := by
  go_enter Try.func138, Try.ntmps138
  go_wp2_with fail
  refine (l03Can_o _ _ (Bx.of5 (by first | (simp; done) | (simp; omega) | omega) (by first | (simp [go_sem]; done) | (simp (maxDischargeDepth := 8) [go_sem]; done) | (simp (maxDischargeDepth := 8) [go_sem]; rfl)) (by first | (simp [go_sem]; done) | (simp (maxDischargeDepth := 8) [go_sem]; done) | (simp (maxDischargeDepth := 8) [go_sem]; rfl)) (by first | (simp [go_sem]; done) | (simp (maxDischargeDepth := 8) [go_sem]; done) | (simp (maxDischargeDepth := 8) [go_sem]; rfl)) (by first | (simp [go_sem]; done) | (simp (maxDischargeDepth := 8) [go_sem]; done) | (simp (maxDischargeDepth := 8) [go_sem]; rfl)) (by first | (simp [go_sem]; done) | (simp (maxDischargeDepth := 8) [go_sem]; done) | (simp (maxDischargeDepth := 8) [go_sem]; rfl))) (by first | assumption | exact Is32.c (by decide)) (by first | assumption | exact Is32.c (by decide)) (by first | assumption | exact Is32.c (by decide)) (by first | assumption | exact Is32.c (by decide)) (by first | assumption | exact Is32.c (by decide))).mono ?_
  rintro e w' ⟨z0, rfl, hz0, q0, rfl⟩
  go_wp2_with fail
  refine (l01Fin_o _ hz0).mono ?_
  rintro e w' ⟨bb, hbb, rfl, q1, rfl⟩
  obtain rfl := hbb.symm.trans hc
  clear hbb hc
  go_wp2_with fail
  exact bodyPost_ret (v := .tuple #[.agg #[.float .f32 0, .float .f32 0, .float .f32 0, .float .f32 0, .float .f32 0], .float .f32 0, .float .f32 0, .bool false]) (by simp [results, Try.results138, go_sem]) rfl ⟨0, 0, 0, 0, 0, 0, 0, rfl, ⟨(Is32.c (by decide)), (Is32.c (by decide)), (Is32.c (by decide)), (Is32.c (by decide)), (Is32.c (by decide)), (Is32.c (by decide)), (Is32.c (by decide))⟩, (by repeat (first | with_reducible exact bel2 _ _ _ | with_reducible refine beld ?_ _ | (with_reducible refine Below.setCell ?_ ?_ _; rotate_left; exact (by first | (simp; done) | (simp; omega) | omega))))⟩

theorem l03Step_yes {A0 A1 A2 A3 A4 X T : Option Nat} {a0 a1 a2 a3 a4 x t : Nat} (w : World) (h0 : Is32 A0 a0) (h1 : Is32 A1 a1) (h2 : Is32 A2 a2) (h3 : Is32 A3 a3) (h4 : Is32 A4 a4) (hx : Is32 X x) (ht : Is32 T t) (hs : soilO A0 A1 A2 A3 A4 = true) (hc : fin32o (canO A0 A1 A4) = true) (hX : amtO X = true) (hT : posO T = true) : Calls Try.prog 138 #[.agg #[.float .f32 a0, .float .f32 a1, .float .f32 a2, .float .f32 a3, .float .f32 a4], .float .f32 x, .float .f32 t] w (StepB (tickO A0 A1 A2 A3 A4 X T) w) := by
  cases c1 : fcmp .lss .f32 (fop .mul .f32 (canO A0 A1 A4) T) X with
  | false =>
    cases c2 : fcmp .lss .f32 (fop .sub .f32 A2 A4) X with
    | false =>
      cases c3 : fcmp .gtr .f32 (fop .add .f32 A4 X) A2 with
      | false =>
        cases c4 : fcmp .gtr .f32 (fop .mul .f32 (fop .mul .f32 (fop .add .f32 A4 X) A3) T) (fop .add .f32 A4 X) with
        | false =>
          exact l03Step_0000 w h0 h1 h2 h3 h4 hx ht hs hc hX hT c1 c2 c3 c4
        | true =>
          exact l03Step_0001 w h0 h1 h2 h3 h4 hx ht hs hc hX hT c1 c2 c3 c4
      | true =>
        cases c4 : fcmp .gtr .f32 (fop .mul .f32 (fop .mul .f32 A2 A3) T) A2 with
        | false =>
          exact l03Step_0010 w h0 h1 h2 h3 h4 hx ht hs hc hX hT c1 c2 c3 c4
        | true =>
          exact l03Step_0011 w h0 h1 h2 h3 h4 hx ht hs hc hX hT c1 c2 c3 c4
    | true =>
      cases c3 : fcmp .gtr .f32 (fop .add .f32 A4 (fop .sub .f32 A2 A4)) A2 with
      | false =>
        cases c4 : fcmp .gtr .f32 (fop .mul .f32 (fop .mul .f32 (fop .add .f32 A4 (fop .sub .f32 A2 A4)) A3) T) (fop .add .f32 A4 (fop .sub .f32 A2 A4)) with
        | false =>
          exact l03Step_0100 w h0 h1 h2 h3 h4 hx ht hs hc hX hT c1 c2 c3 c4
        | true =>
          exact l03Step_0101 w h0 h1 h2 h3 h4 hx ht hs hc hX hT c1 c2 c3 c4
      | true =>
        cases c4 : fcmp .gtr .f32 (fop .mul .f32 (fop .mul .f32 A2 A3) T) A2 with
        | false =>
          exact l03Step_0110 w h0 h1 h2 h3 h4 hx ht hs hc hX hT c1 c2 c3 c4
        | true =>
          exact l03Step_0111 w h0 h1 h2 h3 h4 hx ht hs hc hX hT c1 c2 c3 c4
  | true =>
    cases c2 : fcmp .lss .f32 (fop .sub .f32 A2 A4) (fop .mul .f32 (canO A0 A1 A4) T) with
    | false =>
      cases c3 : fcmp .gtr .f32 (fop .add .f32 A4 (fop .mul .f32 (canO A0 A1 A4) T)) A2 with
      | false =>
        cases c4 : fcmp .gtr .f32 (fop .mul .f32 (fop .mul .f32 (fop .add .f32 A4 (fop .mul .f32 (canO A0 A1 A4) T)) A3) T) (fop .add .f32 A4 (fop .mul .f32 (canO A0 A1 A4) T)) with
        | false =>
          exact l03Step_1000 w h0 h1 h2 h3 h4 hx ht hs hc hX hT c1 c2 c3 c4
        | true =>
          exact l03Step_1001 w h0 h1 h2 h3 h4 hx ht hs hc hX hT c1 c2 c3 c4
      | true =>
        cases c4 : fcmp .gtr .f32 (fop .mul .f32 (fop .mul .f32 A2 A3) T) A2 with
        | false =>
          exact l03Step_1010 w h0 h1 h2 h3 h4 hx ht hs hc hX hT c1 c2 c3 c4
        | true =>
          exact l03Step_1011 w h0 h1 h2 h3 h4 hx ht hs hc hX hT c1 c2 c3 c4
    | true =>
      cases c3 : fcmp .gtr .f32 (fop .add .f32 A4 (fop .sub .f32 A2 A4)) A2 with
      | false =>
        cases c4 : fcmp .gtr .f32 (fop .mul .f32 (fop .mul .f32 (fop .add .f32 A4 (fop .sub .f32 A2 A4)) A3) T) (fop .add .f32 A4 (fop .sub .f32 A2 A4)) with
        | false =>
          exact l03Step_1100 w h0 h1 h2 h3 h4 hx ht hs hc hX hT c1 c2 c3 c4
        | true =>
          exact l03Step_1101 w h0 h1 h2 h3 h4 hx ht hs hc hX hT c1 c2 c3 c4
      | true =>
        cases c4 : fcmp .gtr .f32 (fop .mul .f32 (fop .mul .f32 A2 A3) T) A2 with
        | false =>
          exact l03Step_1110 w h0 h1 h2 h3 h4 hx ht hs hc hX hT c1 c2 c3 c4
        | true =>
          exact l03Step_1111 w h0 h1 h2 h3 h4 hx ht hs hc hX hT c1 c2 c3 c4

def tryO (A0 A1 A2 A3 A4 X T : Option Nat) : SoilR := if fin32o (canO A0 A1 A4) then tickO A0 A1 A2 A3 A4 X T else failSoil
theorem l03Step_any {A0 A1 A2 A3 A4 X T : Option Nat} {a0 a1 a2 a3 a4 x t : Nat} (w : World) (h0 : Is32 A0 a0) (h1 : Is32 A1 a1) (h2 : Is32 A2 a2) (h3 : Is32 A3 a3) (h4 : Is32 A4 a4) (hx : Is32 X x) (ht : Is32 T t) (hs : soilO A0 A1 A2 A3 A4 = true) (hX : amtO X = true) (hT : posO T = true) : Calls Try.prog 138 #[.agg #[.float .f32 a0, .float .f32 a1, .float .f32 a2, .float .f32 a3, .float .f32 a4], .float .f32 x, .float .f32 t] w (StepB (tryO A0 A1 A2 A3 A4 X T) w) := by
  unfold tryO
  cases hc : fin32o (canO A0 A1 A4)
  · exact l03Step_inf w h0 h1 h2 h3 h4 hx ht hc
  · exact l03Step_yes w h0 h1 h2 h3 h4 hx ht hs hc hX hT

end Go.Proofs.Ytdoecpghlfjhiac
