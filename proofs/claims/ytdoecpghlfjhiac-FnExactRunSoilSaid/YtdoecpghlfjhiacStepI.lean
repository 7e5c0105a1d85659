/- A tick of a soil: the program. -/
import Derived.Test.YtdoecpghlfjhiacStepH
namespace Go.Proofs.Ytdoecpghlfjhiac
open Go.RowKit
set_option linter.unusedVariables false
set_option linter.unusedSimpArgs false
set_option maxRecDepth 100000
attribute [local irreducible] wpV wpList Code.wp

set_option maxHeartbeats 4000000 in
theorem stepI_bad {A0 A1 A2 A3 A4 X T : Option Nat} {a0 a1 a2 a3 a4 x t : Nat} (w : World) (h0 : Is32 A0 a0) (h1 : Is32 A1 a1) (h2 : Is32 A2 a2) (h3 : Is32 A3 a3) (h4 : Is32 A4 a4) (hx : Is32 X x) (ht : Is32 T t) (hs : soilO A0 A1 A2 A3 A4 = false) :
    Calls Try.prog 74 #[.agg #[.float .f32 a0, .float .f32 a1, .float .f32 a2, .float .f32 a3, .float .f32 a4], .float .f32 x, .float .f32 t] w (StepB (failSoil) w) := by
  have hct : ∀ W, Calls Try.prog 72 #[.agg #[.float .f32 a0, .float .f32 a1, .float .f32 a2, .float .f32 a3, .float .f32 a4]] W (OnlyB (some 0, false) W) := fun W => by
    have := canTake_i W h0 h1 h2 h3 h4
    unfold takeO onlyO at this
    simp only [hs, if_true, if_false, Bool.false_eq_true] at this
    exact this
  have Hct := Lib.hid hct
  clear hct
  go_enter Try.func74, Try.ntmps74
  go_wp2_with fail
  refine (Hct.out _).mono ?_
  rintro e w1 ⟨z, bb, rfl, hbb, hz, hb⟩
  subst hbb
  have hb1 : Below w.heap.size w w1 := Below.trans (by repeat (first | with_reducible exact (bel2 _ _ _ ) | with_reducible refine beld ?_ _ | (with_reducible refine Below.alloc ?_ ?_ _; rotate_left; exact (by first | (simp; done) | (simp; omega) | omega)) | (with_reducible refine Below.setCell ?_ ?_ _; rotate_left; exact (by first | (simp; done) | (simp; omega) | omega)))) (hb.mono (by first | (simp; done) | (simp; omega) | omega))
  have hs1 : w.heap.size + 2 ≤ w1.heap.size := (by have := hb.size; (try simp at this); omega)
  have bws : Bw w1 (w.heap.size) [.float .f32 a0, .float .f32 a1, .float .f32 a2, .float .f32 a3, .float .f32 a4] := (by first | exact Bw.below (Bw.of5 (by first | (simp; done) | (simp; omega) | omega) (by first | (simp [go_sem]; done) | (simp (maxDischargeDepth := 8) [go_sem]; done) | (simp [go_sem]; rfl)) (by first | (simp [go_sem]; done) | (simp (maxDischargeDepth := 8) [go_sem]; done) | (simp [go_sem]; rfl)) (by first | (simp [go_sem]; done) | (simp (maxDischargeDepth := 8) [go_sem]; done) | (simp [go_sem]; rfl)) (by first | (simp [go_sem]; done) | (simp (maxDischargeDepth := 8) [go_sem]; done) | (simp [go_sem]; rfl)) (by first | (simp [go_sem]; done) | (simp (maxDischargeDepth := 8) [go_sem]; done) | (simp [go_sem]; rfl)) (by first | (simp [go_sem]; done) | (simp (maxDischargeDepth := 8) [go_sem]; done) | (simp [go_sem]; rfl)) (by first | (simp [go_sem]; done) | (simp (maxDischargeDepth := 8) [go_sem]; done) | (simp [go_sem]; rfl)) (by first | (simp [go_sem]; done) | (simp (maxDischargeDepth := 8) [go_sem]; done) | (simp [go_sem]; rfl)) (by first | (simp [go_sem]; done) | (simp (maxDischargeDepth := 8) [go_sem]; done) | (simp [go_sem]; rfl)) (by first | (simp [go_sem]; done) | (simp (maxDischargeDepth := 8) [go_sem]; done) | (simp [go_sem]; rfl))) hb (by first | (simp; done) | (simp; omega) | omega))
  have bwr : Bw w1 (w.heap.size + 1) [.float .f32 0, .float .f32 0, .float .f32 0, .float .f32 0, .float .f32 0] := (by first | exact Bw.below (Bw.of5 (by first | (simp; done) | (simp; omega) | omega) (by first | (simp [go_sem]; done) | (simp (maxDischargeDepth := 8) [go_sem]; done) | (simp [go_sem]; rfl)) (by first | (simp [go_sem]; done) | (simp (maxDischargeDepth := 8) [go_sem]; done) | (simp [go_sem]; rfl)) (by first | (simp [go_sem]; done) | (simp (maxDischargeDepth := 8) [go_sem]; done) | (simp [go_sem]; rfl)) (by first | (simp [go_sem]; done) | (simp (maxDischargeDepth := 8) [go_sem]; done) | (simp [go_sem]; rfl)) (by first | (simp [go_sem]; done) | (simp (maxDischargeDepth := 8) [go_sem]; done) | (simp [go_sem]; rfl)) (by first | (simp [go_sem]; done) | (simp (maxDischargeDepth := 8) [go_sem]; done) | (simp [go_sem]; rfl)) (by first | (simp [go_sem]; done) | (simp (maxDischargeDepth := 8) [go_sem]; done) | (simp [go_sem]; rfl)) (by first | (simp [go_sem]; done) | (simp (maxDischargeDepth := 8) [go_sem]; done) | (simp [go_sem]; rfl)) (by first | (simp [go_sem]; done) | (simp (maxDischargeDepth := 8) [go_sem]; done) | (simp [go_sem]; rfl)) (by first | (simp [go_sem]; done) | (simp (maxDischargeDepth := 8) [go_sem]; done) | (simp [go_sem]; rfl))) hb (by first | (simp; done) | (simp; omega) | omega))
  have cs0 := bws.c 0 rfl
  have fs0 := bws.f 0 (by simp)
  have cs1 := bws.c 1 rfl
  have fs1 := bws.f 1 (by simp)
  have cs2 := bws.c 2 rfl
  have fs2 := bws.f 2 (by simp)
  have cs3 := bws.c 3 rfl
  have fs3 := bws.f 3 (by simp)
  have cs4 := bws.c 4 rfl
  have fs4 := bws.f 4 (by simp)
  have BWs1 := Lib.hid bws
  clear bws
  have cr0 := bwr.c 0 rfl
  have fr0 := bwr.f 0 (by simp)
  have cr1 := bwr.c 1 rfl
  have fr1 := bwr.f 1 (by simp)
  have cr2 := bwr.c 2 rfl
  have fr2 := bwr.f 2 (by simp)
  have cr3 := bwr.c 3 rfl
  have fr3 := bwr.f 3 (by simp)
  have cr4 := bwr.c 4 rfl
  have fr4 := bwr.f 4 (by simp)
  have BWr1 := Lib.hid bwr
  clear bwr
  have Hb1 := Lib.hid hb1
  clear hb hb1
  go_wp2_with fail
  exact bodyPost_ret (v := .tuple #[.agg #[.float .f32 0, .float .f32 0, .float .f32 0, .float .f32 0, .float .f32 0], .float .f32 0, .float .f32 0, .bool false]) (by simp [results, Try.results74, go_sem, cs0, fs0, cs1, fs1, cs2, fs2, cs3, fs3, cs4, fs4, cr0, fr0, cr1, fr1, cr2, fr2, cr3, fr3, cr4, fr4]) rfl ⟨0, 0, 0, 0, 0, 0, 0, rfl, ⟨(Is32.c (by decide)), (Is32.c (by decide)), (Is32.c (by decide)), (Is32.c (by decide)), (Is32.c (by decide)), (Is32.c (by decide)), (Is32.c (by decide))⟩, (by repeat (first | with_reducible exact Hb1.out | with_reducible refine beld ?_ _ | (with_reducible refine Below.alloc ?_ ?_ _; rotate_left; exact (by first | (simp; done) | (simp; omega) | omega)) | (with_reducible refine Below.setCell ?_ ?_ _; rotate_left; exact (by first | (simp; done) | (simp; omega) | omega))))⟩

set_option maxHeartbeats 4000000 in
theorem stepI_inf {A0 A1 A2 A3 A4 X T : Option Nat} {a0 a1 a2 a3 a4 x t : Nat} (w : World) (h0 : Is32 A0 a0) (h1 : Is32 A1 a1) (h2 : Is32 A2 a2) (h3 : Is32 A3 a3) (h4 : Is32 A4 a4) (hx : Is32 X x) (ht : Is32 T t) (hs : soilO A0 A1 A2 A3 A4 = true) (hc : fin32o (canO A0 A1 A4) = false) :
    Calls Try.prog 74 #[.agg #[.float .f32 a0, .float .f32 a1, .float .f32 a2, .float .f32 a3, .float .f32 a4], .float .f32 x, .float .f32 t] w (StepB (failSoil) w) := by
  have hct : ∀ W, Calls Try.prog 72 #[.agg #[.float .f32 a0, .float .f32 a1, .float .f32 a2, .float .f32 a3, .float .f32 a4]] W (OnlyB (some 0, false) W) := fun W => by
    have := canTake_i W h0 h1 h2 h3 h4
    unfold takeO onlyO at this
    simp only [hs, hc, if_true, if_false, Bool.false_eq_true] at this
    exact this
  have Hct := Lib.hid hct
  clear hct
  go_enter Try.func74, Try.ntmps74
  go_wp2_with fail
  refine (Hct.out _).mono ?_
  rintro e w1 ⟨z, bb, rfl, hbb, hz, hb⟩
  subst hbb
  have hb1 : Below w.heap.size w w1 := Below.trans (by repeat (first | with_reducible exact (bel2 _ _ _ ) | with_reducible refine beld ?_ _ | (with_reducible refine Below.alloc ?_ ?_ _; rotate_left; exact (by first | (simp; done) | (simp; omega) | omega)) | (with_reducible refine Below.setCell ?_ ?_ _; rotate_left; exact (by first | (simp; done) | (simp; omega) | omega)))) (hb.mono (by first | (simp; done) | (simp; omega) | omega))
  have hs1 : w.heap.size + 2 ≤ w1.heap.size := (by have := hb.size; (try simp at this); omega)
  have bws : Bw w1 (w.heap.size) [.float .f32 a0, .float .f32 a1, .float .f32 a2, .float .f32 a3, .float .f32 a4] := (by first | exact Bw.below (Bw.of5 (by first | (simp; done) | (simp; omega) | omega) (by first | (simp [go_sem]; done) | (simp (maxDischargeDepth := 8) [go_sem]; done) | (simp [go_sem]; rfl)) (by first | (simp [go_sem]; done) | (simp (maxDischargeDepth := 8) [go_sem]; done) | (simp [go_sem]; rfl)) (by first | (simp [go_sem]; done) | (simp (maxDischargeDepth := 8) [go_sem]; done) | (simp [go_sem]; rfl)) (by first | (simp [go_sem]; done) | (simp (maxDischargeDepth := 8) [go_sem]; done) | (simp [go_sem]; rfl)) (by first | (simp [go_sem]; done) | (simp (maxDischargeDepth := 8) [go_sem]; done) | (simp [go_sem]; rfl)) (by first | (simp [go_sem]; done) | (simp (maxDischargeDepth := 8) [go_sem]; done) | (simp [go_sem]; rfl)) (by first | (simp [go_sem]; done) | (simp (maxDischargeDepth := 8) [go_sem]; done) | (simp [go_sem]; rfl)) (by first | (simp [go_sem]; done) | (simp (maxDischargeDepth := 8) [go_sem]; done) | (simp [go_sem]; rfl)) (by first | (simp [go_sem]; done) | (simp (maxDischargeDepth := 8) [go_sem]; done) | (simp [go_sem]; rfl)) (by first | (simp [go_sem]; done) | (simp (maxDischargeDepth := 8) [go_sem]; done) | (simp [go_sem]; rfl))) hb (by first | (simp; done) | (simp; omega) | omega))
  have bwr : Bw w1 (w.heap.size + 1) [.float .f32 0, .float .f32 0, .float .f32 0, .float .f32 0, .float .f32 0] := (by first | exact Bw.below (Bw.of5 (by first | (simp; done) | (simp; omega) | omega) (by first | (simp [go_sem]; done) | (simp (maxDischargeDepth := 8) [go_sem]; done) | (simp [go_sem]; rfl)) (by first | (simp [go_sem]; done) | (simp (maxDischargeDepth := 8) [go_sem]; done) | (simp [go_sem]; rfl)) (by first | (simp [go_sem]; done) | (simp (maxDischargeDepth := 8) [go_sem]; done) | (simp [go_sem]; rfl)) (by first | (simp [go_sem]; done) | (simp (maxDischargeDepth := 8) [go_sem]; done) | (simp [go_sem]; rfl)) (by first | (simp [go_sem]; done) | (simp (maxDischargeDepth := 8) [go_sem]; done) | (simp [go_sem]; rfl)) (by first | (simp [go_sem]; done) | (simp (maxDischargeDepth := 8) [go_sem]; done) | (simp [go_sem]; rfl)) (by first | (simp [go_sem]; done) | (simp (maxDischargeDepth := 8) [go_sem]; done) | (simp [go_sem]; rfl)) (by first | (simp [go_sem]; done) | (simp (maxDischargeDepth := 8) [go_sem]; done) | (simp [go_sem]; rfl)) (by first | (simp [go_sem]; done) | (simp (maxDischargeDepth := 8) [go_sem]; done) | (simp [go_sem]; rfl)) (by first | (simp [go_sem]; done) | (simp (maxDischargeDepth := 8) [go_sem]; done) | (simp [go_sem]; rfl))) hb (by first | (simp; done) | (simp; omega) | omega))
  have cs0 := bws.c 0 rfl
  have fs0 := bws.f 0 (by simp)
  have cs1 := bws.c 1 rfl
  have fs1 := bws.f 1 (by simp)
  have cs2 := bws.c 2 rfl
  have fs2 := bws.f 2 (by simp)
  have cs3 := bws.c 3 rfl
  have fs3 := bws.f 3 (by simp)
  have cs4 := bws.c 4 rfl
  have fs4 := bws.f 4 (by simp)
  have BWs1 := Lib.hid bws
  clear bws
  have cr0 := bwr.c 0 rfl
  have fr0 := bwr.f 0 (by simp)
  have cr1 := bwr.c 1 rfl
  have fr1 := bwr.f 1 (by simp)
  have cr2 := bwr.c 2 rfl
  have fr2 := bwr.f 2 (by simp)
  have cr3 := bwr.c 3 rfl
  have fr3 := bwr.f 3 (by simp)
  have cr4 := bwr.c 4 rfl
  have fr4 := bwr.f 4 (by simp)
  have BWr1 := Lib.hid bwr
  clear bwr
  have Hb1 := Lib.hid hb1
  clear hb hb1
  go_wp2_with fail
  exact bodyPost_ret (v := .tuple #[.agg #[.float .f32 0, .float .f32 0, .float .f32 0, .float .f32 0, .float .f32 0], .float .f32 0, .float .f32 0, .bool false]) (by simp [results, Try.results74, go_sem, cs0, fs0, cs1, fs1, cs2, fs2, cs3, fs3, cs4, fs4, cr0, fr0, cr1, fr1, cr2, fr2, cr3, fr3, cr4, fr4]) rfl ⟨0, 0, 0, 0, 0, 0, 0, rfl, ⟨(Is32.c (by decide)), (Is32.c (by decide)), (Is32.c (by decide)), (Is32.c (by decide)), (Is32.c (by decide)), (Is32.c (by decide)), (Is32.c (by decide))⟩, (by repeat (first | with_reducible exact Hb1.out | with_reducible refine beld ?_ _ | (with_reducible refine Below.alloc ?_ ?_ _; rotate_left; exact (by first | (simp; done) | (simp; omega) | omega)) | (with_reducible refine Below.setCell ?_ ?_ _; rotate_left; exact (by first | (simp; done) | (simp; omega) | omega))))⟩

set_option maxHeartbeats 4000000 in
theorem stepI_amt {A0 A1 A2 A3 A4 X T : Option Nat} {a0 a1 a2 a3 a4 x t : Nat} (w : World) (h0 : Is32 A0 a0) (h1 : Is32 A1 a1) (h2 : Is32 A2 a2) (h3 : Is32 A3 a3) (h4 : Is32 A4 a4) (hx : Is32 X x) (ht : Is32 T t) (hs : soilO A0 A1 A2 A3 A4 = true) (hc : fin32o (canO A0 A1 A4) = true) (hX : amtO X = false) :
    Calls Try.prog 74 #[.agg #[.float .f32 a0, .float .f32 a1, .float .f32 a2, .float .f32 a3, .float .f32 a4], .float .f32 x, .float .f32 t] w (StepB (failSoil) w) := by
  have hct : ∀ W, Calls Try.prog 72 #[.agg #[.float .f32 a0, .float .f32 a1, .float .f32 a2, .float .f32 a3, .float .f32 a4]] W (OnlyB (canO A0 A1 A4, true) W) := fun W => by
    have := canTake_i W h0 h1 h2 h3 h4
    unfold takeO onlyO at this
    simp only [hs, hc, if_true, if_false, Bool.false_eq_true] at this
    exact this
  have Hct := Lib.hid hct
  clear hct
  have cA : ∀ W : World, Calls Try.prog 95 #[.float .f32 x] W (SayS false W) := fun W => by have := isAmount_o W hx; rw [hX] at this; exact this
  have HA := Lib.hid cA
  clear cA hX
  go_enter Try.func74, Try.ntmps74
  go_wp2_with fail
  refine (Hct.out _).mono ?_
  rintro e w1 ⟨z, bb, rfl, hbb, hz, hb⟩
  subst hbb
  have hb1 : Below w.heap.size w w1 := Below.trans (by repeat (first | with_reducible exact (bel2 _ _ _ ) | with_reducible refine beld ?_ _ | (with_reducible refine Below.alloc ?_ ?_ _; rotate_left; exact (by first | (simp; done) | (simp; omega) | omega)) | (with_reducible refine Below.setCell ?_ ?_ _; rotate_left; exact (by first | (simp; done) | (simp; omega) | omega)))) (hb.mono (by first | (simp; done) | (simp; omega) | omega))
  have hs1 : w.heap.size + 2 ≤ w1.heap.size := (by have := hb.size; (try simp at this); omega)
  have bws : Bw w1 (w.heap.size) [.float .f32 a0, .float .f32 a1, .float .f32 a2, .float .f32 a3, .float .f32 a4] := (by first | exact Bw.below (Bw.of5 (by first | (simp; done) | (simp; omega) | omega) (by first | (simp [go_sem]; done) | (simp (maxDischargeDepth := 8) [go_sem]; done) | (simp [go_sem]; rfl)) (by first | (simp [go_sem]; done) | (simp (maxDischargeDepth := 8) [go_sem]; done) | (simp [go_sem]; rfl)) (by first | (simp [go_sem]; done) | (simp (maxDischargeDepth := 8) [go_sem]; done) | (simp [go_sem]; rfl)) (by first | (simp [go_sem]; done) | (simp (maxDischargeDepth := 8) [go_sem]; done) | (simp [go_sem]; rfl)) (by first | (simp [go_sem]; done) | (simp (maxDischargeDepth := 8) [go_sem]; done) | (simp [go_sem]; rfl)) (by first | (simp [go_sem]; done) | (simp (maxDischargeDepth := 8) [go_sem]; done) | (simp [go_sem]; rfl)) (by first | (simp [go_sem]; done) | (simp (maxDischargeDepth := 8) [go_sem]; done) | (simp [go_sem]; rfl)) (by first | (simp [go_sem]; done) | (simp (maxDischargeDepth := 8) [go_sem]; done) | (simp [go_sem]; rfl)) (by first | (simp [go_sem]; done) | (simp (maxDischargeDepth := 8) [go_sem]; done) | (simp [go_sem]; rfl)) (by first | (simp [go_sem]; done) | (simp (maxDischargeDepth := 8) [go_sem]; done) | (simp [go_sem]; rfl))) hb (by first | (simp; done) | (simp; omega) | omega))
  have bwr : Bw w1 (w.heap.size + 1) [.float .f32 0, .float .f32 0, .float .f32 0, .float .f32 0, .float .f32 0] := (by first | exact Bw.below (Bw.of5 (by first | (simp; done) | (simp; omega) | omega) (by first | (simp [go_sem]; done) | (simp (maxDischargeDepth := 8) [go_sem]; done) | (simp [go_sem]; rfl)) (by first | (simp [go_sem]; done) | (simp (maxDischargeDepth := 8) [go_sem]; done) | (simp [go_sem]; rfl)) (by first | (simp [go_sem]; done) | (simp (maxDischargeDepth := 8) [go_sem]; done) | (simp [go_sem]; rfl)) (by first | (simp [go_sem]; done) | (simp (maxDischargeDepth := 8) [go_sem]; done) | (simp [go_sem]; rfl)) (by first | (simp [go_sem]; done) | (simp (maxDischargeDepth := 8) [go_sem]; done) | (simp [go_sem]; rfl)) (by first | (simp [go_sem]; done) | (simp (maxDischargeDepth := 8) [go_sem]; done) | (simp [go_sem]; rfl)) (by first | (simp [go_sem]; done) | (simp (maxDischargeDepth := 8) [go_sem]; done) | (simp [go_sem]; rfl)) (by first | (simp [go_sem]; done) | (simp (maxDischargeDepth := 8) [go_sem]; done) | (simp [go_sem]; rfl)) (by first | (simp [go_sem]; done) | (simp (maxDischargeDepth := 8) [go_sem]; done) | (simp [go_sem]; rfl)) (by first | (simp [go_sem]; done) | (simp (maxDischargeDepth := 8) [go_sem]; done) | (simp [go_sem]; rfl))) hb (by first | (simp; done) | (simp; omega) | omega))
  have cs0 := bws.c 0 rfl
  have fs0 := bws.f 0 (by simp)
  have cs1 := bws.c 1 rfl
  have fs1 := bws.f 1 (by simp)
  have cs2 := bws.c 2 rfl
  have fs2 := bws.f 2 (by simp)
  have cs3 := bws.c 3 rfl
  have fs3 := bws.f 3 (by simp)
  have cs4 := bws.c 4 rfl
  have fs4 := bws.f 4 (by simp)
  have BWs1 := Lib.hid bws
  clear bws
  have cr0 := bwr.c 0 rfl
  have fr0 := bwr.f 0 (by simp)
  have cr1 := bwr.c 1 rfl
  have fr1 := bwr.f 1 (by simp)
  have cr2 := bwr.c 2 rfl
  have fr2 := bwr.f 2 (by simp)
  have cr3 := bwr.c 3 rfl
  have fr3 := bwr.f 3 (by simp)
  have cr4 := bwr.c 4 rfl
  have fr4 := bwr.f 4 (by simp)
  have BWr1 := Lib.hid bwr
  clear bwr
  have Hb1 := Lib.hid hb1
  clear hb hb1
  go_wp2_with fail
  refine (HA.out _).mono ?_
  rintro e w' ⟨bb, hbb, rfl, rfl⟩
  subst hbb
  go_wp2_with fail
  exact bodyPost_ret (v := .tuple #[.agg #[.float .f32 0, .float .f32 0, .float .f32 0, .float .f32 0, .float .f32 0], .float .f32 0, .float .f32 0, .bool false]) (by simp [results, Try.results74, go_sem, cs0, fs0, cs1, fs1, cs2, fs2, cs3, fs3, cs4, fs4, cr0, fr0, cr1, fr1, cr2, fr2, cr3, fr3, cr4, fr4]) rfl ⟨0, 0, 0, 0, 0, 0, 0, rfl, ⟨(Is32.c (by decide)), (Is32.c (by decide)), (Is32.c (by decide)), (Is32.c (by decide)), (Is32.c (by decide)), (Is32.c (by decide)), (Is32.c (by decide))⟩, (by repeat (first | with_reducible exact Hb1.out | with_reducible refine beld ?_ _ | (with_reducible refine Below.alloc ?_ ?_ _; rotate_left; exact (by first | (simp; done) | (simp; omega) | omega)) | (with_reducible refine Below.setCell ?_ ?_ _; rotate_left; exact (by first | (simp; done) | (simp; omega) | omega))))⟩

set_option maxHeartbeats 4000000 in
theorem stepI_pos {A0 A1 A2 A3 A4 X T : Option Nat} {a0 a1 a2 a3 a4 x t : Nat} (w : World) (h0 : Is32 A0 a0) (h1 : Is32 A1 a1) (h2 : Is32 A2 a2) (h3 : Is32 A3 a3) (h4 : Is32 A4 a4) (hx : Is32 X x) (ht : Is32 T t) (hs : soilO A0 A1 A2 A3 A4 = true) (hc : fin32o (canO A0 A1 A4) = true) (hX : amtO X = true) (hT : posO T = false) :
    Calls Try.prog 74 #[.agg #[.float .f32 a0, .float .f32 a1, .float .f32 a2, .float .f32 a3, .float .f32 a4], .float .f32 x, .float .f32 t] w (StepB (failSoil) w) := by
  have hct : ∀ W, Calls Try.prog 72 #[.agg #[.float .f32 a0, .float .f32 a1, .float .f32 a2, .float .f32 a3, .float .f32 a4]] W (OnlyB (canO A0 A1 A4, true) W) := fun W => by
    have := canTake_i W h0 h1 h2 h3 h4
    unfold takeO onlyO at this
    simp only [hs, hc, if_true, if_false, Bool.false_eq_true] at this
    exact this
  have Hct := Lib.hid hct
  clear hct
  have cA : ∀ W : World, Calls Try.prog 95 #[.float .f32 x] W (SayS true W) := fun W => by have := isAmount_o W hx; rw [hX] at this; exact this
  have HA := Lib.hid cA
  clear cA hX
  have cP : ∀ W : World, Calls Try.prog 96 #[.float .f32 t] W (SayS false W) := fun W => by have := isPositive_o W ht; rw [hT] at this; exact this
  have HP := Lib.hid cP
  clear cP hT
  go_enter Try.func74, Try.ntmps74
  go_wp2_with fail
  refine (Hct.out _).mono ?_
  rintro e w1 ⟨z, bb, rfl, hbb, hz, hb⟩
  subst hbb
  have hb1 : Below w.heap.size w w1 := Below.trans (by repeat (first | with_reducible exact (bel2 _ _ _ ) | with_reducible refine beld ?_ _ | (with_reducible refine Below.alloc ?_ ?_ _; rotate_left; exact (by first | (simp; done) | (simp; omega) | omega)) | (with_reducible refine Below.setCell ?_ ?_ _; rotate_left; exact (by first | (simp; done) | (simp; omega) | omega)))) (hb.mono (by first | (simp; done) | (simp; omega) | omega))
  have hs1 : w.heap.size + 2 ≤ w1.heap.size := (by have := hb.size; (try simp at this); omega)
  have bws : Bw w1 (w.heap.size) [.float .f32 a0, .float .f32 a1, .float .f32 a2, .float .f32 a3, .float .f32 a4] := (by first | exact Bw.below (Bw.of5 (by first | (simp; done) | (simp; omega) | omega) (by first | (simp [go_sem]; done) | (simp (maxDischargeDepth := 8) [go_sem]; done) | (simp [go_sem]; rfl)) (by first | (simp [go_sem]; done) | (simp (maxDischargeDepth := 8) [go_sem]; done) | (simp [go_sem]; rfl)) (by first | (simp [go_sem]; done) | (simp (maxDischargeDepth := 8) [go_sem]; done) | (simp [go_sem]; rfl)) (by first | (simp [go_sem]; done) | (simp (maxDischargeDepth := 8) [go_sem]; done) | (simp [go_sem]; rfl)) (by first | (simp [go_sem]; done) | (simp (maxDischargeDepth := 8) [go_sem]; done) | (simp [go_sem]; rfl)) (by first | (simp [go_sem]; done) | (simp (maxDischargeDepth := 8) [go_sem]; done) | (simp [go_sem]; rfl)) (by first | (simp [go_sem]; done) | (simp (maxDischargeDepth := 8) [go_sem]; done) | (simp [go_sem]; rfl)) (by first | (simp [go_sem]; done) | (simp (maxDischargeDepth := 8) [go_sem]; done) | (simp [go_sem]; rfl)) (by first | (simp [go_sem]; done) | (simp (maxDischargeDepth := 8) [go_sem]; done) | (simp [go_sem]; rfl)) (by first | (simp [go_sem]; done) | (simp (maxDischargeDepth := 8) [go_sem]; done) | (simp [go_sem]; rfl))) hb (by first | (simp; done) | (simp; omega) | omega))
  have bwr : Bw w1 (w.heap.size + 1) [.float .f32 0, .float .f32 0, .float .f32 0, .float .f32 0, .float .f32 0] := (by first | exact Bw.below (Bw.of5 (by first | (simp; done) | (simp; omega) | omega) (by first | (simp [go_sem]; done) | (simp (maxDischargeDepth := 8) [go_sem]; done) | (simp [go_sem]; rfl)) (by first | (simp [go_sem]; done) | (simp (maxDischargeDepth := 8) [go_sem]; done) | (simp [go_sem]; rfl)) (by first | (simp [go_sem]; done) | (simp (maxDischargeDepth := 8) [go_sem]; done) | (simp [go_sem]; rfl)) (by first | (simp [go_sem]; done) | (simp (maxDischargeDepth := 8) [go_sem]; done) | (simp [go_sem]; rfl)) (by first | (simp [go_sem]; done) | (simp (maxDischargeDepth := 8) [go_sem]; done) | (simp [go_sem]; rfl)) (by first | (simp [go_sem]; done) | (simp (maxDischargeDepth := 8) [go_sem]; done) | (simp [go_sem]; rfl)) (by first | (simp [go_sem]; done) | (simp (maxDischargeDepth := 8) [go_sem]; done) | (simp [go_sem]; rfl)) (by first | (simp [go_sem]; done) | (simp (maxDischargeDepth := 8) [go_sem]; done) | (simp [go_sem]; rfl)) (by first | (simp [go_sem]; done) | (simp (maxDischargeDepth := 8) [go_sem]; done) | (simp [go_sem]; rfl)) (by first | (simp [go_sem]; done) | (simp (maxDischargeDepth := 8) [go_sem]; done) | (simp [go_sem]; rfl))) hb (by first | (simp; done) | (simp; omega) | omega))
  have cs0 := bws.c 0 rfl
  have fs0 := bws.f 0 (by simp)
  have cs1 := bws.c 1 rfl
  have fs1 := bws.f 1 (by simp)
  have cs2 := bws.c 2 rfl
  have fs2 := bws.f 2 (by simp)
  have cs3 := bws.c 3 rfl
  have fs3 := bws.f 3 (by simp)
  have cs4 := bws.c 4 rfl
  have fs4 := bws.f 4 (by simp)
  have BWs1 := Lib.hid bws
  clear bws
  have cr0 := bwr.c 0 rfl
  have fr0 := bwr.f 0 (by simp)
  have cr1 := bwr.c 1 rfl
  have fr1 := bwr.f 1 (by simp)
  have cr2 := bwr.c 2 rfl
  have fr2 := bwr.f 2 (by simp)
  have cr3 := bwr.c 3 rfl
  have fr3 := bwr.f 3 (by simp)
  have cr4 := bwr.c 4 rfl
  have fr4 := bwr.f 4 (by simp)
  have BWr1 := Lib.hid bwr
  clear bwr
  have Hb1 := Lib.hid hb1
  clear hb hb1
  go_wp2_with fail
  refine (HA.out _).mono ?_
  rintro e w' ⟨bb, hbb, rfl, rfl⟩
  subst hbb
  go_wp2_with fail
  refine (HP.out _).mono ?_
  rintro e w' ⟨bb, hbb, rfl, rfl⟩
  subst hbb
  go_wp2_with fail
  exact bodyPost_ret (v := .tuple #[.agg #[.float .f32 0, .float .f32 0, .float .f32 0, .float .f32 0, .float .f32 0], .float .f32 0, .float .f32 0, .bool false]) (by simp [results, Try.results74, go_sem, cs0, fs0, cs1, fs1, cs2, fs2, cs3, fs3, cs4, fs4, cr0, fr0, cr1, fr1, cr2, fr2, cr3, fr3, cr4, fr4]) rfl ⟨0, 0, 0, 0, 0, 0, 0, rfl, ⟨(Is32.c (by decide)), (Is32.c (by decide)), (Is32.c (by decide)), (Is32.c (by decide)), (Is32.c (by decide)), (Is32.c (by decide)), (Is32.c (by decide))⟩, (by repeat (first | with_reducible exact Hb1.out | with_reducible refine beld ?_ _ | (with_reducible refine Below.alloc ?_ ?_ _; rotate_left; exact (by first | (simp; done) | (simp; omega) | omega)) | (with_reducible refine Below.setCell ?_ ?_ _; rotate_left; exact (by first | (simp; done) | (simp; omega) | omega))))⟩

set_option maxHeartbeats 4000000 in
theorem stepI_yes {A0 A1 A2 A3 A4 X T : Option Nat} {a0 a1 a2 a3 a4 x t : Nat} (w : World) (h0 : Is32 A0 a0) (h1 : Is32 A1 a1) (h2 : Is32 A2 a2) (h3 : Is32 A3 a3) (h4 : Is32 A4 a4) (hx : Is32 X x) (ht : Is32 T t) (hs : soilO A0 A1 A2 A3 A4 = true) (hc : fin32o (canO A0 A1 A4) = true) (hX : amtO X = true) (hT : posO T = true) :
    Calls Try.prog 74 #[.agg #[.float .f32 a0, .float .f32 a1, .float .f32 a2, .float .f32 a3, .float .f32 a4], .float .f32 x, .float .f32 t] w (StepB (tickO A0 A1 A2 A3 A4 X T) w) := by
  have hct : ∀ W, Calls Try.prog 72 #[.agg #[.float .f32 a0, .float .f32 a1, .float .f32 a2, .float .f32 a3, .float .f32 a4]] W (OnlyB (canO A0 A1 A4, true) W) := fun W => by
    have := canTake_i W h0 h1 h2 h3 h4
    unfold takeO onlyO at this
    simp only [hs, hc, if_true, if_false, Bool.false_eq_true] at this
    exact this
  have Hct := Lib.hid hct
  clear hct
  have cA : ∀ W : World, Calls Try.prog 95 #[.float .f32 x] W (SayS true W) := fun W => by have := isAmount_o W hx; rw [hX] at this; exact this
  have HA := Lib.hid cA
  clear cA hX
  have cP : ∀ W : World, Calls Try.prog 96 #[.float .f32 t] W (SayS true W) := fun W => by have := isPositive_o W ht; rw [hT] at this; exact this
  have HP := Lib.hid cP
  clear cP hT
  go_enter Try.func74, Try.ntmps74
  go_wp2_with fail
  refine (Hct.out _).mono ?_
  rintro e w1 ⟨z, bb, rfl, hbb, hz, hb⟩
  subst hbb
  have hb1 : Below w.heap.size w w1 := Below.trans (by repeat (first | with_reducible exact (bel2 _ _ _ ) | with_reducible refine beld ?_ _ | (with_reducible refine Below.alloc ?_ ?_ _; rotate_left; exact (by first | (simp; done) | (simp; omega) | omega)) | (with_reducible refine Below.setCell ?_ ?_ _; rotate_left; exact (by first | (simp; done) | (simp; omega) | omega)))) (hb.mono (by first | (simp; done) | (simp; omega) | omega))
  have hs1 : w.heap.size + 2 ≤ w1.heap.size := (by have := hb.size; (try simp at this); omega)
  have bws : Bw w1 (w.heap.size) [.float .f32 a0, .float .f32 a1, .float .f32 a2, .float .f32 a3, .float .f32 a4] := (by first | exact Bw.below (Bw.of5 (by first | (simp; done) | (simp; omega) | omega) (by first | (simp [go_sem]; done) | (simp (maxDischargeDepth := 8) [go_sem]; done) | (simp [go_sem]; rfl)) (by first | (simp [go_sem]; done) | (simp (maxDischargeDepth := 8) [go_sem]; done) | (simp [go_sem]; rfl)) (by first | (simp [go_sem]; done) | (simp (maxDischargeDepth := 8) [go_sem]; done) | (simp [go_sem]; rfl)) (by first | (simp [go_sem]; done) | (simp (maxDischargeDepth := 8) [go_sem]; done) | (simp [go_sem]; rfl)) (by first | (simp [go_sem]; done) | (simp (maxDischargeDepth := 8) [go_sem]; done) | (simp [go_sem]; rfl)) (by first | (simp [go_sem]; done) | (simp (maxDischargeDepth := 8) [go_sem]; done) | (simp [go_sem]; rfl)) (by first | (simp [go_sem]; done) | (simp (maxDischargeDepth := 8) [go_sem]; done) | (simp [go_sem]; rfl)) (by first | (simp [go_sem]; done) | (simp (maxDischargeDepth := 8) [go_sem]; done) | (simp [go_sem]; rfl)) (by first | (simp [go_sem]; done) | (simp (maxDischargeDepth := 8) [go_sem]; done) | (simp [go_sem]; rfl)) (by first | (simp [go_sem]; done) | (simp (maxDischargeDepth := 8) [go_sem]; done) | (simp [go_sem]; rfl))) hb (by first | (simp; done) | (simp; omega) | omega))
  have bwr : Bw w1 (w.heap.size + 1) [.float .f32 0, .float .f32 0, .float .f32 0, .float .f32 0, .float .f32 0] := (by first | exact Bw.below (Bw.of5 (by first | (simp; done) | (simp; omega) | omega) (by first | (simp [go_sem]; done) | (simp (maxDischargeDepth := 8) [go_sem]; done) | (simp [go_sem]; rfl)) (by first | (simp [go_sem]; done) | (simp (maxDischargeDepth := 8) [go_sem]; done) | (simp [go_sem]; rfl)) (by first | (simp [go_sem]; done) | (simp (maxDischargeDepth := 8) [go_sem]; done) | (simp [go_sem]; rfl)) (by first | (simp [go_sem]; done) | (simp (maxDischargeDepth := 8) [go_sem]; done) | (simp [go_sem]; rfl)) (by first | (simp [go_sem]; done) | (simp (maxDischargeDepth := 8) [go_sem]; done) | (simp [go_sem]; rfl)) (by first | (simp [go_sem]; done) | (simp (maxDischargeDepth := 8) [go_sem]; done) | (simp [go_sem]; rfl)) (by first | (simp [go_sem]; done) | (simp (maxDischargeDepth := 8) [go_sem]; done) | (simp [go_sem]; rfl)) (by first | (simp [go_sem]; done) | (simp (maxDischargeDepth := 8) [go_sem]; done) | (simp [go_sem]; rfl)) (by first | (simp [go_sem]; done) | (simp (maxDischargeDepth := 8) [go_sem]; done) | (simp [go_sem]; rfl)) (by first | (simp [go_sem]; done) | (simp (maxDischargeDepth := 8) [go_sem]; done) | (simp [go_sem]; rfl))) hb (by first | (simp; done) | (simp; omega) | omega))
  have cs0 := bws.c 0 rfl
  have fs0 := bws.f 0 (by simp)
  have cs1 := bws.c 1 rfl
  have fs1 := bws.f 1 (by simp)
  have cs2 := bws.c 2 rfl
  have fs2 := bws.f 2 (by simp)
  have cs3 := bws.c 3 rfl
  have fs3 := bws.f 3 (by simp)
  have cs4 := bws.c 4 rfl
  have fs4 := bws.f 4 (by simp)
  have BWs1 := Lib.hid bws
  clear bws
  have cr0 := bwr.c 0 rfl
  have fr0 := bwr.f 0 (by simp)
  have cr1 := bwr.c 1 rfl
  have fr1 := bwr.f 1 (by simp)
  have cr2 := bwr.c 2 rfl
  have fr2 := bwr.f 2 (by simp)
  have cr3 := bwr.c 3 rfl
  have fr3 := bwr.f 3 (by simp)
  have cr4 := bwr.c 4 rfl
  have fr4 := bwr.f 4 (by simp)
  have BWr1 := Lib.hid bwr
  clear bwr
  have Hb1 := Lib.hid hb1
  clear hb hb1
  go_wp2_with fail
  refine (HA.out _).mono ?_
  rintro e w' ⟨bb, hbb, rfl, rfl⟩
  subst hbb
  go_wp2_with fail
  refine (HP.out _).mono ?_
  rintro e w' ⟨bb, hbb, rfl, rfl⟩
  subst hbb
  go_wp2_with fail
  refine at_f32 (fun R => Oper.upon _ _ _ _ _ (Result.andThen R _)) _ _ (by decide) (by first | assumption | exact Is32.c (by decide)) (by first | assumption | exact Is32.c (by decide)) ?_
  intro m1 nm1 hm1
  go_wp2_with fail
  refine at_f32 (fun R => Oper.upon _ _ _ _ _ (Result.andThen R _)) _ _ (by decide) (by first | assumption | exact Is32.c (by decide)) (by first | assumption | exact Is32.c (by decide)) ?_
  intro d nd hd
  go_wp2_with fail
  refine (leastOf_b _ _ [m1, d] [fop .mul .f32 (canO A0 A1 A4) T, fop .sub .f32 A2 A4] _ hx rfl (fun i hi => (by rcases i with _ | _ | i; exact hm1; exact hd; (simp only [List.length_cons, List.length_nil] at hi; omega))) (row2 _ _ _ _ (by first | (simp; done) | (simp; omega) | omega) ((Bx.new _ [_, _] _).c 0 rfl) ((Bx.new _ [_, _] _).c 1 rfl)) (by simp)).mono ?_
  rintro e w2 ⟨k, rfl, hk', hb⟩
  have hk : Is32 (takenO A0 A1 A2 A4 X T) k := hk'
  clear hk'
  have hb2 : Below w.heap.size w w2 := Below.trans (by repeat (first | with_reducible exact Hb1.out | with_reducible refine beld ?_ _ | (with_reducible refine Below.alloc ?_ ?_ _; rotate_left; exact (by first | (simp; done) | (simp; omega) | omega)) | (with_reducible refine Below.setCell ?_ ?_ _; rotate_left; exact (by first | (simp; done) | (simp; omega) | omega)))) (hb.mono (by first | (simp; done) | (simp; omega) | omega))
  have hs2 : w.heap.size + 2 ≤ w2.heap.size := (by have := hb.size; (try simp at this); omega)
  have bws : Bw w2 (w.heap.size) [.float .f32 a0, .float .f32 a1, .float .f32 a2, .float .f32 a3, .float .f32 a4] := (by first | with_reducible exact Bw.below BWs1.out hb (by first | (simp; done) | (simp; omega) | omega) | with_reducible exact Bw.below (Bw.drewN BWs1.out _) hb (by first | (simp; done) | (simp; omega) | omega) | with_reducible exact Bw.below (Bw.alloc BWs1.out _) hb (by first | (simp; done) | (simp; omega) | omega) | with_reducible exact Bw.below (Bw.alloc (Bw.drewN BWs1.out _) _) hb (by first | (simp; done) | (simp; omega) | omega) | exact Bw.below (Bw.of5 (by first | (simp; done) | (simp; omega) | omega) (by first | (simp [go_sem, cs0, fs0, cs1, fs1, cs2, fs2, cs3, fs3, cs4, fs4, cr0, fr0, cr1, fr1, cr2, fr2, cr3, fr3, cr4, fr4]; done) | (simp (maxDischargeDepth := 8) [go_sem, cs0, fs0, cs1, fs1, cs2, fs2, cs3, fs3, cs4, fs4, cr0, fr0, cr1, fr1, cr2, fr2, cr3, fr3, cr4, fr4]; done) | (simp [go_sem, cs0, fs0, cs1, fs1, cs2, fs2, cs3, fs3, cs4, fs4, cr0, fr0, cr1, fr1, cr2, fr2, cr3, fr3, cr4, fr4]; rfl)) (by first | (simp [go_sem, cs0, fs0, cs1, fs1, cs2, fs2, cs3, fs3, cs4, fs4, cr0, fr0, cr1, fr1, cr2, fr2, cr3, fr3, cr4, fr4]; done) | (simp (maxDischargeDepth := 8) [go_sem, cs0, fs0, cs1, fs1, cs2, fs2, cs3, fs3, cs4, fs4, cr0, fr0, cr1, fr1, cr2, fr2, cr3, fr3, cr4, fr4]; done) | (simp [go_sem, cs0, fs0, cs1, fs1, cs2, fs2, cs3, fs3, cs4, fs4, cr0, fr0, cr1, fr1, cr2, fr2, cr3, fr3, cr4, fr4]; rfl)) (by first | (simp [go_sem, cs0, fs0, cs1, fs1, cs2, fs2, cs3, fs3, cs4, fs4, cr0, fr0, cr1, fr1, cr2, fr2, cr3, fr3, cr4, fr4]; done) | (simp (maxDischargeDepth := 8) [go_sem, cs0, fs0, cs1, fs1, cs2, fs2, cs3, fs3, cs4, fs4, cr0, fr0, cr1, fr1, cr2, fr2, cr3, fr3, cr4, fr4]; done) | (simp [go_sem, cs0, fs0, cs1, fs1, cs2, fs2, cs3, fs3, cs4, fs4, cr0, fr0, cr1, fr1, cr2, fr2, cr3, fr3, cr4, fr4]; rfl)) (by first | (simp [go_sem, cs0, fs0, cs1, fs1, cs2, fs2, cs3, fs3, cs4, fs4, cr0, fr0, cr1, fr1, cr2, fr2, cr3, fr3, cr4, fr4]; done) | (simp (maxDischargeDepth := 8) [go_sem, cs0, fs0, cs1, fs1, cs2, fs2, cs3, fs3, cs4, fs4, cr0, fr0, cr1, fr1, cr2, fr2, cr3, fr3, cr4, fr4]; done) | (simp [go_sem, cs0, fs0, cs1, fs1, cs2, fs2, cs3, fs3, cs4, fs4, cr0, fr0, cr1, fr1, cr2, fr2, cr3, fr3, cr4, fr4]; rfl)) (by first | (simp [go_sem, cs0, fs0, cs1, fs1, cs2, fs2, cs3, fs3, cs4, fs4, cr0, fr0, cr1, fr1, cr2, fr2, cr3, fr3, cr4, fr4]; done) | (simp (maxDischargeDepth := 8) [go_sem, cs0, fs0, cs1, fs1, cs2, fs2, cs3, fs3, cs4, fs4, cr0, fr0, cr1, fr1, cr2, fr2, cr3, fr3, cr4, fr4]; done) | (simp [go_sem, cs0, fs0, cs1, fs1, cs2, fs2, cs3, fs3, cs4, fs4, cr0, fr0, cr1, fr1, cr2, fr2, cr3, fr3, cr4, fr4]; rfl)) (by first | (simp [go_sem, cs0, fs0, cs1, fs1, cs2, fs2, cs3, fs3, cs4, fs4, cr0, fr0, cr1, fr1, cr2, fr2, cr3, fr3, cr4, fr4]; done) | (simp (maxDischargeDepth := 8) [go_sem, cs0, fs0, cs1, fs1, cs2, fs2, cs3, fs3, cs4, fs4, cr0, fr0, cr1, fr1, cr2, fr2, cr3, fr3, cr4, fr4]; done) | (simp [go_sem, cs0, fs0, cs1, fs1, cs2, fs2, cs3, fs3, cs4, fs4, cr0, fr0, cr1, fr1, cr2, fr2, cr3, fr3, cr4, fr4]; rfl)) (by first | (simp [go_sem, cs0, fs0, cs1, fs1, cs2, fs2, cs3, fs3, cs4, fs4, cr0, fr0, cr1, fr1, cr2, fr2, cr3, fr3, cr4, fr4]; done) | (simp (maxDischargeDepth := 8) [go_sem, cs0, fs0, cs1, fs1, cs2, fs2, cs3, fs3, cs4, fs4, cr0, fr0, cr1, fr1, cr2, fr2, cr3, fr3, cr4, fr4]; done) | (simp [go_sem, cs0, fs0, cs1, fs1, cs2, fs2, cs3, fs3, cs4, fs4, cr0, fr0, cr1, fr1, cr2, fr2, cr3, fr3, cr4, fr4]; rfl)) (by first | (simp [go_sem, cs0, fs0, cs1, fs1, cs2, fs2, cs3, fs3, cs4, fs4, cr0, fr0, cr1, fr1, cr2, fr2, cr3, fr3, cr4, fr4]; done) | (simp (maxDischargeDepth := 8) [go_sem, cs0, fs0, cs1, fs1, cs2, fs2, cs3, fs3, cs4, fs4, cr0, fr0, cr1, fr1, cr2, fr2, cr3, fr3, cr4, fr4]; done) | (simp [go_sem, cs0, fs0, cs1, fs1, cs2, fs2, cs3, fs3, cs4, fs4, cr0, fr0, cr1, fr1, cr2, fr2, cr3, fr3, cr4, fr4]; rfl)) (by first | (simp [go_sem, cs0, fs0, cs1, fs1, cs2, fs2, cs3, fs3, cs4, fs4, cr0, fr0, cr1, fr1, cr2, fr2, cr3, fr3, cr4, fr4]; done) | (simp (maxDischargeDepth := 8) [go_sem, cs0, fs0, cs1, fs1, cs2, fs2, cs3, fs3, cs4, fs4, cr0, fr0, cr1, fr1, cr2, fr2, cr3, fr3, cr4, fr4]; done) | (simp [go_sem, cs0, fs0, cs1, fs1, cs2, fs2, cs3, fs3, cs4, fs4, cr0, fr0, cr1, fr1, cr2, fr2, cr3, fr3, cr4, fr4]; rfl)) (by first | (simp [go_sem, cs0, fs0, cs1, fs1, cs2, fs2, cs3, fs3, cs4, fs4, cr0, fr0, cr1, fr1, cr2, fr2, cr3, fr3, cr4, fr4]; done) | (simp (maxDischargeDepth := 8) [go_sem, cs0, fs0, cs1, fs1, cs2, fs2, cs3, fs3, cs4, fs4, cr0, fr0, cr1, fr1, cr2, fr2, cr3, fr3, cr4, fr4]; done) | (simp [go_sem, cs0, fs0, cs1, fs1, cs2, fs2, cs3, fs3, cs4, fs4, cr0, fr0, cr1, fr1, cr2, fr2, cr3, fr3, cr4, fr4]; rfl))) hb (by first | (simp; done) | (simp; omega) | omega))
  have bwr : Bw w2 (w.heap.size + 1) [.float .f32 0, .float .f32 0, .float .f32 0, .float .f32 0, .float .f32 0] := (by first | with_reducible exact Bw.below BWr1.out hb (by first | (simp; done) | (simp; omega) | omega) | with_reducible exact Bw.below (Bw.drewN BWr1.out _) hb (by first | (simp; done) | (simp; omega) | omega) | with_reducible exact Bw.below (Bw.alloc BWr1.out _) hb (by first | (simp; done) | (simp; omega) | omega) | with_reducible exact Bw.below (Bw.alloc (Bw.drewN BWr1.out _) _) hb (by first | (simp; done) | (simp; omega) | omega) | exact Bw.below (Bw.of5 (by first | (simp; done) | (simp; omega) | omega) (by first | (simp [go_sem, cs0, fs0, cs1, fs1, cs2, fs2, cs3, fs3, cs4, fs4, cr0, fr0, cr1, fr1, cr2, fr2, cr3, fr3, cr4, fr4]; done) | (simp (maxDischargeDepth := 8) [go_sem, cs0, fs0, cs1, fs1, cs2, fs2, cs3, fs3, cs4, fs4, cr0, fr0, cr1, fr1, cr2, fr2, cr3, fr3, cr4, fr4]; done) | (simp [go_sem, cs0, fs0, cs1, fs1, cs2, fs2, cs3, fs3, cs4, fs4, cr0, fr0, cr1, fr1, cr2, fr2, cr3, fr3, cr4, fr4]; rfl)) (by first | (simp [go_sem, cs0, fs0, cs1, fs1, cs2, fs2, cs3, fs3, cs4, fs4, cr0, fr0, cr1, fr1, cr2, fr2, cr3, fr3, cr4, fr4]; done) | (simp (maxDischargeDepth := 8) [go_sem, cs0, fs0, cs1, fs1, cs2, fs2, cs3, fs3, cs4, fs4, cr0, fr0, cr1, fr1, cr2, fr2, cr3, fr3, cr4, fr4]; done) | (simp [go_sem, cs0, fs0, cs1, fs1, cs2, fs2, cs3, fs3, cs4, fs4, cr0, fr0, cr1, fr1, cr2, fr2, cr3, fr3, cr4, fr4]; rfl)) (by first | (simp [go_sem, cs0, fs0, cs1, fs1, cs2, fs2, cs3, fs3, cs4, fs4, cr0, fr0, cr1, fr1, cr2, fr2, cr3, fr3, cr4, fr4]; done) | (simp (maxDischargeDepth := 8) [go_sem, cs0, fs0, cs1, fs1, cs2, fs2, cs3, fs3, cs4, fs4, cr0, fr0, cr1, fr1, cr2, fr2, cr3, fr3, cr4, fr4]; done) | (simp [go_sem, cs0, fs0, cs1, fs1, cs2, fs2, cs3, fs3, cs4, fs4, cr0, fr0, cr1, fr1, cr2, fr2, cr3, fr3, cr4, fr4]; rfl)) (by first | (simp [go_sem, cs0, fs0, cs1, fs1, cs2, fs2, cs3, fs3, cs4, fs4, cr0, fr0, cr1, fr1, cr2, fr2, cr3, fr3, cr4, fr4]; done) | (simp (maxDischargeDepth := 8) [go_sem, cs0, fs0, cs1, fs1, cs2, fs2, cs3, fs3, cs4, fs4, cr0, fr0, cr1, fr1, cr2, fr2, cr3, fr3, cr4, fr4]; done) | (simp [go_sem, cs0, fs0, cs1, fs1, cs2, fs2, cs3, fs3, cs4, fs4, cr0, fr0, cr1, fr1, cr2, fr2, cr3, fr3, cr4, fr4]; rfl)) (by first | (simp [go_sem, cs0, fs0, cs1, fs1, cs2, fs2, cs3, fs3, cs4, fs4, cr0, fr0, cr1, fr1, cr2, fr2, cr3, fr3, cr4, fr4]; done) | (simp (maxDischargeDepth := 8) [go_sem, cs0, fs0, cs1, fs1, cs2, fs2, cs3, fs3, cs4, fs4, cr0, fr0, cr1, fr1, cr2, fr2, cr3, fr3, cr4, fr4]; done) | (simp [go_sem, cs0, fs0, cs1, fs1, cs2, fs2, cs3, fs3, cs4, fs4, cr0, fr0, cr1, fr1, cr2, fr2, cr3, fr3, cr4, fr4]; rfl)) (by first | (simp [go_sem, cs0, fs0, cs1, fs1, cs2, fs2, cs3, fs3, cs4, fs4, cr0, fr0, cr1, fr1, cr2, fr2, cr3, fr3, cr4, fr4]; done) | (simp (maxDischargeDepth := 8) [go_sem, cs0, fs0, cs1, fs1, cs2, fs2, cs3, fs3, cs4, fs4, cr0, fr0, cr1, fr1, cr2, fr2, cr3, fr3, cr4, fr4]; done) | (simp [go_sem, cs0, fs0, cs1, fs1, cs2, fs2, cs3, fs3, cs4, fs4, cr0, fr0, cr1, fr1, cr2, fr2, cr3, fr3, cr4, fr4]; rfl)) (by first | (simp [go_sem, cs0, fs0, cs1, fs1, cs2, fs2, cs3, fs3, cs4, fs4, cr0, fr0, cr1, fr1, cr2, fr2, cr3, fr3, cr4, fr4]; done) | (simp (maxDischargeDepth := 8) [go_sem, cs0, fs0, cs1, fs1, cs2, fs2, cs3, fs3, cs4, fs4, cr0, fr0, cr1, fr1, cr2, fr2, cr3, fr3, cr4, fr4]; done) | (simp [go_sem, cs0, fs0, cs1, fs1, cs2, fs2, cs3, fs3, cs4, fs4, cr0, fr0, cr1, fr1, cr2, fr2, cr3, fr3, cr4, fr4]; rfl)) (by first | (simp [go_sem, cs0, fs0, cs1, fs1, cs2, fs2, cs3, fs3, cs4, fs4, cr0, fr0, cr1, fr1, cr2, fr2, cr3, fr3, cr4, fr4]; done) | (simp (maxDischargeDepth := 8) [go_sem, cs0, fs0, cs1, fs1, cs2, fs2, cs3, fs3, cs4, fs4, cr0, fr0, cr1, fr1, cr2, fr2, cr3, fr3, cr4, fr4]; done) | (simp [go_sem, cs0, fs0, cs1, fs1, cs2, fs2, cs3, fs3, cs4, fs4, cr0, fr0, cr1, fr1, cr2, fr2, cr3, fr3, cr4, fr4]; rfl)) (by first | (simp [go_sem, cs0, fs0, cs1, fs1, cs2, fs2, cs3, fs3, cs4, fs4, cr0, fr0, cr1, fr1, cr2, fr2, cr3, fr3, cr4, fr4]; done) | (simp (maxDischargeDepth := 8) [go_sem, cs0, fs0, cs1, fs1, cs2, fs2, cs3, fs3, cs4, fs4, cr0, fr0, cr1, fr1, cr2, fr2, cr3, fr3, cr4, fr4]; done) | (simp [go_sem, cs0, fs0, cs1, fs1, cs2, fs2, cs3, fs3, cs4, fs4, cr0, fr0, cr1, fr1, cr2, fr2, cr3, fr3, cr4, fr4]; rfl)) (by first | (simp [go_sem, cs0, fs0, cs1, fs1, cs2, fs2, cs3, fs3, cs4, fs4, cr0, fr0, cr1, fr1, cr2, fr2, cr3, fr3, cr4, fr4]; done) | (simp (maxDischargeDepth := 8) [go_sem, cs0, fs0, cs1, fs1, cs2, fs2, cs3, fs3, cs4, fs4, cr0, fr0, cr1, fr1, cr2, fr2, cr3, fr3, cr4, fr4]; done) | (simp [go_sem, cs0, fs0, cs1, fs1, cs2, fs2, cs3, fs3, cs4, fs4, cr0, fr0, cr1, fr1, cr2, fr2, cr3, fr3, cr4, fr4]; rfl))) hb (by first | (simp; done) | (simp; omega) | omega))
  clear cs0 fs0 cs1 fs1 cs2 fs2 cs3 fs3 cs4 fs4 cr0 fr0 cr1 fr1 cr2 fr2 cr3 fr3 cr4 fr4 BWs1 BWr1
  have cs0 := bws.c 0 rfl
  have fs0 := bws.f 0 (by simp)
  have cs1 := bws.c 1 rfl
  have fs1 := bws.f 1 (by simp)
  have cs2 := bws.c 2 rfl
  have fs2 := bws.f 2 (by simp)
  have cs3 := bws.c 3 rfl
  have fs3 := bws.f 3 (by simp)
  have cs4 := bws.c 4 rfl
  have fs4 := bws.f 4 (by simp)
  have BWs2 := Lib.hid bws
  clear bws
  have cr0 := bwr.c 0 rfl
  have fr0 := bwr.f 0 (by simp)
  have cr1 := bwr.c 1 rfl
  have fr1 := bwr.f 1 (by simp)
  have cr2 := bwr.c 2 rfl
  have fr2 := bwr.f 2 (by simp)
  have cr3 := bwr.c 3 rfl
  have fr3 := bwr.f 3 (by simp)
  have cr4 := bwr.c 4 rfl
  have fr4 := bwr.f 4 (by simp)
  have BWr2 := Lib.hid bwr
  clear bwr
  have Hb2 := Lib.hid hb2
  clear hb hb2
  go_wp2_with fail
  refine at_f32 (fun R => Oper.upon _ _ _ _ _ (Result.andThen R _)) _ _ (by decide) (by first | assumption | exact Is32.c (by decide)) (by first | assumption | exact Is32.c (by decide)) ?_
  intro y ny hy
  go_wp2_with fail
  refine (atMost_o _ hy h2).mono ?_
  rintro e w3 ⟨v, rfl, hv', hb⟩
  have hv : Is32 (wetO A2 A4 (takenO A0 A1 A2 A4 X T)) v := hv'
  clear hv'
  have hb3 : Below w.heap.size w w3 := Below.trans (by repeat (first | with_reducible exact Hb2.out | with_reducible refine beld ?_ _ | (with_reducible refine Below.alloc ?_ ?_ _; rotate_left; exact (by first | (simp; done) | (simp; omega) | omega)) | (with_reducible refine Below.setCell ?_ ?_ _; rotate_left; exact (by first | (simp; done) | (simp; omega) | omega)))) (hb.mono (by first | (simp; done) | (simp; omega) | omega))
  have hs3 : w.heap.size + 2 ≤ w3.heap.size := (by have := hb.size; (try simp at this); omega)
  have bws : Bw w3 (w.heap.size) [.float .f32 a0, .float .f32 a1, .float .f32 a2, .float .f32 a3, .float .f32 a4] := (by first | with_reducible exact Bw.below BWs2.out hb (by first | (simp; done) | (simp; omega) | omega) | with_reducible exact Bw.below (Bw.drewN BWs2.out _) hb (by first | (simp; done) | (simp; omega) | omega) | with_reducible exact Bw.below (Bw.alloc BWs2.out _) hb (by first | (simp; done) | (simp; omega) | omega) | with_reducible exact Bw.below (Bw.alloc (Bw.drewN BWs2.out _) _) hb (by first | (simp; done) | (simp; omega) | omega) | exact Bw.below (Bw.of5 (by first | (simp; done) | (simp; omega) | omega) (by first | (simp [go_sem, cs0, fs0, cs1, fs1, cs2, fs2, cs3, fs3, cs4, fs4, cr0, fr0, cr1, fr1, cr2, fr2, cr3, fr3, cr4, fr4]; done) | (simp (maxDischargeDepth := 8) [go_sem, cs0, fs0, cs1, fs1, cs2, fs2, cs3, fs3, cs4, fs4, cr0, fr0, cr1, fr1, cr2, fr2, cr3, fr3, cr4, fr4]; done) | (simp [go_sem, cs0, fs0, cs1, fs1, cs2, fs2, cs3, fs3, cs4, fs4, cr0, fr0, cr1, fr1, cr2, fr2, cr3, fr3, cr4, fr4]; rfl)) (by first | (simp [go_sem, cs0, fs0, cs1, fs1, cs2, fs2, cs3, fs3, cs4, fs4, cr0, fr0, cr1, fr1, cr2, fr2, cr3, fr3, cr4, fr4]; done) | (simp (maxDischargeDepth := 8) [go_sem, cs0, fs0, cs1, fs1, cs2, fs2, cs3, fs3, cs4, fs4, cr0, fr0, cr1, fr1, cr2, fr2, cr3, fr3, cr4, fr4]; done) | (simp [go_sem, cs0, fs0, cs1, fs1, cs2, fs2, cs3, fs3, cs4, fs4, cr0, fr0, cr1, fr1, cr2, fr2, cr3, fr3, cr4, fr4]; rfl)) (by first | (simp [go_sem, cs0, fs0, cs1, fs1, cs2, fs2, cs3, fs3, cs4, fs4, cr0, fr0, cr1, fr1, cr2, fr2, cr3, fr3, cr4, fr4]; done) | (simp (maxDischargeDepth := 8) [go_sem, cs0, fs0, cs1, fs1, cs2, fs2, cs3, fs3, cs4, fs4, cr0, fr0, cr1, fr1, cr2, fr2, cr3, fr3, cr4, fr4]; done) | (simp [go_sem, cs0, fs0, cs1, fs1, cs2, fs2, cs3, fs3, cs4, fs4, cr0, fr0, cr1, fr1, cr2, fr2, cr3, fr3, cr4, fr4]; rfl)) (by first | (simp [go_sem, cs0, fs0, cs1, fs1, cs2, fs2, cs3, fs3, cs4, fs4, cr0, fr0, cr1, fr1, cr2, fr2, cr3, fr3, cr4, fr4]; done) | (simp (maxDischargeDepth := 8) [go_sem, cs0, fs0, cs1, fs1, cs2, fs2, cs3, fs3, cs4, fs4, cr0, fr0, cr1, fr1, cr2, fr2, cr3, fr3, cr4, fr4]; done) | (simp [go_sem, cs0, fs0, cs1, fs1, cs2, fs2, cs3, fs3, cs4, fs4, cr0, fr0, cr1, fr1, cr2, fr2, cr3, fr3, cr4, fr4]; rfl)) (by first | (simp [go_sem, cs0, fs0, cs1, fs1, cs2, fs2, cs3, fs3, cs4, fs4, cr0, fr0, cr1, fr1, cr2, fr2, cr3, fr3, cr4, fr4]; done) | (simp (maxDischargeDepth := 8) [go_sem, cs0, fs0, cs1, fs1, cs2, fs2, cs3, fs3, cs4, fs4, cr0, fr0, cr1, fr1, cr2, fr2, cr3, fr3, cr4, fr4]; done) | (simp [go_sem, cs0, fs0, cs1, fs1, cs2, fs2, cs3, fs3, cs4, fs4, cr0, fr0, cr1, fr1, cr2, fr2, cr3, fr3, cr4, fr4]; rfl)) (by first | (simp [go_sem, cs0, fs0, cs1, fs1, cs2, fs2, cs3, fs3, cs4, fs4, cr0, fr0, cr1, fr1, cr2, fr2, cr3, fr3, cr4, fr4]; done) | (simp (maxDischargeDepth := 8) [go_sem, cs0, fs0, cs1, fs1, cs2, fs2, cs3, fs3, cs4, fs4, cr0, fr0, cr1, fr1, cr2, fr2, cr3, fr3, cr4, fr4]; done) | (simp [go_sem, cs0, fs0, cs1, fs1, cs2, fs2, cs3, fs3, cs4, fs4, cr0, fr0, cr1, fr1, cr2, fr2, cr3, fr3, cr4, fr4]; rfl)) (by first | (simp [go_sem, cs0, fs0, cs1, fs1, cs2, fs2, cs3, fs3, cs4, fs4, cr0, fr0, cr1, fr1, cr2, fr2, cr3, fr3, cr4, fr4]; done) | (simp (maxDischargeDepth := 8) [go_sem, cs0, fs0, cs1, fs1, cs2, fs2, cs3, fs3, cs4, fs4, cr0, fr0, cr1, fr1, cr2, fr2, cr3, fr3, cr4, fr4]; done) | (simp [go_sem, cs0, fs0, cs1, fs1, cs2, fs2, cs3, fs3, cs4, fs4, cr0, fr0, cr1, fr1, cr2, fr2, cr3, fr3, cr4, fr4]; rfl)) (by first | (simp [go_sem, cs0, fs0, cs1, fs1, cs2, fs2, cs3, fs3, cs4, fs4, cr0, fr0, cr1, fr1, cr2, fr2, cr3, fr3, cr4, fr4]; done) | (simp (maxDischargeDepth := 8) [go_sem, cs0, fs0, cs1, fs1, cs2, fs2, cs3, fs3, cs4, fs4, cr0, fr0, cr1, fr1, cr2, fr2, cr3, fr3, cr4, fr4]; done) | (simp [go_sem, cs0, fs0, cs1, fs1, cs2, fs2, cs3, fs3, cs4, fs4, cr0, fr0, cr1, fr1, cr2, fr2, cr3, fr3, cr4, fr4]; rfl)) (by first | (simp [go_sem, cs0, fs0, cs1, fs1, cs2, fs2, cs3, fs3, cs4, fs4, cr0, fr0, cr1, fr1, cr2, fr2, cr3, fr3, cr4, fr4]; done) | (simp (maxDischargeDepth := 8) [go_sem, cs0, fs0, cs1, fs1, cs2, fs2, cs3, fs3, cs4, fs4, cr0, fr0, cr1, fr1, cr2, fr2, cr3, fr3, cr4, fr4]; done) | (simp [go_sem, cs0, fs0, cs1, fs1, cs2, fs2, cs3, fs3, cs4, fs4, cr0, fr0, cr1, fr1, cr2, fr2, cr3, fr3, cr4, fr4]; rfl)) (by first | (simp [go_sem, cs0, fs0, cs1, fs1, cs2, fs2, cs3, fs3, cs4, fs4, cr0, fr0, cr1, fr1, cr2, fr2, cr3, fr3, cr4, fr4]; done) | (simp (maxDischargeDepth := 8) [go_sem, cs0, fs0, cs1, fs1, cs2, fs2, cs3, fs3, cs4, fs4, cr0, fr0, cr1, fr1, cr2, fr2, cr3, fr3, cr4, fr4]; done) | (simp [go_sem, cs0, fs0, cs1, fs1, cs2, fs2, cs3, fs3, cs4, fs4, cr0, fr0, cr1, fr1, cr2, fr2, cr3, fr3, cr4, fr4]; rfl))) hb (by first | (simp; done) | (simp; omega) | omega))
  have bwr : Bw w3 (w.heap.size + 1) [.float .f32 0, .float .f32 0, .float .f32 0, .float .f32 0, .float .f32 0] := (by first | with_reducible exact Bw.below BWr2.out hb (by first | (simp; done) | (simp; omega) | omega) | with_reducible exact Bw.below (Bw.drewN BWr2.out _) hb (by first | (simp; done) | (simp; omega) | omega) | with_reducible exact Bw.below (Bw.alloc BWr2.out _) hb (by first | (simp; done) | (simp; omega) | omega) | with_reducible exact Bw.below (Bw.alloc (Bw.drewN BWr2.out _) _) hb (by first | (simp; done) | (simp; omega) | omega) | exact Bw.below (Bw.of5 (by first | (simp; done) | (simp; omega) | omega) (by first | (simp [go_sem, cs0, fs0, cs1, fs1, cs2, fs2, cs3, fs3, cs4, fs4, cr0, fr0, cr1, fr1, cr2, fr2, cr3, fr3, cr4, fr4]; done) | (simp (maxDischargeDepth := 8) [go_sem, cs0, fs0, cs1, fs1, cs2, fs2, cs3, fs3, cs4, fs4, cr0, fr0, cr1, fr1, cr2, fr2, cr3, fr3, cr4, fr4]; done) | (simp [go_sem, cs0, fs0, cs1, fs1, cs2, fs2, cs3, fs3, cs4, fs4, cr0, fr0, cr1, fr1, cr2, fr2, cr3, fr3, cr4, fr4]; rfl)) (by first | (simp [go_sem, cs0, fs0, cs1, fs1, cs2, fs2, cs3, fs3, cs4, fs4, cr0, fr0, cr1, fr1, cr2, fr2, cr3, fr3, cr4, fr4]; done) | (simp (maxDischargeDepth := 8) [go_sem, cs0, fs0, cs1, fs1, cs2, fs2, cs3, fs3, cs4, fs4, cr0, fr0, cr1, fr1, cr2, fr2, cr3, fr3, cr4, fr4]; done) | (simp [go_sem, cs0, fs0, cs1, fs1, cs2, fs2, cs3, fs3, cs4, fs4, cr0, fr0, cr1, fr1, cr2, fr2, cr3, fr3, cr4, fr4]; rfl)) (by first | (simp [go_sem, cs0, fs0, cs1, fs1, cs2, fs2, cs3, fs3, cs4, fs4, cr0, fr0, cr1, fr1, cr2, fr2, cr3, fr3, cr4, fr4]; done) | (simp (maxDischargeDepth := 8) [go_sem, cs0, fs0, cs1, fs1, cs2, fs2, cs3, fs3, cs4, fs4, cr0, fr0, cr1, fr1, cr2, fr2, cr3, fr3, cr4, fr4]; done) | (simp [go_sem, cs0, fs0, cs1, fs1, cs2, fs2, cs3, fs3, cs4, fs4, cr0, fr0, cr1, fr1, cr2, fr2, cr3, fr3, cr4, fr4]; rfl)) (by first | (simp [go_sem, cs0, fs0, cs1, fs1, cs2, fs2, cs3, fs3, cs4, fs4, cr0, fr0, cr1, fr1, cr2, fr2, cr3, fr3, cr4, fr4]; done) | (simp (maxDischargeDepth := 8) [go_sem, cs0, fs0, cs1, fs1, cs2, fs2, cs3, fs3, cs4, fs4, cr0, fr0, cr1, fr1, cr2, fr2, cr3, fr3, cr4, fr4]; done) | (simp [go_sem, cs0, fs0, cs1, fs1, cs2, fs2, cs3, fs3, cs4, fs4, cr0, fr0, cr1, fr1, cr2, fr2, cr3, fr3, cr4, fr4]; rfl)) (by first | (simp [go_sem, cs0, fs0, cs1, fs1, cs2, fs2, cs3, fs3, cs4, fs4, cr0, fr0, cr1, fr1, cr2, fr2, cr3, fr3, cr4, fr4]; done) | (simp (maxDischargeDepth := 8) [go_sem, cs0, fs0, cs1, fs1, cs2, fs2, cs3, fs3, cs4, fs4, cr0, fr0, cr1, fr1, cr2, fr2, cr3, fr3, cr4, fr4]; done) | (simp [go_sem, cs0, fs0, cs1, fs1, cs2, fs2, cs3, fs3, cs4, fs4, cr0, fr0, cr1, fr1, cr2, fr2, cr3, fr3, cr4, fr4]; rfl)) (by first | (simp [go_sem, cs0, fs0, cs1, fs1, cs2, fs2, cs3, fs3, cs4, fs4, cr0, fr0, cr1, fr1, cr2, fr2, cr3, fr3, cr4, fr4]; done) | (simp (maxDischargeDepth := 8) [go_sem, cs0, fs0, cs1, fs1, cs2, fs2, cs3, fs3, cs4, fs4, cr0, fr0, cr1, fr1, cr2, fr2, cr3, fr3, cr4, fr4]; done) | (simp [go_sem, cs0, fs0, cs1, fs1, cs2, fs2, cs3, fs3, cs4, fs4, cr0, fr0, cr1, fr1, cr2, fr2, cr3, fr3, cr4, fr4]; rfl)) (by first | (simp [go_sem, cs0, fs0, cs1, fs1, cs2, fs2, cs3, fs3, cs4, fs4, cr0, fr0, cr1, fr1, cr2, fr2, cr3, fr3, cr4, fr4]; done) | (simp (maxDischargeDepth := 8) [go_sem, cs0, fs0, cs1, fs1, cs2, fs2, cs3, fs3, cs4, fs4, cr0, fr0, cr1, fr1, cr2, fr2, cr3, fr3, cr4, fr4]; done) | (simp [go_sem, cs0, fs0, cs1, fs1, cs2, fs2, cs3, fs3, cs4, fs4, cr0, fr0, cr1, fr1, cr2, fr2, cr3, fr3, cr4, fr4]; rfl)) (by first | (simp [go_sem, cs0, fs0, cs1, fs1, cs2, fs2, cs3, fs3, cs4, fs4, cr0, fr0, cr1, fr1, cr2, fr2, cr3, fr3, cr4, fr4]; done) | (simp (maxDischargeDepth := 8) [go_sem, cs0, fs0, cs1, fs1, cs2, fs2, cs3, fs3, cs4, fs4, cr0, fr0, cr1, fr1, cr2, fr2, cr3, fr3, cr4, fr4]; done) | (simp [go_sem, cs0, fs0, cs1, fs1, cs2, fs2, cs3, fs3, cs4, fs4, cr0, fr0, cr1, fr1, cr2, fr2, cr3, fr3, cr4, fr4]; rfl)) (by first | (simp [go_sem, cs0, fs0, cs1, fs1, cs2, fs2, cs3, fs3, cs4, fs4, cr0, fr0, cr1, fr1, cr2, fr2, cr3, fr3, cr4, fr4]; done) | (simp (maxDischargeDepth := 8) [go_sem, cs0, fs0, cs1, fs1, cs2, fs2, cs3, fs3, cs4, fs4, cr0, fr0, cr1, fr1, cr2, fr2, cr3, fr3, cr4, fr4]; done) | (simp [go_sem, cs0, fs0, cs1, fs1, cs2, fs2, cs3, fs3, cs4, fs4, cr0, fr0, cr1, fr1, cr2, fr2, cr3, fr3, cr4, fr4]; rfl)) (by first | (simp [go_sem, cs0, fs0, cs1, fs1, cs2, fs2, cs3, fs3, cs4, fs4, cr0, fr0, cr1, fr1, cr2, fr2, cr3, fr3, cr4, fr4]; done) | (simp (maxDischargeDepth := 8) [go_sem, cs0, fs0, cs1, fs1, cs2, fs2, cs3, fs3, cs4, fs4, cr0, fr0, cr1, fr1, cr2, fr2, cr3, fr3, cr4, fr4]; done) | (simp [go_sem, cs0, fs0, cs1, fs1, cs2, fs2, cs3, fs3, cs4, fs4, cr0, fr0, cr1, fr1, cr2, fr2, cr3, fr3, cr4, fr4]; rfl))) hb (by first | (simp; done) | (simp; omega) | omega))
  clear cs0 fs0 cs1 fs1 cs2 fs2 cs3 fs3 cs4 fs4 cr0 fr0 cr1 fr1 cr2 fr2 cr3 fr3 cr4 fr4 BWs2 BWr2
  have cs0 := bws.c 0 rfl
  have fs0 := bws.f 0 (by simp)
  have cs1 := bws.c 1 rfl
  have fs1 := bws.f 1 (by simp)
  have cs2 := bws.c 2 rfl
  have fs2 := bws.f 2 (by simp)
  have cs3 := bws.c 3 rfl
  have fs3 := bws.f 3 (by simp)
  have cs4 := bws.c 4 rfl
  have fs4 := bws.f 4 (by simp)
  have BWs3 := Lib.hid bws
  clear bws
  have cr0 := bwr.c 0 rfl
  have fr0 := bwr.f 0 (by simp)
  have cr1 := bwr.c 1 rfl
  have fr1 := bwr.f 1 (by simp)
  have cr2 := bwr.c 2 rfl
  have fr2 := bwr.f 2 (by simp)
  have cr3 := bwr.c 3 rfl
  have fr3 := bwr.f 3 (by simp)
  have cr4 := bwr.c 4 rfl
  have fr4 := bwr.f 4 (by simp)
  have BWr3 := Lib.hid bwr
  clear bwr
  have Hb3 := Lib.hid hb3
  clear hb hb3
  go_wp2_with fail
  refine at_f32 (fun R => Oper.upon _ _ _ _ _ (Result.andThen R _)) _ _ (by decide) (by first | assumption | exact Is32.c (by decide)) (by first | assumption | exact Is32.c (by decide)) ?_
  intro m2 nm2 hm2
  go_wp2_with fail
  refine at_f32 (fun R => Oper.upon _ _ _ _ _ (Result.andThen R _)) _ _ (by decide) (by first | assumption | exact Is32.c (by decide)) (by first | assumption | exact Is32.c (by decide)) ?_
  intro m3 nm3 hm3
  go_wp2_with fail
  refine (atMost_o _ hm3 hv).mono ?_
  rintro e w4 ⟨g, rfl, hg', hb⟩
  have hg : Is32 (goneO A3 (wetO A2 A4 (takenO A0 A1 A2 A4 X T)) T) g := hg'
  clear hg'
  have hb4 : Below w.heap.size w w4 := Below.trans (by repeat (first | with_reducible exact Hb3.out | with_reducible refine beld ?_ _ | (with_reducible refine Below.alloc ?_ ?_ _; rotate_left; exact (by first | (simp; done) | (simp; omega) | omega)) | (with_reducible refine Below.setCell ?_ ?_ _; rotate_left; exact (by first | (simp; done) | (simp; omega) | omega)))) (hb.mono (by first | (simp; done) | (simp; omega) | omega))
  have hs4 : w.heap.size + 2 ≤ w4.heap.size := (by have := hb.size; (try simp at this); omega)
  have bws : Bw w4 (w.heap.size) [.float .f32 a0, .float .f32 a1, .float .f32 a2, .float .f32 a3, .float .f32 v] := (by first | with_reducible exact Bw.below BWs3.out hb (by first | (simp; done) | (simp; omega) | omega) | with_reducible exact Bw.below (Bw.drewN BWs3.out _) hb (by first | (simp; done) | (simp; omega) | omega) | with_reducible exact Bw.below (Bw.alloc BWs3.out _) hb (by first | (simp; done) | (simp; omega) | omega) | with_reducible exact Bw.below (Bw.alloc (Bw.drewN BWs3.out _) _) hb (by first | (simp; done) | (simp; omega) | omega) | exact Bw.below (Bw.of5 (by first | (simp; done) | (simp; omega) | omega) (by first | (simp [go_sem, cs0, fs0, cs1, fs1, cs2, fs2, cs3, fs3, cs4, fs4, cr0, fr0, cr1, fr1, cr2, fr2, cr3, fr3, cr4, fr4]; done) | (simp (maxDischargeDepth := 8) [go_sem, cs0, fs0, cs1, fs1, cs2, fs2, cs3, fs3, cs4, fs4, cr0, fr0, cr1, fr1, cr2, fr2, cr3, fr3, cr4, fr4]; done) | (simp [go_sem, cs0, fs0, cs1, fs1, cs2, fs2, cs3, fs3, cs4, fs4, cr0, fr0, cr1, fr1, cr2, fr2, cr3, fr3, cr4, fr4]; rfl)) (by first | (simp [go_sem, cs0, fs0, cs1, fs1, cs2, fs2, cs3, fs3, cs4, fs4, cr0, fr0, cr1, fr1, cr2, fr2, cr3, fr3, cr4, fr4]; done) | (simp (maxDischargeDepth := 8) [go_sem, cs0, fs0, cs1, fs1, cs2, fs2, cs3, fs3, cs4, fs4, cr0, fr0, cr1, fr1, cr2, fr2, cr3, fr3, cr4, fr4]; done) | (simp [go_sem, cs0, fs0, cs1, fs1, cs2, fs2, cs3, fs3, cs4, fs4, cr0, fr0, cr1, fr1, cr2, fr2, cr3, fr3, cr4, fr4]; rfl)) (by first | (simp [go_sem, cs0, fs0, cs1, fs1, cs2, fs2, cs3, fs3, cs4, fs4, cr0, fr0, cr1, fr1, cr2, fr2, cr3, fr3, cr4, fr4]; done) | (simp (maxDischargeDepth := 8) [go_sem, cs0, fs0, cs1, fs1, cs2, fs2, cs3, fs3, cs4, fs4, cr0, fr0, cr1, fr1, cr2, fr2, cr3, fr3, cr4, fr4]; done) | (simp [go_sem, cs0, fs0, cs1, fs1, cs2, fs2, cs3, fs3, cs4, fs4, cr0, fr0, cr1, fr1, cr2, fr2, cr3, fr3, cr4, fr4]; rfl)) (by first | (simp [go_sem, cs0, fs0, cs1, fs1, cs2, fs2, cs3, fs3, cs4, fs4, cr0, fr0, cr1, fr1, cr2, fr2, cr3, fr3, cr4, fr4]; done) | (simp (maxDischargeDepth := 8) [go_sem, cs0, fs0, cs1, fs1, cs2, fs2, cs3, fs3, cs4, fs4, cr0, fr0, cr1, fr1, cr2, fr2, cr3, fr3, cr4, fr4]; done) | (simp [go_sem, cs0, fs0, cs1, fs1, cs2, fs2, cs3, fs3, cs4, fs4, cr0, fr0, cr1, fr1, cr2, fr2, cr3, fr3, cr4, fr4]; rfl)) (by first | (simp [go_sem, cs0, fs0, cs1, fs1, cs2, fs2, cs3, fs3, cs4, fs4, cr0, fr0, cr1, fr1, cr2, fr2, cr3, fr3, cr4, fr4]; done) | (simp (maxDischargeDepth := 8) [go_sem, cs0, fs0, cs1, fs1, cs2, fs2, cs3, fs3, cs4, fs4, cr0, fr0, cr1, fr1, cr2, fr2, cr3, fr3, cr4, fr4]; done) | (simp [go_sem, cs0, fs0, cs1, fs1, cs2, fs2, cs3, fs3, cs4, fs4, cr0, fr0, cr1, fr1, cr2, fr2, cr3, fr3, cr4, fr4]; rfl)) (by first | (simp [go_sem, cs0, fs0, cs1, fs1, cs2, fs2, cs3, fs3, cs4, fs4, cr0, fr0, cr1, fr1, cr2, fr2, cr3, fr3, cr4, fr4]; done) | (simp (maxDischargeDepth := 8) [go_sem, cs0, fs0, cs1, fs1, cs2, fs2, cs3, fs3, cs4, fs4, cr0, fr0, cr1, fr1, cr2, fr2, cr3, fr3, cr4, fr4]; done) | (simp [go_sem, cs0, fs0, cs1, fs1, cs2, fs2, cs3, fs3, cs4, fs4, cr0, fr0, cr1, fr1, cr2, fr2, cr3, fr3, cr4, fr4]; rfl)) (by first | (simp [go_sem, cs0, fs0, cs1, fs1, cs2, fs2, cs3, fs3, cs4, fs4, cr0, fr0, cr1, fr1, cr2, fr2, cr3, fr3, cr4, fr4]; done) | (simp (maxDischargeDepth := 8) [go_sem, cs0, fs0, cs1, fs1, cs2, fs2, cs3, fs3, cs4, fs4, cr0, fr0, cr1, fr1, cr2, fr2, cr3, fr3, cr4, fr4]; done) | (simp [go_sem, cs0, fs0, cs1, fs1, cs2, fs2, cs3, fs3, cs4, fs4, cr0, fr0, cr1, fr1, cr2, fr2, cr3, fr3, cr4, fr4]; rfl)) (by first | (simp [go_sem, cs0, fs0, cs1, fs1, cs2, fs2, cs3, fs3, cs4, fs4, cr0, fr0, cr1, fr1, cr2, fr2, cr3, fr3, cr4, fr4]; done) | (simp (maxDischargeDepth := 8) [go_sem, cs0, fs0, cs1, fs1, cs2, fs2, cs3, fs3, cs4, fs4, cr0, fr0, cr1, fr1, cr2, fr2, cr3, fr3, cr4, fr4]; done) | (simp [go_sem, cs0, fs0, cs1, fs1, cs2, fs2, cs3, fs3, cs4, fs4, cr0, fr0, cr1, fr1, cr2, fr2, cr3, fr3, cr4, fr4]; rfl)) (by first | (simp [go_sem, cs0, fs0, cs1, fs1, cs2, fs2, cs3, fs3, cs4, fs4, cr0, fr0, cr1, fr1, cr2, fr2, cr3, fr3, cr4, fr4]; done) | (simp (maxDischargeDepth := 8) [go_sem, cs0, fs0, cs1, fs1, cs2, fs2, cs3, fs3, cs4, fs4, cr0, fr0, cr1, fr1, cr2, fr2, cr3, fr3, cr4, fr4]; done) | (simp [go_sem, cs0, fs0, cs1, fs1, cs2, fs2, cs3, fs3, cs4, fs4, cr0, fr0, cr1, fr1, cr2, fr2, cr3, fr3, cr4, fr4]; rfl)) (by first | (simp [go_sem, cs0, fs0, cs1, fs1, cs2, fs2, cs3, fs3, cs4, fs4, cr0, fr0, cr1, fr1, cr2, fr2, cr3, fr3, cr4, fr4]; done) | (simp (maxDischargeDepth := 8) [go_sem, cs0, fs0, cs1, fs1, cs2, fs2, cs3, fs3, cs4, fs4, cr0, fr0, cr1, fr1, cr2, fr2, cr3, fr3, cr4, fr4]; done) | (simp [go_sem, cs0, fs0, cs1, fs1, cs2, fs2, cs3, fs3, cs4, fs4, cr0, fr0, cr1, fr1, cr2, fr2, cr3, fr3, cr4, fr4]; rfl))) hb (by first | (simp; done) | (simp; omega) | omega))
  have bwr : Bw w4 (w.heap.size + 1) [.float .f32 0, .float .f32 0, .float .f32 0, .float .f32 0, .float .f32 0] := (by first | with_reducible exact Bw.below BWr3.out hb (by first | (simp; done) | (simp; omega) | omega) | with_reducible exact Bw.below (Bw.drewN BWr3.out _) hb (by first | (simp; done) | (simp; omega) | omega) | with_reducible exact Bw.below (Bw.alloc BWr3.out _) hb (by first | (simp; done) | (simp; omega) | omega) | with_reducible exact Bw.below (Bw.alloc (Bw.drewN BWr3.out _) _) hb (by first | (simp; done) | (simp; omega) | omega) | exact Bw.below (Bw.of5 (by first | (simp; done) | (simp; omega) | omega) (by first | (simp [go_sem, cs0, fs0, cs1, fs1, cs2, fs2, cs3, fs3, cs4, fs4, cr0, fr0, cr1, fr1, cr2, fr2, cr3, fr3, cr4, fr4]; done) | (simp (maxDischargeDepth := 8) [go_sem, cs0, fs0, cs1, fs1, cs2, fs2, cs3, fs3, cs4, fs4, cr0, fr0, cr1, fr1, cr2, fr2, cr3, fr3, cr4, fr4]; done) | (simp [go_sem, cs0, fs0, cs1, fs1, cs2, fs2, cs3, fs3, cs4, fs4, cr0, fr0, cr1, fr1, cr2, fr2, cr3, fr3, cr4, fr4]; rfl)) (by first | (simp [go_sem, cs0, fs0, cs1, fs1, cs2, fs2, cs3, fs3, cs4, fs4, cr0, fr0, cr1, fr1, cr2, fr2, cr3, fr3, cr4, fr4]; done) | (simp (maxDischargeDepth := 8) [go_sem, cs0, fs0, cs1, fs1, cs2, fs2, cs3, fs3, cs4, fs4, cr0, fr0, cr1, fr1, cr2, fr2, cr3, fr3, cr4, fr4]; done) | (simp [go_sem, cs0, fs0, cs1, fs1, cs2, fs2, cs3, fs3, cs4, fs4, cr0, fr0, cr1, fr1, cr2, fr2, cr3, fr3, cr4, fr4]; rfl)) (by first | (simp [go_sem, cs0, fs0, cs1, fs1, cs2, fs2, cs3, fs3, cs4, fs4, cr0, fr0, cr1, fr1, cr2, fr2, cr3, fr3, cr4, fr4]; done) | (simp (maxDischargeDepth := 8) [go_sem, cs0, fs0, cs1, fs1, cs2, fs2, cs3, fs3, cs4, fs4, cr0, fr0, cr1, fr1, cr2, fr2, cr3, fr3, cr4, fr4]; done) | (simp [go_sem, cs0, fs0, cs1, fs1, cs2, fs2, cs3, fs3, cs4, fs4, cr0, fr0, cr1, fr1, cr2, fr2, cr3, fr3, cr4, fr4]; rfl)) (by first | (simp [go_sem, cs0, fs0, cs1, fs1, cs2, fs2, cs3, fs3, cs4, fs4, cr0, fr0, cr1, fr1, cr2, fr2, cr3, fr3, cr4, fr4]; done) | (simp (maxDischargeDepth := 8) [go_sem, cs0, fs0, cs1, fs1, cs2, fs2, cs3, fs3, cs4, fs4, cr0, fr0, cr1, fr1, cr2, fr2, cr3, fr3, cr4, fr4]; done) | (simp [go_sem, cs0, fs0, cs1, fs1, cs2, fs2, cs3, fs3, cs4, fs4, cr0, fr0, cr1, fr1, cr2, fr2, cr3, fr3, cr4, fr4]; rfl)) (by first | (simp [go_sem, cs0, fs0, cs1, fs1, cs2, fs2, cs3, fs3, cs4, fs4, cr0, fr0, cr1, fr1, cr2, fr2, cr3, fr3, cr4, fr4]; done) | (simp (maxDischargeDepth := 8) [go_sem, cs0, fs0, cs1, fs1, cs2, fs2, cs3, fs3, cs4, fs4, cr0, fr0, cr1, fr1, cr2, fr2, cr3, fr3, cr4, fr4]; done) | (simp [go_sem, cs0, fs0, cs1, fs1, cs2, fs2, cs3, fs3, cs4, fs4, cr0, fr0, cr1, fr1, cr2, fr2, cr3, fr3, cr4, fr4]; rfl)) (by first | (simp [go_sem, cs0, fs0, cs1, fs1, cs2, fs2, cs3, fs3, cs4, fs4, cr0, fr0, cr1, fr1, cr2, fr2, cr3, fr3, cr4, fr4]; done) | (simp (maxDischargeDepth := 8) [go_sem, cs0, fs0, cs1, fs1, cs2, fs2, cs3, fs3, cs4, fs4, cr0, fr0, cr1, fr1, cr2, fr2, cr3, fr3, cr4, fr4]; done) | (simp [go_sem, cs0, fs0, cs1, fs1, cs2, fs2, cs3, fs3, cs4, fs4, cr0, fr0, cr1, fr1, cr2, fr2, cr3, fr3, cr4, fr4]; rfl)) (by first | (simp [go_sem, cs0, fs0, cs1, fs1, cs2, fs2, cs3, fs3, cs4, fs4, cr0, fr0, cr1, fr1, cr2, fr2, cr3, fr3, cr4, fr4]; done) | (simp (maxDischargeDepth := 8) [go_sem, cs0, fs0, cs1, fs1, cs2, fs2, cs3, fs3, cs4, fs4, cr0, fr0, cr1, fr1, cr2, fr2, cr3, fr3, cr4, fr4]; done) | (simp [go_sem, cs0, fs0, cs1, fs1, cs2, fs2, cs3, fs3, cs4, fs4, cr0, fr0, cr1, fr1, cr2, fr2, cr3, fr3, cr4, fr4]; rfl)) (by first | (simp [go_sem, cs0, fs0, cs1, fs1, cs2, fs2, cs3, fs3, cs4, fs4, cr0, fr0, cr1, fr1, cr2, fr2, cr3, fr3, cr4, fr4]; done) | (simp (maxDischargeDepth := 8) [go_sem, cs0, fs0, cs1, fs1, cs2, fs2, cs3, fs3, cs4, fs4, cr0, fr0, cr1, fr1, cr2, fr2, cr3, fr3, cr4, fr4]; done) | (simp [go_sem, cs0, fs0, cs1, fs1, cs2, fs2, cs3, fs3, cs4, fs4, cr0, fr0, cr1, fr1, cr2, fr2, cr3, fr3, cr4, fr4]; rfl)) (by first | (simp [go_sem, cs0, fs0, cs1, fs1, cs2, fs2, cs3, fs3, cs4, fs4, cr0, fr0, cr1, fr1, cr2, fr2, cr3, fr3, cr4, fr4]; done) | (simp (maxDischargeDepth := 8) [go_sem, cs0, fs0, cs1, fs1, cs2, fs2, cs3, fs3, cs4, fs4, cr0, fr0, cr1, fr1, cr2, fr2, cr3, fr3, cr4, fr4]; done) | (simp [go_sem, cs0, fs0, cs1, fs1, cs2, fs2, cs3, fs3, cs4, fs4, cr0, fr0, cr1, fr1, cr2, fr2, cr3, fr3, cr4, fr4]; rfl)) (by first | (simp [go_sem, cs0, fs0, cs1, fs1, cs2, fs2, cs3, fs3, cs4, fs4, cr0, fr0, cr1, fr1, cr2, fr2, cr3, fr3, cr4, fr4]; done) | (simp (maxDischargeDepth := 8) [go_sem, cs0, fs0, cs1, fs1, cs2, fs2, cs3, fs3, cs4, fs4, cr0, fr0, cr1, fr1, cr2, fr2, cr3, fr3, cr4, fr4]; done) | (simp [go_sem, cs0, fs0, cs1, fs1, cs2, fs2, cs3, fs3, cs4, fs4, cr0, fr0, cr1, fr1, cr2, fr2, cr3, fr3, cr4, fr4]; rfl))) hb (by first | (simp; done) | (simp; omega) | omega))
  clear cs0 fs0 cs1 fs1 cs2 fs2 cs3 fs3 cs4 fs4 cr0 fr0 cr1 fr1 cr2 fr2 cr3 fr3 cr4 fr4 BWs3 BWr3
  have cs0 := bws.c 0 rfl
  have fs0 := bws.f 0 (by simp)
  have cs1 := bws.c 1 rfl
  have fs1 := bws.f 1 (by simp)
  have cs2 := bws.c 2 rfl
  have fs2 := bws.f 2 (by simp)
  have cs3 := bws.c 3 rfl
  have fs3 := bws.f 3 (by simp)
  have cs4 := bws.c 4 rfl
  have fs4 := bws.f 4 (by simp)
  have BWs4 := Lib.hid bws
  clear bws
  have cr0 := bwr.c 0 rfl
  have fr0 := bwr.f 0 (by simp)
  have cr1 := bwr.c 1 rfl
  have fr1 := bwr.f 1 (by simp)
  have cr2 := bwr.c 2 rfl
  have fr2 := bwr.f 2 (by simp)
  have cr3 := bwr.c 3 rfl
  have fr3 := bwr.f 3 (by simp)
  have cr4 := bwr.c 4 rfl
  have fr4 := bwr.f 4 (by simp)
  have BWr4 := Lib.hid bwr
  clear bwr
  have Hb4 := Lib.hid hb4
  clear hb hb4
  go_wp2_with fail
  refine at_f32 (fun R => Oper.upon _ _ _ _ _ (Result.andThen R _)) _ _ (by decide) (by first | assumption | exact Is32.c (by decide)) (by first | assumption | exact Is32.c (by decide)) ?_
  intro u nu hu
  go_wp2_with fail
  refine at_f32 (fun R => Oper.upon _ _ _ _ _ (Result.andThen R _)) _ _ (by decide) (by first | assumption | exact Is32.c (by decide)) (by first | assumption | exact Is32.c (by decide)) ?_
  intro o no ho
  go_wp2_with fail
  exact bodyPost_ret (v := .tuple #[.agg #[.float .f32 a0, .float .f32 a1, .float .f32 a2, .float .f32 a3, .float .f32 u], .float .f32 o, .float .f32 g, .bool true]) (by simp [results, Try.results74, go_sem, cs0, fs0, cs1, fs1, cs2, fs2, cs3, fs3, cs4, fs4, cr0, fr0, cr1, fr1, cr2, fr2, cr3, fr3, cr4, fr4]) rfl ⟨a0, a1, a2, a3, u, o, g, rfl, ⟨h0, h1, h2, h3, hu, ho, hg⟩, (by repeat (first | with_reducible exact Hb4.out | with_reducible refine beld ?_ _ | (with_reducible refine Below.alloc ?_ ?_ _; rotate_left; exact (by first | (simp; done) | (simp; omega) | omega)) | (with_reducible refine Below.setCell ?_ ?_ _; rotate_left; exact (by first | (simp; done) | (simp; omega) | omega))))⟩

theorem stepSoil_i {A0 A1 A2 A3 A4 X T : Option Nat} {a0 a1 a2 a3 a4 x t : Nat} (w : World) (h0 : Is32 A0 a0) (h1 : Is32 A1 a1) (h2 : Is32 A2 a2) (h3 : Is32 A3 a3) (h4 : Is32 A4 a4) (hx : Is32 X x) (ht : Is32 T t) : Calls Try.prog 74 #[.agg #[.float .f32 a0, .float .f32 a1, .float .f32 a2, .float .f32 a3, .float .f32 a4], .float .f32 x, .float .f32 t] w (StepB (stepO A0 A1 A2 A3 A4 X T) w) := by
  unfold stepO
  cases hs : soilO A0 A1 A2 A3 A4
  · exact stepI_bad w h0 h1 h2 h3 h4 hx ht hs
  cases hc : fin32o (canO A0 A1 A4)
  · exact stepI_inf w h0 h1 h2 h3 h4 hx ht hs hc
  cases hX : amtO X
  · exact stepI_amt w h0 h1 h2 h3 h4 hx ht hs hc hX
  cases hT : posO T
  · exact stepI_pos w h0 h1 h2 h3 h4 hx ht hs hc hX hT
  · exact stepI_yes w h0 h1 h2 h3 h4 hx ht hs hc hX hT
end Go.Proofs.Ytdoecpghlfjhiac
