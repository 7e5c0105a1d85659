/- A tick of snow, path by path: the program. -/
import Derived.Test.YtfdcfalkidcdnabSnowH
namespace Go.Proofs.Ytfdcfalkidcdnab
open Go.RowKit
set_option linter.unusedVariables false
set_option linter.unusedSimpArgs false
set_option maxRecDepth 100000
attribute [local irreducible] wpV wpList Code.wp

set_option maxHeartbeats 4000000 in
theorem snowI_010 {A0 A1 A2 A3 X V T : Option Nat} {a0 a1 a2 a3 x v t : Nat} (w : World) (h0 : Is32 A0 a0) (h1 : Is32 A1 a1) (h2 : Is32 A2 a2) (h3 : Is32 A3 a3) (hx : Is32 X x) (hv : Is32 V v) (ht : Is32 T t) (hs : snowO A0 A1 A2 A3 = true) (hX : amtO X = true) (hV : fin32o V = true) (hT : posO T = true) (c1 : fcmp .leq .f32 V (some 0) = false) (c2 : fcmp .gtr .f32 (fop .mul .f32 (fop .mul .f32 A0 V) T) A2 = true) (c3 : fcmp .gtr .f32 (fop .sub .f32 (fop .add .f32 A3 (fop .add .f32 A2 X)) (fop .mul .f32 A1 (fop .sub .f32 A2 A2))) (some 0) = false) :
    Calls Try.prog 53 #[.agg #[.float .f32 a0, .float .f32 a1, .float .f32 a2, .float .f32 a3], .float .f32 x, .float .f32 v, .float .f32 t] w (SnowB (snowTry A0 A1 A2 A3 X V T) w) := by
  have eR : snowTry A0 A1 A2 A3 X V T = (if snowO A0 A1 (fop .sub .f32 A2 A2) (fop .add .f32 A3 (fop .add .f32 A2 X)) && fin32o (some 0) then ⟨A0, A1, (fop .sub .f32 A2 A2), (fop .add .f32 A3 (fop .add .f32 A2 X)), (some 0), true⟩ else failSnow) := by
    unfold snowTry
    have e1 : iceO A0 A2 X V T = (fop .sub .f32 A2 A2) := by simp only [iceO, meltO, capO, c1, c2, if_true, if_false, Bool.false_eq_true]
    have e2 : watO A0 A2 A3 X V T = (fop .add .f32 A3 (fop .add .f32 A2 X)) := by simp only [watO, meltO, capO, c1, c2, if_true, if_false, Bool.false_eq_true]
    rw [e1, e2]
    unfold endO
    rw [c3]
    rfl
  obtain ⟨R, hR⟩ : ∃ R, snowTry A0 A1 A2 A3 X V T = R := ⟨_, rfl⟩
  rw [hR]
  rw [eR] at hR
  have HR := Lib.hid hR
  clear hR eR
  have C1 := Lib.hid c1
  have C2 := Lib.hid c2
  have C3 := Lib.hid c3
  clear c1 c2 c3
  have HV0 := Lib.hid hs
  have HX := Lib.hid hX
  have HW := Lib.hid hV
  have HT := Lib.hid hT
  clear hs hX hV hT
  go_enter Try.func53, Try.ntmps53
  go_wp2_with fail
  refine (validSnow_i _ h0 h1 h2 h3).mono ?_
  rintro e w1 ⟨bb, hbb, rfl, hb⟩
  obtain rfl := hbb.symm.trans HV0.out
  clear hbb
  have hb1 : Below w.heap.size w w1 := Below.trans (by repeat (first | with_reducible exact (bel2 _ _ _ ) | with_reducible refine beld ?_ _ | (with_reducible refine Below.alloc ?_ ?_ _; rotate_left; exact (by first | (simp; done) | (simp; omega) | omega)) | (with_reducible refine Below.setCell ?_ ?_ _; rotate_left; exact (by first | (simp; done) | (simp; omega) | omega)))) (hb.mono (by first | (simp; done) | (simp; omega) | omega))
  have hs1 : w.heap.size + 2 ≤ w1.heap.size := (by have := hb.size; (try simp at this); omega)
  have bws : Bw w1 (w.heap.size) [.float .f32 a0, .float .f32 a1, .float .f32 a2, .float .f32 a3] := (by first | exact Bw.below (Bw.of4 (by first | (simp; done) | (simp; omega) | omega) (by first | (simp [go_sem]; done) | (simp (maxDischargeDepth := 8) [go_sem]; done) | (simp [go_sem]; rfl)) (by first | (simp [go_sem]; done) | (simp (maxDischargeDepth := 8) [go_sem]; done) | (simp [go_sem]; rfl)) (by first | (simp [go_sem]; done) | (simp (maxDischargeDepth := 8) [go_sem]; done) | (simp [go_sem]; rfl)) (by first | (simp [go_sem]; done) | (simp (maxDischargeDepth := 8) [go_sem]; done) | (simp [go_sem]; rfl)) (by first | (simp [go_sem]; done) | (simp (maxDischargeDepth := 8) [go_sem]; done) | (simp [go_sem]; rfl)) (by first | (simp [go_sem]; done) | (simp (maxDischargeDepth := 8) [go_sem]; done) | (simp [go_sem]; rfl)) (by first | (simp [go_sem]; done) | (simp (maxDischargeDepth := 8) [go_sem]; done) | (simp [go_sem]; rfl)) (by first | (simp [go_sem]; done) | (simp (maxDischargeDepth := 8) [go_sem]; done) | (simp [go_sem]; rfl))) hb (by first | (simp; done) | (simp; omega) | omega))
  have bwr : Bw w1 (w.heap.size + 1) [.float .f32 0, .float .f32 0, .float .f32 0, .float .f32 0] := (by first | exact Bw.below (Bw.of4 (by first | (simp; done) | (simp; omega) | omega) (by first | (simp [go_sem]; done) | (simp (maxDischargeDepth := 8) [go_sem]; done) | (simp [go_sem]; rfl)) (by first | (simp [go_sem]; done) | (simp (maxDischargeDepth := 8) [go_sem]; done) | (simp [go_sem]; rfl)) (by first | (simp [go_sem]; done) | (simp (maxDischargeDepth := 8) [go_sem]; done) | (simp [go_sem]; rfl)) (by first | (simp [go_sem]; done) | (simp (maxDischargeDepth := 8) [go_sem]; done) | (simp [go_sem]; rfl)) (by first | (simp [go_sem]; done) | (simp (maxDischargeDepth := 8) [go_sem]; done) | (simp [go_sem]; rfl)) (by first | (simp [go_sem]; done) | (simp (maxDischargeDepth := 8) [go_sem]; done) | (simp [go_sem]; rfl)) (by first | (simp [go_sem]; done) | (simp (maxDischargeDepth := 8) [go_sem]; done) | (simp [go_sem]; rfl)) (by first | (simp [go_sem]; done) | (simp (maxDischargeDepth := 8) [go_sem]; done) | (simp [go_sem]; rfl))) hb (by first | (simp; done) | (simp; omega) | omega))
  have cs0 := bws.c 0 rfl
  have fs0 := bws.f 0 (by simp)
  have cs1 := bws.c 1 rfl
  have fs1 := bws.f 1 (by simp)
  have cs2 := bws.c 2 rfl
  have fs2 := bws.f 2 (by simp)
  have cs3 := bws.c 3 rfl
  have fs3 := bws.f 3 (by simp)
  have BWs1 := Lib.hid bws
  clear bws
  have cr0 := bwr.c 0 rfl
  have fr0 := bwr.f 0 (by simp)
  have cr1 := bwr.c 1 rfl
  have fr1 := bwr.f 1 (by simp)
  have cr2 := bwr.c 2 rfl
  have fr2 := bwr.f 2 (by simp)
  have cr3 := bwr.c 3 rfl
  have fr3 := bwr.f 3 (by simp)
  have BWr1 := Lib.hid bwr
  clear bwr
  have Hb1 := Lib.hid hb1
  clear hb hb1
  go_wp2_with fail
  refine (isAmount_o _ hx).mono ?_
  rintro e w' ⟨bb, hbb, rfl, rfl⟩
  obtain rfl := hbb.symm.trans HX.out
  clear hbb
  go_wp2_with fail
  refine (isFin_o _ hv).mono ?_
  rintro e w' ⟨bb, hbb, rfl, rfl⟩
  obtain rfl := hbb.symm.trans HW.out
  clear hbb
  go_wp2_with fail
  refine (isPositive_o _ ht).mono ?_
  rintro e w' ⟨bb, hbb, rfl, rfl⟩
  obtain rfl := hbb.symm.trans HT.out
  clear hbb
  go_wp2_with (first | ((with_reducible refine wpList_bin ?_); refine wpList_c32 rfl _ _ _ _ _ rfl rfl rfl (by decide) (by first | assumption | exact Is32.c (by decide)) (by first | assumption | exact Is32.c (by decide)) ?_; intro bb hbb; obtain rfl := hbb.symm.trans C1.out; clear hbb))
  refine at_f32 (fun R => Oper.upon _ _ _ _ _ (Result.andThen R _)) _ _ (by decide) (by first | assumption | exact Is32.c (by decide)) (by first | assumption | exact Is32.c (by decide)) ?_
  intro m0 nm0 hm0
  go_wp2_with fail
  refine at_f32 (fun R => Oper.upon _ _ _ _ _ (Result.andThen R _)) _ _ (by decide) (by first | assumption | exact Is32.c (by decide)) (by first | assumption | exact Is32.c (by decide)) ?_
  intro m1 nm1 hm1
  go_wp2_with fail
  refine (atMost_o _ hm1 h2).mono ?_
  rintro e w2 ⟨m, rfl, hm', hb⟩
  have hm : Is32 A2 m := by have h9 := hm'; unfold capO at h9; rw [C2.out] at h9; exact h9
  clear hm'
  have hb2 : Below w.heap.size w w2 := Below.trans (by repeat (first | with_reducible exact Hb1.out | with_reducible refine beld ?_ _ | (with_reducible refine Below.alloc ?_ ?_ _; rotate_left; exact (by first | (simp; done) | (simp; omega) | omega)) | (with_reducible refine Below.setCell ?_ ?_ _; rotate_left; exact (by first | (simp; done) | (simp; omega) | omega)))) (hb.mono (by first | (simp; done) | (simp; omega) | omega))
  have hs2 : w.heap.size + 2 ≤ w2.heap.size := (by have := hb.size; (try simp at this); omega)
  have bws : Bw w2 (w.heap.size) [.float .f32 a0, .float .f32 a1, .float .f32 a2, .float .f32 a3] := (by first | with_reducible exact Bw.below BWs1.out hb (by first | (simp; done) | (simp; omega) | omega) | with_reducible exact Bw.below (Bw.drewN BWs1.out _) hb (by first | (simp; done) | (simp; omega) | omega) | with_reducible exact Bw.below (Bw.alloc BWs1.out _) hb (by first | (simp; done) | (simp; omega) | omega) | with_reducible exact Bw.below (Bw.alloc (Bw.drewN BWs1.out _) _) hb (by first | (simp; done) | (simp; omega) | omega) | exact Bw.below (Bw.of4 (by first | (simp; done) | (simp; omega) | omega) (by first | (simp [go_sem, cs0, fs0, cs1, fs1, cs2, fs2, cs3, fs3, cr0, fr0, cr1, fr1, cr2, fr2, cr3, fr3]; done) | (simp (maxDischargeDepth := 8) [go_sem, cs0, fs0, cs1, fs1, cs2, fs2, cs3, fs3, cr0, fr0, cr1, fr1, cr2, fr2, cr3, fr3]; done) | (simp [go_sem, cs0, fs0, cs1, fs1, cs2, fs2, cs3, fs3, cr0, fr0, cr1, fr1, cr2, fr2, cr3, fr3]; rfl)) (by first | (simp [go_sem, cs0, fs0, cs1, fs1, cs2, fs2, cs3, fs3, cr0, fr0, cr1, fr1, cr2, fr2, cr3, fr3]; done) | (simp (maxDischargeDepth := 8) [go_sem, cs0, fs0, cs1, fs1, cs2, fs2, cs3, fs3, cr0, fr0, cr1, fr1, cr2, fr2, cr3, fr3]; done) | (simp [go_sem, cs0, fs0, cs1, fs1, cs2, fs2, cs3, fs3, cr0, fr0, cr1, fr1, cr2, fr2, cr3, fr3]; rfl)) (by first | (simp [go_sem, cs0, fs0, cs1, fs1, cs2, fs2, cs3, fs3, cr0, fr0, cr1, fr1, cr2, fr2, cr3, fr3]; done) | (simp (maxDischargeDepth := 8) [go_sem, cs0, fs0, cs1, fs1, cs2, fs2, cs3, fs3, cr0, fr0, cr1, fr1, cr2, fr2, cr3, fr3]; done) | (simp [go_sem, cs0, fs0, cs1, fs1, cs2, fs2, cs3, fs3, cr0, fr0, cr1, fr1, cr2, fr2, cr3, fr3]; rfl)) (by first | (simp [go_sem, cs0, fs0, cs1, fs1, cs2, fs2, cs3, fs3, cr0, fr0, cr1, fr1, cr2, fr2, cr3, fr3]; done) | (simp (maxDischargeDepth := 8) [go_sem, cs0, fs0, cs1, fs1, cs2, fs2, cs3, fs3, cr0, fr0, cr1, fr1, cr2, fr2, cr3, fr3]; done) | (simp [go_sem, cs0, fs0, cs1, fs1, cs2, fs2, cs3, fs3, cr0, fr0, cr1, fr1, cr2, fr2, cr3, fr3]; rfl)) (by first | (simp [go_sem, cs0, fs0, cs1, fs1, cs2, fs2, cs3, fs3, cr0, fr0, cr1, fr1, cr2, fr2, cr3, fr3]; done) | (simp (maxDischargeDepth := 8) [go_sem, cs0, fs0, cs1, fs1, cs2, fs2, cs3, fs3, cr0, fr0, cr1, fr1, cr2, fr2, cr3, fr3]; done) | (simp [go_sem, cs0, fs0, cs1, fs1, cs2, fs2, cs3, fs3, cr0, fr0, cr1, fr1, cr2, fr2, cr3, fr3]; rfl)) (by first | (simp [go_sem, cs0, fs0, cs1, fs1, cs2, fs2, cs3, fs3, cr0, fr0, cr1, fr1, cr2, fr2, cr3, fr3]; done) | (simp (maxDischargeDepth := 8) [go_sem, cs0, fs0, cs1, fs1, cs2, fs2, cs3, fs3, cr0, fr0, cr1, fr1, cr2, fr2, cr3, fr3]; done) | (simp [go_sem, cs0, fs0, cs1, fs1, cs2, fs2, cs3, fs3, cr0, fr0, cr1, fr1, cr2, fr2, cr3, fr3]; rfl)) (by first | (simp [go_sem, cs0, fs0, cs1, fs1, cs2, fs2, cs3, fs3, cr0, fr0, cr1, fr1, cr2, fr2, cr3, fr3]; done) | (simp (maxDischargeDepth := 8) [go_sem, cs0, fs0, cs1, fs1, cs2, fs2, cs3, fs3, cr0, fr0, cr1, fr1, cr2, fr2, cr3, fr3]; done) | (simp [go_sem, cs0, fs0, cs1, fs1, cs2, fs2, cs3, fs3, cr0, fr0, cr1, fr1, cr2, fr2, cr3, fr3]; rfl)) (by first | (simp [go_sem, cs0, fs0, cs1, fs1, cs2, fs2, cs3, fs3, cr0, fr0, cr1, fr1, cr2, fr2, cr3, fr3]; done) | (simp (maxDischargeDepth := 8) [go_sem, cs0, fs0, cs1, fs1, cs2, fs2, cs3, fs3, cr0, fr0, cr1, fr1, cr2, fr2, cr3, fr3]; done) | (simp [go_sem, cs0, fs0, cs1, fs1, cs2, fs2, cs3, fs3, cr0, fr0, cr1, fr1, cr2, fr2, cr3, fr3]; rfl))) hb (by first | (simp; done) | (simp; omega) | omega))
  have bwr : Bw w2 (w.heap.size + 1) [.float .f32 0, .float .f32 0, .float .f32 0, .float .f32 0] := (by first | with_reducible exact Bw.below BWr1.out hb (by first | (simp; done) | (simp; omega) | omega) | with_reducible exact Bw.below (Bw.drewN BWr1.out _) hb (by first | (simp; done) | (simp; omega) | omega) | with_reducible exact Bw.below (Bw.alloc BWr1.out _) hb (by first | (simp; done) | (simp; omega) | omega) | with_reducible exact Bw.below (Bw.alloc (Bw.drewN BWr1.out _) _) hb (by first | (simp; done) | (simp; omega) | omega) | exact Bw.below (Bw.of4 (by first | (simp; done) | (simp; omega) | omega) (by first | (simp [go_sem, cs0, fs0, cs1, fs1, cs2, fs2, cs3, fs3, cr0, fr0, cr1, fr1, cr2, fr2, cr3, fr3]; done) | (simp (maxDischargeDepth := 8) [go_sem, cs0, fs0, cs1, fs1, cs2, fs2, cs3, fs3, cr0, fr0, cr1, fr1, cr2, fr2, cr3, fr3]; done) | (simp [go_sem, cs0, fs0, cs1, fs1, cs2, fs2, cs3, fs3, cr0, fr0, cr1, fr1, cr2, fr2, cr3, fr3]; rfl)) (by first | (simp [go_sem, cs0, fs0, cs1, fs1, cs2, fs2, cs3, fs3, cr0, fr0, cr1, fr1, cr2, fr2, cr3, fr3]; done) | (simp (maxDischargeDepth := 8) [go_sem, cs0, fs0, cs1, fs1, cs2, fs2, cs3, fs3, cr0, fr0, cr1, fr1, cr2, fr2, cr3, fr3]; done) | (simp [go_sem, cs0, fs0, cs1, fs1, cs2, fs2, cs3, fs3, cr0, fr0, cr1, fr1, cr2, fr2, cr3, fr3]; rfl)) (by first | (simp [go_sem, cs0, fs0, cs1, fs1, cs2, fs2, cs3, fs3, cr0, fr0, cr1, fr1, cr2, fr2, cr3, fr3]; done) | (simp (maxDischargeDepth := 8) [go_sem, cs0, fs0, cs1, fs1, cs2, fs2, cs3, fs3, cr0, fr0, cr1, fr1, cr2, fr2, cr3, fr3]; done) | (simp [go_sem, cs0, fs0, cs1, fs1, cs2, fs2, cs3, fs3, cr0, fr0, cr1, fr1, cr2, fr2, cr3, fr3]; rfl)) (by first | (simp [go_sem, cs0, fs0, cs1, fs1, cs2, fs2, cs3, fs3, cr0, fr0, cr1, fr1, cr2, fr2, cr3, fr3]; done) | (simp (maxDischargeDepth := 8) [go_sem, cs0, fs0, cs1, fs1, cs2, fs2, cs3, fs3, cr0, fr0, cr1, fr1, cr2, fr2, cr3, fr3]; done) | (simp [go_sem, cs0, fs0, cs1, fs1, cs2, fs2, cs3, fs3, cr0, fr0, cr1, fr1, cr2, fr2, cr3, fr3]; rfl)) (by first | (simp [go_sem, cs0, fs0, cs1, fs1, cs2, fs2, cs3, fs3, cr0, fr0, cr1, fr1, cr2, fr2, cr3, fr3]; done) | (simp (maxDischargeDepth := 8) [go_sem, cs0, fs0, cs1, fs1, cs2, fs2, cs3, fs3, cr0, fr0, cr1, fr1, cr2, fr2, cr3, fr3]; done) | (simp [go_sem, cs0, fs0, cs1, fs1, cs2, fs2, cs3, fs3, cr0, fr0, cr1, fr1, cr2, fr2, cr3, fr3]; rfl)) (by first | (simp [go_sem, cs0, fs0, cs1, fs1, cs2, fs2, cs3, fs3, cr0, fr0, cr1, fr1, cr2, fr2, cr3, fr3]; done) | (simp (maxDischargeDepth := 8) [go_sem, cs0, fs0, cs1, fs1, cs2, fs2, cs3, fs3, cr0, fr0, cr1, fr1, cr2, fr2, cr3, fr3]; done) | (simp [go_sem, cs0, fs0, cs1, fs1, cs2, fs2, cs3, fs3, cr0, fr0, cr1, fr1, cr2, fr2, cr3, fr3]; rfl)) (by first | (simp [go_sem, cs0, fs0, cs1, fs1, cs2, fs2, cs3, fs3, cr0, fr0, cr1, fr1, cr2, fr2, cr3, fr3]; done) | (simp (maxDischargeDepth := 8) [go_sem, cs0, fs0, cs1, fs1, cs2, fs2, cs3, fs3, cr0, fr0, cr1, fr1, cr2, fr2, cr3, fr3]; done) | (simp [go_sem, cs0, fs0, cs1, fs1, cs2, fs2, cs3, fs3, cr0, fr0, cr1, fr1, cr2, fr2, cr3, fr3]; rfl)) (by first | (simp [go_sem, cs0, fs0, cs1, fs1, cs2, fs2, cs3, fs3, cr0, fr0, cr1, fr1, cr2, fr2, cr3, fr3]; done) | (simp (maxDischargeDepth := 8) [go_sem, cs0, fs0, cs1, fs1, cs2, fs2, cs3, fs3, cr0, fr0, cr1, fr1, cr2, fr2, cr3, fr3]; done) | (simp [go_sem, cs0, fs0, cs1, fs1, cs2, fs2, cs3, fs3, cr0, fr0, cr1, fr1, cr2, fr2, cr3, fr3]; rfl))) hb (by first | (simp; done) | (simp; omega) | omega))
  clear cs0 fs0 cs1 fs1 cs2 fs2 cs3 fs3 cr0 fr0 cr1 fr1 cr2 fr2 cr3 fr3 BWs1 BWr1
  have cs0 := bws.c 0 rfl
  have fs0 := bws.f 0 (by simp)
  have cs1 := bws.c 1 rfl
  have fs1 := bws.f 1 (by simp)
  have cs2 := bws.c 2 rfl
  have fs2 := bws.f 2 (by simp)
  have cs3 := bws.c 3 rfl
  have fs3 := bws.f 3 (by simp)
  have BWs2 := Lib.hid bws
  clear bws
  have cr0 := bwr.c 0 rfl
  have fr0 := bwr.f 0 (by simp)
  have cr1 := bwr.c 1 rfl
  have fr1 := bwr.f 1 (by simp)
  have cr2 := bwr.c 2 rfl
  have fr2 := bwr.f 2 (by simp)
  have cr3 := bwr.c 3 rfl
  have fr3 := bwr.f 3 (by simp)
  have BWr2 := Lib.hid bwr
  clear bwr
  have Hb2 := Lib.hid hb2
  clear hb hb2
  go_wp2_with fail
  refine at_f32 (fun R => Oper.upon _ _ _ _ _ (Result.andThen R _)) _ _ (by decide) (by first | assumption | exact Is32.c (by decide)) (by first | assumption | exact Is32.c (by decide)) ?_
  intro i1 ni1 hi1
  go_wp2_with fail
  refine at_f32 (fun R => Oper.upon _ _ _ _ _ (Result.andThen R _)) _ _ (by decide) (by first | assumption | exact Is32.c (by decide)) (by first | assumption | exact Is32.c (by decide)) ?_
  intro s1 ns1 hs1
  go_wp2_with fail
  refine at_f32 (fun R => Oper.upon _ _ _ _ _ (Result.andThen R _)) _ _ (by decide) (by first | assumption | exact Is32.c (by decide)) (by first | assumption | exact Is32.c (by decide)) ?_
  intro s2 ns2 hs2
  go_wp2_with fail
  refine at_f32 (fun R => Oper.upon _ _ _ _ _ (Result.andThen R _)) _ _ (by decide) (by first | assumption | exact Is32.c (by decide)) (by first | assumption | exact Is32.c (by decide)) ?_
  intro k1 nk1 hk1
  go_wp2_with fail
  refine at_f32 (fun R => Oper.upon _ _ _ _ _ (Result.andThen R _)) _ _ (by decide) (by first | assumption | exact Is32.c (by decide)) (by first | assumption | exact Is32.c (by decide)) ?_
  intro o1 no1 ho1
  go_wp2_with (first | ((with_reducible refine wpList_bin ?_); refine wpList_c32 rfl _ _ _ _ _ rfl rfl rfl (by decide) (by first | assumption | exact Is32.c (by decide)) (by first | assumption | exact Is32.c (by decide)) ?_; intro bb hbb; obtain rfl := hbb.symm.trans C3.out; clear hbb))
  refine (validSnow_i _ h0 h1 hi1 hs2).mono ?_
  rintro e w3 ⟨bb, hbb, rfl, hb⟩
  have hb3 : Below w.heap.size w w3 := Below.trans (by repeat (first | with_reducible exact Hb2.out | with_reducible refine beld ?_ _ | (with_reducible refine Below.alloc ?_ ?_ _; rotate_left; exact (by first | (simp; done) | (simp; omega) | omega)) | (with_reducible refine Below.setCell ?_ ?_ _; rotate_left; exact (by first | (simp; done) | (simp; omega) | omega)))) (hb.mono (by first | (simp; done) | (simp; omega) | omega))
  have hs3 : w.heap.size + 2 ≤ w3.heap.size := (by have := hb.size; (try simp at this); omega)
  have bws : Bw w3 (w.heap.size) [.float .f32 a0, .float .f32 a1, .float .f32 i1, .float .f32 s2] := (by first | with_reducible exact Bw.below BWs2.out hb (by first | (simp; done) | (simp; omega) | omega) | with_reducible exact Bw.below (Bw.drewN BWs2.out _) hb (by first | (simp; done) | (simp; omega) | omega) | with_reducible exact Bw.below (Bw.alloc BWs2.out _) hb (by first | (simp; done) | (simp; omega) | omega) | with_reducible exact Bw.below (Bw.alloc (Bw.drewN BWs2.out _) _) hb (by first | (simp; done) | (simp; omega) | omega) | exact Bw.below (Bw.of4 (by first | (simp; done) | (simp; omega) | omega) (by first | (simp [go_sem, cs0, fs0, cs1, fs1, cs2, fs2, cs3, fs3, cr0, fr0, cr1, fr1, cr2, fr2, cr3, fr3]; done) | (simp (maxDischargeDepth := 8) [go_sem, cs0, fs0, cs1, fs1, cs2, fs2, cs3, fs3, cr0, fr0, cr1, fr1, cr2, fr2, cr3, fr3]; done) | (simp [go_sem, cs0, fs0, cs1, fs1, cs2, fs2, cs3, fs3, cr0, fr0, cr1, fr1, cr2, fr2, cr3, fr3]; rfl)) (by first | (simp [go_sem, cs0, fs0, cs1, fs1, cs2, fs2, cs3, fs3, cr0, fr0, cr1, fr1, cr2, fr2, cr3, fr3]; done) | (simp (maxDischargeDepth := 8) [go_sem, cs0, fs0, cs1, fs1, cs2, fs2, cs3, fs3, cr0, fr0, cr1, fr1, cr2, fr2, cr3, fr3]; done) | (simp [go_sem, cs0, fs0, cs1, fs1, cs2, fs2, cs3, fs3, cr0, fr0, cr1, fr1, cr2, fr2, cr3, fr3]; rfl)) (by first | (simp [go_sem, cs0, fs0, cs1, fs1, cs2, fs2, cs3, fs3, cr0, fr0, cr1, fr1, cr2, fr2, cr3, fr3]; done) | (simp (maxDischargeDepth := 8) [go_sem, cs0, fs0, cs1, fs1, cs2, fs2, cs3, fs3, cr0, fr0, cr1, fr1, cr2, fr2, cr3, fr3]; done) | (simp [go_sem, cs0, fs0, cs1, fs1, cs2, fs2, cs3, fs3, cr0, fr0, cr1, fr1, cr2, fr2, cr3, fr3]; rfl)) (by first | (simp [go_sem, cs0, fs0, cs1, fs1, cs2, fs2, cs3, fs3, cr0, fr0, cr1, fr1, cr2, fr2, cr3, fr3]; done) | (simp (maxDischargeDepth := 8) [go_sem, cs0, fs0, cs1, fs1, cs2, fs2, cs3, fs3, cr0, fr0, cr1, fr1, cr2, fr2, cr3, fr3]; done) | (simp [go_sem, cs0, fs0, cs1, fs1, cs2, fs2, cs3, fs3, cr0, fr0, cr1, fr1, cr2, fr2, cr3, fr3]; rfl)) (by first | (simp [go_sem, cs0, fs0, cs1, fs1, cs2, fs2, cs3, fs3, cr0, fr0, cr1, fr1, cr2, fr2, cr3, fr3]; done) | (simp (maxDischargeDepth := 8) [go_sem, cs0, fs0, cs1, fs1, cs2, fs2, cs3, fs3, cr0, fr0, cr1, fr1, cr2, fr2, cr3, fr3]; done) | (simp [go_sem, cs0, fs0, cs1, fs1, cs2, fs2, cs3, fs3, cr0, fr0, cr1, fr1, cr2, fr2, cr3, fr3]; rfl)) (by first | (simp [go_sem, cs0, fs0, cs1, fs1, cs2, fs2, cs3, fs3, cr0, fr0, cr1, fr1, cr2, fr2, cr3, fr3]; done) | (simp (maxDischargeDepth := 8) [go_sem, cs0, fs0, cs1, fs1, cs2, fs2, cs3, fs3, cr0, fr0, cr1, fr1, cr2, fr2, cr3, fr3]; done) | (simp [go_sem, cs0, fs0, cs1, fs1, cs2, fs2, cs3, fs3, cr0, fr0, cr1, fr1, cr2, fr2, cr3, fr3]; rfl)) (by first | (simp [go_sem, cs0, fs0, cs1, fs1, cs2, fs2, cs3, fs3, cr0, fr0, cr1, fr1, cr2, fr2, cr3, fr3]; done) | (simp (maxDischargeDepth := 8) [go_sem, cs0, fs0, cs1, fs1, cs2, fs2, cs3, fs3, cr0, fr0, cr1, fr1, cr2, fr2, cr3, fr3]; done) | (simp [go_sem, cs0, fs0, cs1, fs1, cs2, fs2, cs3, fs3, cr0, fr0, cr1, fr1, cr2, fr2, cr3, fr3]; rfl)) (by first | (simp [go_sem, cs0, fs0, cs1, fs1, cs2, fs2, cs3, fs3, cr0, fr0, cr1, fr1, cr2, fr2, cr3, fr3]; done) | (simp (maxDischargeDepth := 8) [go_sem, cs0, fs0, cs1, fs1, cs2, fs2, cs3, fs3, cr0, fr0, cr1, fr1, cr2, fr2, cr3, fr3]; done) | (simp [go_sem, cs0, fs0, cs1, fs1, cs2, fs2, cs3, fs3, cr0, fr0, cr1, fr1, cr2, fr2, cr3, fr3]; rfl))) hb (by first | (simp; done) | (simp; omega) | omega))
  have bwr : Bw w3 (w.heap.size + 1) [.float .f32 0, .float .f32 0, .float .f32 0, .float .f32 0] := (by first | with_reducible exact Bw.below BWr2.out hb (by first | (simp; done) | (simp; omega) | omega) | with_reducible exact Bw.below (Bw.drewN BWr2.out _) hb (by first | (simp; done) | (simp; omega) | omega) | with_reducible exact Bw.below (Bw.alloc BWr2.out _) hb (by first | (simp; done) | (simp; omega) | omega) | with_reducible exact Bw.below (Bw.alloc (Bw.drewN BWr2.out _) _) hb (by first | (simp; done) | (simp; omega) | omega) | exact Bw.below (Bw.of4 (by first | (simp; done) | (simp; omega) | omega) (by first | (simp [go_sem, cs0, fs0, cs1, fs1, cs2, fs2, cs3, fs3, cr0, fr0, cr1, fr1, cr2, fr2, cr3, fr3]; done) | (simp (maxDischargeDepth := 8) [go_sem, cs0, fs0, cs1, fs1, cs2, fs2, cs3, fs3, cr0, fr0, cr1, fr1, cr2, fr2, cr3, fr3]; done) | (simp [go_sem, cs0, fs0, cs1, fs1, cs2, fs2, cs3, fs3, cr0, fr0, cr1, fr1, cr2, fr2, cr3, fr3]; rfl)) (by first | (simp [go_sem, cs0, fs0, cs1, fs1, cs2, fs2, cs3, fs3, cr0, fr0, cr1, fr1, cr2, fr2, cr3, fr3]; done) | (simp (maxDischargeDepth := 8) [go_sem, cs0, fs0, cs1, fs1, cs2, fs2, cs3, fs3, cr0, fr0, cr1, fr1, cr2, fr2, cr3, fr3]; done) | (simp [go_sem, cs0, fs0, cs1, fs1, cs2, fs2, cs3, fs3, cr0, fr0, cr1, fr1, cr2, fr2, cr3, fr3]; rfl)) (by first | (simp [go_sem, cs0, fs0, cs1, fs1, cs2, fs2, cs3, fs3, cr0, fr0, cr1, fr1, cr2, fr2, cr3, fr3]; done) | (simp (maxDischargeDepth := 8) [go_sem, cs0, fs0, cs1, fs1, cs2, fs2, cs3, fs3, cr0, fr0, cr1, fr1, cr2, fr2, cr3, fr3]; done) | (simp [go_sem, cs0, fs0, cs1, fs1, cs2, fs2, cs3, fs3, cr0, fr0, cr1, fr1, cr2, fr2, cr3, fr3]; rfl)) (by first | (simp [go_sem, cs0, fs0, cs1, fs1, cs2, fs2, cs3, fs3, cr0, fr0, cr1, fr1, cr2, fr2, cr3, fr3]; done) | (simp (maxDischargeDepth := 8) [go_sem, cs0, fs0, cs1, fs1, cs2, fs2, cs3, fs3, cr0, fr0, cr1, fr1, cr2, fr2, cr3, fr3]; done) | (simp [go_sem, cs0, fs0, cs1, fs1, cs2, fs2, cs3, fs3, cr0, fr0, cr1, fr1, cr2, fr2, cr3, fr3]; rfl)) (by first | (simp [go_sem, cs0, fs0, cs1, fs1, cs2, fs2, cs3, fs3, cr0, fr0, cr1, fr1, cr2, fr2, cr3, fr3]; done) | (simp (maxDischargeDepth := 8) [go_sem, cs0, fs0, cs1, fs1, cs2, fs2, cs3, fs3, cr0, fr0, cr1, fr1, cr2, fr2, cr3, fr3]; done) | (simp [go_sem, cs0, fs0, cs1, fs1, cs2, fs2, cs3, fs3, cr0, fr0, cr1, fr1, cr2, fr2, cr3, fr3]; rfl)) (by first | (simp [go_sem, cs0, fs0, cs1, fs1, cs2, fs2, cs3, fs3, cr0, fr0, cr1, fr1, cr2, fr2, cr3, fr3]; done) | (simp (maxDischargeDepth := 8) [go_sem, cs0, fs0, cs1, fs1, cs2, fs2, cs3, fs3, cr0, fr0, cr1, fr1, cr2, fr2, cr3, fr3]; done) | (simp [go_sem, cs0, fs0, cs1, fs1, cs2, fs2, cs3, fs3, cr0, fr0, cr1, fr1, cr2, fr2, cr3, fr3]; rfl)) (by first | (simp [go_sem, cs0, fs0, cs1, fs1, cs2, fs2, cs3, fs3, cr0, fr0, cr1, fr1, cr2, fr2, cr3, fr3]; done) | (simp (maxDischargeDepth := 8) [go_sem, cs0, fs0, cs1, fs1, cs2, fs2, cs3, fs3, cr0, fr0, cr1, fr1, cr2, fr2, cr3, fr3]; done) | (simp [go_sem, cs0, fs0, cs1, fs1, cs2, fs2, cs3, fs3, cr0, fr0, cr1, fr1, cr2, fr2, cr3, fr3]; rfl)) (by first | (simp [go_sem, cs0, fs0, cs1, fs1, cs2, fs2, cs3, fs3, cr0, fr0, cr1, fr1, cr2, fr2, cr3, fr3]; done) | (simp (maxDischargeDepth := 8) [go_sem, cs0, fs0, cs1, fs1, cs2, fs2, cs3, fs3, cr0, fr0, cr1, fr1, cr2, fr2, cr3, fr3]; done) | (simp [go_sem, cs0, fs0, cs1, fs1, cs2, fs2, cs3, fs3, cr0, fr0, cr1, fr1, cr2, fr2, cr3, fr3]; rfl))) hb (by first | (simp; done) | (simp; omega) | omega))
  clear cs0 fs0 cs1 fs1 cs2 fs2 cs3 fs3 cr0 fr0 cr1 fr1 cr2 fr2 cr3 fr3 BWs2 BWr2
  have cs0 := bws.c 0 rfl
  have fs0 := bws.f 0 (by simp)
  have cs1 := bws.c 1 rfl
  have fs1 := bws.f 1 (by simp)
  have cs2 := bws.c 2 rfl
  have fs2 := bws.f 2 (by simp)
  have cs3 := bws.c 3 rfl
  have fs3 := bws.f 3 (by simp)
  have BWs3 := Lib.hid bws
  clear bws
  have cr0 := bwr.c 0 rfl
  have fr0 := bwr.f 0 (by simp)
  have cr1 := bwr.c 1 rfl
  have fr1 := bwr.f 1 (by simp)
  have cr2 := bwr.c 2 rfl
  have fr2 := bwr.f 2 (by simp)
  have cr3 := bwr.c 3 rfl
  have fr3 := bwr.f 3 (by simp)
  have BWr3 := Lib.hid bwr
  clear bwr
  have Hb3 := Lib.hid hb3
  clear hb hb3
  have Hbb := Lib.hid hbb
  clear hbb
  cases bb with
  | false =>
    have e9 : R = failSnow := HR.out.symm.trans (by rw [Hbb.out]; rfl)
    subst e9
    go_wp2_with fail
    exact bodyPost_ret (v := .tuple #[.agg #[.float .f32 0, .float .f32 0, .float .f32 0, .float .f32 0], .float .f32 0, .bool false]) (by simp [results, Try.results53, go_sem, cs0, fs0, cs1, fs1, cs2, fs2, cs3, fs3, cr0, fr0, cr1, fr1, cr2, fr2, cr3, fr3]) rfl ⟨0, 0, 0, 0, 0, rfl, ⟨(Is32.c (by decide)), (Is32.c (by decide)), (Is32.c (by decide)), (Is32.c (by decide)), (Is32.c (by decide))⟩, (by repeat (first | with_reducible exact Hb3.out | with_reducible refine beld ?_ _ | (with_reducible refine Below.alloc ?_ ?_ _; rotate_left; exact (by first | (simp; done) | (simp; omega) | omega)) | (with_reducible refine Below.setCell ?_ ?_ _; rotate_left; exact (by first | (simp; done) | (simp; omega) | omega))))⟩
  | true =>
    go_wp2_with fail
    refine (isFin_o (X := (some 0)) _ (Is32.c (by decide))).mono ?_
    rintro e w' ⟨b2, hb2, rfl, rfl⟩
    have Hf2 := Lib.hid hb2
    clear hb2
    cases b2 with
    | false =>
      have e9 : R = failSnow := HR.out.symm.trans (by rw [Hbb.out, Hf2.out]; rfl)
      subst e9
      go_wp2_with fail
      exact bodyPost_ret (v := .tuple #[.agg #[.float .f32 0, .float .f32 0, .float .f32 0, .float .f32 0], .float .f32 0, .bool false]) (by simp [results, Try.results53, go_sem, cs0, fs0, cs1, fs1, cs2, fs2, cs3, fs3, cr0, fr0, cr1, fr1, cr2, fr2, cr3, fr3]) rfl ⟨0, 0, 0, 0, 0, rfl, ⟨(Is32.c (by decide)), (Is32.c (by decide)), (Is32.c (by decide)), (Is32.c (by decide)), (Is32.c (by decide))⟩, (by repeat (first | with_reducible exact Hb3.out | with_reducible refine beld ?_ _ | (with_reducible refine Below.alloc ?_ ?_ _; rotate_left; exact (by first | (simp; done) | (simp; omega) | omega)) | (with_reducible refine Below.setCell ?_ ?_ _; rotate_left; exact (by first | (simp; done) | (simp; omega) | omega))))⟩
    | true =>
      have e9 : R = ⟨A0, A1, (fop .sub .f32 A2 A2), (fop .add .f32 A3 (fop .add .f32 A2 X)), (some 0), true⟩ := HR.out.symm.trans (by rw [Hbb.out, Hf2.out]; rfl)
      subst e9
      go_wp2_with fail
      exact bodyPost_ret (v := .tuple #[.agg #[.float .f32 a0, .float .f32 a1, .float .f32 i1, .float .f32 s2], .float .f32 0, .bool true]) (by simp [results, Try.results53, go_sem, cs0, fs0, cs1, fs1, cs2, fs2, cs3, fs3, cr0, fr0, cr1, fr1, cr2, fr2, cr3, fr3]) rfl ⟨a0, a1, i1, s2, 0, rfl, ⟨h0, h1, hi1, hs2, (Is32.c (by decide))⟩, (by repeat (first | with_reducible exact Hb3.out | with_reducible refine beld ?_ _ | (with_reducible refine Below.alloc ?_ ?_ _; rotate_left; exact (by first | (simp; done) | (simp; omega) | omega)) | (with_reducible refine Below.setCell ?_ ?_ _; rotate_left; exact (by first | (simp; done) | (simp; omega) | omega))))⟩

end Go.Proofs.Ytfdcfalkidcdnab
