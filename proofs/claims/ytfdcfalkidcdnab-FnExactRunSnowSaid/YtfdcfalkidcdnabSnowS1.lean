/- A tick of snow, path by path: the model. -/
import Derived.Test.YtfdcfalkidcdnabSnowH
namespace Go.Proofs.Ytfdcfalkidcdnab
open Go.RowKit
set_option linter.unusedVariables false
set_option linter.unusedSimpArgs false
set_option maxRecDepth 100000
attribute [local irreducible] wpV wpList Code.wp

set_option maxHeartbeats 4000000 in
theorem snowS_001 {A0 A1 A2 A3 X V T : Option Nat} {a0 a1 a2 a3 x v t : Nat} (w : World) (h0 : Is32 A0 a0) (h1 : Is32 A1 a1) (h2 : Is32 A2 a2) (h3 : Is32 A3 a3) (hx : Is32 X x) (hv : Is32 V v) (ht : Is32 T t)  (c1 : fcmp .leq .f32 V (some 0) = false) (c2 : fcmp .gtr .f32 (fop .mul .f32 (fop .mul .f32 A0 V) T) A2 = false) (c3 : fcmp .gtr .f32 (fop .sub .f32 (fop .add .f32 A3 (fop .add .f32 (fop .mul .f32 (fop .mul .f32 A0 V) T) X)) (fop .mul .f32 A1 (fop .sub .f32 A2 (fop .mul .f32 (fop .mul .f32 A0 V) T)))) (some 0) = true) :
    Calls Try.prog 71 #[.agg #[.float .f32 a0, .float .f32 a1, .float .f32 a2, .float .f32 a3], .float .f32 x, .float .f32 v, .float .f32 t] w (SnowB (snowTry A0 A1 A2 A3 X V T) w) := by
  have eR : snowTry A0 A1 A2 A3 X V T = (if snowO A0 A1 (fop .sub .f32 A2 (fop .mul .f32 (fop .mul .f32 A0 V) T)) (fop .mul .f32 A1 (fop .sub .f32 A2 (fop .mul .f32 (fop .mul .f32 A0 V) T))) && fin32o (fop .sub .f32 (fop .add .f32 A3 (fop .add .f32 (fop .mul .f32 (fop .mul .f32 A0 V) T) X)) (fop .mul .f32 A1 (fop .sub .f32 A2 (fop .mul .f32 (fop .mul .f32 A0 V) T)))) then ⟨A0, A1, (fop .sub .f32 A2 (fop .mul .f32 (fop .mul .f32 A0 V) T)), (fop .mul .f32 A1 (fop .sub .f32 A2 (fop .mul .f32 (fop .mul .f32 A0 V) T))), (fop .sub .f32 (fop .add .f32 A3 (fop .add .f32 (fop .mul .f32 (fop .mul .f32 A0 V) T) X)) (fop .mul .f32 A1 (fop .sub .f32 A2 (fop .mul .f32 (fop .mul .f32 A0 V) T)))), true⟩ else failSnow) := by
    unfold snowTry
    have e1 : iceO A0 A2 X V T = (fop .sub .f32 A2 (fop .mul .f32 (fop .mul .f32 A0 V) T)) := by simp only [iceO, meltO, capO, c1, c2, if_true, if_false, Bool.false_eq_true]
    have e2 : watO A0 A2 A3 X V T = (fop .add .f32 A3 (fop .add .f32 (fop .mul .f32 (fop .mul .f32 A0 V) T) X)) := by simp only [watO, meltO, capO, c1, c2, if_true, if_false, Bool.false_eq_true]
    rw [e1, e2]
    unfold endO
    rw [c3]
    rfl
  obtain ⟨R, hR⟩ : ∃ R, snowTry A0 A1 A2 A3 X V T = R := ⟨_, rfl⟩
  rw [hR]
  rw [eR] at hR
  have HR := Lib.hid hR
  clear hR eR
  have C1 := Lib.hid c1
  have C2 := Lib.hid c2
  have C3 := Lib.hid c3
  clear c1 c2 c3
  go_enter Try.func71, Try.ntmps71
  go_wp2_with (first | ((with_reducible refine wpList_bin ?_); refine wpList_c32 rfl _ _ _ _ _ rfl rfl rfl (by decide) (by first | assumption | exact Is32.c (by decide)) (by first | assumption | exact Is32.c (by decide)) ?_; intro bb hbb; obtain rfl := hbb.symm.trans C1.out; clear hbb))
  refine at_f32 (fun R => Oper.upon _ _ _ _ _ (Result.andThen R _)) _ _ (by decide) (by first | assumption | exact Is32.c (by decide)) (by first | assumption | exact Is32.c (by decide)) ?_
  intro m0 nm0 hm0
  go_wp2_with fail
  refine at_f32 (fun R => Oper.upon _ _ _ _ _ (Result.andThen R _)) _ _ (by decide) (by first | assumption | exact Is32.c (by decide)) (by first | assumption | exact Is32.c (by decide)) ?_
  intro m1 nm1 hm1
  go_wp2_with (first | ((with_reducible refine wpList_bin ?_); refine wpList_c32 rfl _ _ _ _ _ rfl rfl rfl (by decide) (by first | assumption | exact Is32.c (by decide)) (by first | assumption | exact Is32.c (by decide)) ?_; intro bb hbb; obtain rfl := hbb.symm.trans C2.out; clear hbb))
  refine at_f32 (fun R => Oper.upon _ _ _ _ _ (Result.andThen R _)) _ _ (by decide) (by first | assumption | exact Is32.c (by decide)) (by first | assumption | exact Is32.c (by decide)) ?_
  intro i1 ni1 hi1
  go_wp2_with fail
  refine at_f32 (fun R => Oper.upon _ _ _ _ _ (Result.andThen R _)) _ _ (by decide) (by first | assumption | exact Is32.c (by decide)) (by first | assumption | exact Is32.c (by decide)) ?_
  intro s1 ns1 hs1
  go_wp2_with fail
  refine at_f32 (fun R => Oper.upon _ _ _ _ _ (Result.andThen R _)) _ _ (by decide) (by first | assumption | exact Is32.c (by decide)) (by first | assumption | exact Is32.c (by decide)) ?_
  intro s2 ns2 hs2
  go_wp2_with fail
  refine at_f32 (fun R => Oper.upon _ _ _ _ _ (Result.andThen R _)) _ _ (by decide) (by first | assumption | exact Is32.c (by decide)) (by first | assumption | exact Is32.c (by decide)) ?_
  intro k1 nk1 hk1
  go_wp2_with fail
  refine at_f32 (fun R => Oper.upon _ _ _ _ _ (Result.andThen R _)) _ _ (by decide) (by first | assumption | exact Is32.c (by decide)) (by first | assumption | exact Is32.c (by decide)) ?_
  intro o1 no1 ho1
  go_wp2_with (first | ((with_reducible refine wpList_bin ?_); refine wpList_c32 rfl _ _ _ _ _ rfl rfl rfl (by decide) (by first | assumption | exact Is32.c (by decide)) (by first | assumption | exact Is32.c (by decide)) ?_; intro bb hbb; obtain rfl := hbb.symm.trans C3.out; clear hbb))
  refine (l03Snow_o _ _ (Bw.of4 (by first | (simp; done) | (simp; omega) | omega) (by first | (simp [go_sem]; done) | (simp (maxDischargeDepth := 8) [go_sem]; done) | (simp (maxDischargeDepth := 8) [go_sem]; rfl)) (by first | (simp [go_sem]; done) | (simp (maxDischargeDepth := 8) [go_sem]; done) | (simp (maxDischargeDepth := 8) [go_sem]; rfl)) (by first | (simp [go_sem]; done) | (simp (maxDischargeDepth := 8) [go_sem]; done) | (simp (maxDischargeDepth := 8) [go_sem]; rfl)) (by first | (simp [go_sem]; done) | (simp (maxDischargeDepth := 8) [go_sem]; done) | (simp (maxDischargeDepth := 8) [go_sem]; rfl)) (by first | (simp [go_sem]; done) | (simp (maxDischargeDepth := 8) [go_sem]; done) | (simp (maxDischargeDepth := 8) [go_sem]; rfl)) (by first | (simp [go_sem]; done) | (simp (maxDischargeDepth := 8) [go_sem]; done) | (simp (maxDischargeDepth := 8) [go_sem]; rfl)) (by first | (simp [go_sem]; done) | (simp (maxDischargeDepth := 8) [go_sem]; done) | (simp (maxDischargeDepth := 8) [go_sem]; rfl)) (by first | (simp [go_sem]; done) | (simp (maxDischargeDepth := 8) [go_sem]; done) | (simp (maxDischargeDepth := 8) [go_sem]; rfl)) |>.1) h0 h1 hi1 hk1).mono ?_
  rintro e w9 ⟨bb, hbb, rfl, q2, hw9⟩
  have bs : Bw w9 w.heap.size [.float .f32 a0, .float .f32 a1, .float .f32 i1, .float .f32 k1] := by rw [hw9]; exact Bw.drewN (Bw.of4 (by first | (simp; done) | (simp; omega) | omega) (by first | (simp [go_sem]; done) | (simp (maxDischargeDepth := 8) [go_sem]; done) | (simp (maxDischargeDepth := 8) [go_sem]; rfl)) (by first | (simp [go_sem]; done) | (simp (maxDischargeDepth := 8) [go_sem]; done) | (simp (maxDischargeDepth := 8) [go_sem]; rfl)) (by first | (simp [go_sem]; done) | (simp (maxDischargeDepth := 8) [go_sem]; done) | (simp (maxDischargeDepth := 8) [go_sem]; rfl)) (by first | (simp [go_sem]; done) | (simp (maxDischargeDepth := 8) [go_sem]; done) | (simp (maxDischargeDepth := 8) [go_sem]; rfl)) (by first | (simp [go_sem]; done) | (simp (maxDischargeDepth := 8) [go_sem]; done) | (simp (maxDischargeDepth := 8) [go_sem]; rfl)) (by first | (simp [go_sem]; done) | (simp (maxDischargeDepth := 8) [go_sem]; done) | (simp (maxDischargeDepth := 8) [go_sem]; rfl)) (by first | (simp [go_sem]; done) | (simp (maxDischargeDepth := 8) [go_sem]; done) | (simp (maxDischargeDepth := 8) [go_sem]; rfl)) (by first | (simp [go_sem]; done) | (simp (maxDischargeDepth := 8) [go_sem]; done) | (simp (maxDischargeDepth := 8) [go_sem]; rfl))) _
  have br : Bw w9 (w.heap.size + 1) [.float .f32 0, .float .f32 0, .float .f32 0, .float .f32 0] := by rw [hw9]; exact Bw.drewN (Bw.of4 (by first | (simp; done) | (simp; omega) | omega) (by first | (simp [go_sem]; done) | (simp (maxDischargeDepth := 8) [go_sem]; done) | (simp (maxDischargeDepth := 8) [go_sem]; rfl)) (by first | (simp [go_sem]; done) | (simp (maxDischargeDepth := 8) [go_sem]; done) | (simp (maxDischargeDepth := 8) [go_sem]; rfl)) (by first | (simp [go_sem]; done) | (simp (maxDischargeDepth := 8) [go_sem]; done) | (simp (maxDischargeDepth := 8) [go_sem]; rfl)) (by first | (simp [go_sem]; done) | (simp (maxDischargeDepth := 8) [go_sem]; done) | (simp (maxDischargeDepth := 8) [go_sem]; rfl)) (by first | (simp [go_sem]; done) | (simp (maxDischargeDepth := 8) [go_sem]; done) | (simp (maxDischargeDepth := 8) [go_sem]; rfl)) (by first | (simp [go_sem]; done) | (simp (maxDischargeDepth := 8) [go_sem]; done) | (simp (maxDischargeDepth := 8) [go_sem]; rfl)) (by first | (simp [go_sem]; done) | (simp (maxDischargeDepth := 8) [go_sem]; done) | (simp (maxDischargeDepth := 8) [go_sem]; rfl)) (by first | (simp [go_sem]; done) | (simp (maxDischargeDepth := 8) [go_sem]; done) | (simp (maxDischargeDepth := 8) [go_sem]; rfl))) _
  have hb9 : Below w.heap.size w w9 := by rw [hw9]; exact (by repeat (first | with_reducible exact bel2 _ _ _ | with_reducible refine beld ?_ _ | (with_reducible refine Below.setCell ?_ ?_ _; rotate_left; exact (by first | (simp; done) | (simp; omega) | omega))))
  have hs9 : w.heap.size + 2 ≤ w9.heap.size := by rw [hw9]; simp
  clear hw9
  have cs0 := bs.c 0 rfl
  have cs1 := bs.c 1 rfl
  have cs2 := bs.c 2 rfl
  have cs3 := bs.c 3 rfl
  have cr0 := br.c 0 rfl
  have cr1 := br.c 1 rfl
  have cr2 := br.c 2 rfl
  have cr3 := br.c 3 rfl
  have fs0 := bs.f 0 (by simp)
  have fs1 := bs.f 1 (by simp)
  have fs2 := bs.f 2 (by simp)
  have fs3 := bs.f 3 (by simp)
  have fr0 := br.f 0 (by simp)
  have fr1 := br.f 1 (by simp)
  have fr2 := br.f 2 (by simp)
  have fr3 := br.f 3 (by simp)
  have HB9 := Lib.hid hb9
  have Hbb := Lib.hid hbb
  clear hb9 hbb
  cases bb with
  | false =>
    have e9 : R = failSnow := HR.out.symm.trans (by rw [Hbb.out]; rfl)
    subst e9
    go_wp2_with fail
    exact bodyPost_ret (v := .tuple #[.agg #[.float .f32 0, .float .f32 0, .float .f32 0, .float .f32 0], .float .f32 0, .bool false]) (by simp [results, Try.results71, go_sem, cs0, fs0, cs1, fs1, cs2, fs2, cs3, fs3, cr0, fr0, cr1, fr1, cr2, fr2, cr3, fr3]) rfl ⟨0, 0, 0, 0, 0, rfl, ⟨(Is32.c (by decide)), (Is32.c (by decide)), (Is32.c (by decide)), (Is32.c (by decide)), (Is32.c (by decide))⟩, (by repeat (first | with_reducible exact HB9.out | with_reducible refine beld ?_ _ | (with_reducible refine Below.setCell ?_ ?_ _; rotate_left; exact (by first | (simp; done) | (simp; omega) | omega))))⟩
  | true =>
    go_wp2_with fail
    refine (l01Fin_o (X := (fop .sub .f32 (fop .add .f32 A3 (fop .add .f32 (fop .mul .f32 (fop .mul .f32 A0 V) T) X)) (fop .mul .f32 A1 (fop .sub .f32 A2 (fop .mul .f32 (fop .mul .f32 A0 V) T))))) _ ho1).mono ?_
    rintro e w' ⟨b2, hb2, rfl, q5, rfl⟩
    have Hf2 := Lib.hid hb2
    clear hb2
    cases b2 with
    | false =>
      have e9 : R = failSnow := HR.out.symm.trans (by rw [Hbb.out, Hf2.out]; rfl)
      subst e9
      go_wp2_with fail
      exact bodyPost_ret (v := .tuple #[.agg #[.float .f32 0, .float .f32 0, .float .f32 0, .float .f32 0], .float .f32 0, .bool false]) (by simp [results, Try.results71, go_sem, cs0, fs0, cs1, fs1, cs2, fs2, cs3, fs3, cr0, fr0, cr1, fr1, cr2, fr2, cr3, fr3]) rfl ⟨0, 0, 0, 0, 0, rfl, ⟨(Is32.c (by decide)), (Is32.c (by decide)), (Is32.c (by decide)), (Is32.c (by decide)), (Is32.c (by decide))⟩, (by repeat (first | with_reducible exact HB9.out | with_reducible refine beld ?_ _ | (with_reducible refine Below.setCell ?_ ?_ _; rotate_left; exact (by first | (simp; done) | (simp; omega) | omega))))⟩
    | true =>
      have e9 : R = ⟨A0, A1, (fop .sub .f32 A2 (fop .mul .f32 (fop .mul .f32 A0 V) T)), (fop .mul .f32 A1 (fop .sub .f32 A2 (fop .mul .f32 (fop .mul .f32 A0 V) T))), (fop .sub .f32 (fop .add .f32 A3 (fop .add .f32 (fop .mul .f32 (fop .mul .f32 A0 V) T) X)) (fop .mul .f32 A1 (fop .sub .f32 A2 (fop .mul .f32 (fop .mul .f32 A0 V) T)))), true⟩ := HR.out.symm.trans (by rw [Hbb.out, Hf2.out]; rfl)
      subst e9
      go_wp2_with fail
      exact bodyPost_ret (v := .tuple #[.agg #[.float .f32 a0, .float .f32 a1, .float .f32 i1, .float .f32 k1], .float .f32 o1, .bool true]) (by simp [results, Try.results71, go_sem, cs0, fs0, cs1, fs1, cs2, fs2, cs3, fs3, cr0, fr0, cr1, fr1, cr2, fr2, cr3, fr3]) rfl ⟨a0, a1, i1, k1, o1, rfl, ⟨h0, h1, hi1, hk1, ho1⟩, (by repeat (first | with_reducible exact HB9.out | with_reducible refine beld ?_ _ | (with_reducible refine Below.setCell ?_ ?_ _; rotate_left; exact (by first | (simp; done) | (simp; omega) | omega))))⟩

set_option maxHeartbeats 4000000 in
theorem snowS_010 {A0 A1 A2 A3 X V T : Option Nat} {a0 a1 a2 a3 x v t : Nat} (w : World) (h0 : Is32 A0 a0) (h1 : Is32 A1 a1) (h2 : Is32 A2 a2) (h3 : Is32 A3 a3) (hx : Is32 X x) (hv : Is32 V v) (ht : Is32 T t)  (c1 : fcmp .leq .f32 V (some 0) = false) (c2 : fcmp .gtr .f32 (fop .mul .f32 (fop .mul .f32 A0 V) T) A2 = true) (c3 : fcmp .gtr .f32 (fop .sub .f32 (fop .add .f32 A3 (fop .add .f32 A2 X)) (fop .mul .f32 A1 (fop .sub .f32 A2 A2))) (some 0) = false) :
    Calls Try.prog 71 #[.agg #[.float .f32 a0, .float .f32 a1, .float .f32 a2, .float .f32 a3], .float .f32 x, .float .f32 v, .float .f32 t] w (SnowB (snowTry A0 A1 A2 A3 X V T) w) := by
  have eR : snowTry A0 A1 A2 A3 X V T = (if snowO A0 A1 (fop .sub .f32 A2 A2) (fop .add .f32 A3 (fop .add .f32 A2 X)) && fin32o (some 0) then ⟨A0, A1, (fop .sub .f32 A2 A2), (fop .add .f32 A3 (fop .add .f32 A2 X)), (some 0), true⟩ else failSnow) := by
    unfold snowTry
    have e1 : iceO A0 A2 X V T = (fop .sub .f32 A2 A2) := by simp only [iceO, meltO, capO, c1, c2, if_true, if_false, Bool.false_eq_true]
    have e2 : watO A0 A2 A3 X V T = (fop .add .f32 A3 (fop .add .f32 A2 X)) := by simp only [watO, meltO, capO, c1, c2, if_true, if_false, Bool.false_eq_true]
    rw [e1, e2]
    unfold endO
    rw [c3]
    rfl
  obtain ⟨R, hR⟩ : ∃ R, snowTry A0 A1 A2 A3 X V T = R := ⟨_, rfl⟩
  rw [hR]
  rw [eR] at hR
  have HR := Lib.hid hR
  clear hR eR
  have C1 := Lib.hid c1
  have C2 := Lib.hid c2
  have C3 := Lib.hid c3
  clear c1 c2 c3
  go_enter Try.func71, Try.ntmps71
  go_wp2_with (first | ((with_reducible refine wpList_bin ?_); refine wpList_c32 rfl _ _ _ _ _ rfl rfl rfl (by decide) (by first | assumption | exact Is32.c (by decide)) (by first | assumption | exact Is32.c (by decide)) ?_; intro bb hbb; obtain rfl := hbb.symm.trans C1.out; clear hbb))
  refine at_f32 (fun R => Oper.upon _ _ _ _ _ (Result.andThen R _)) _ _ (by decide) (by first | assumption | exact Is32.c (by decide)) (by first | assumption | exact Is32.c (by decide)) ?_
  intro m0 nm0 hm0
  go_wp2_with fail
  refine at_f32 (fun R => Oper.upon _ _ _ _ _ (Result.andThen R _)) _ _ (by decide) (by first | assumption | exact Is32.c (by decide)) (by first | assumption | exact Is32.c (by decide)) ?_
  intro m1 nm1 hm1
  go_wp2_with (first | ((with_reducible refine wpList_bin ?_); refine wpList_c32 rfl _ _ _ _ _ rfl rfl rfl (by decide) (by first | assumption | exact Is32.c (by decide)) (by first | assumption | exact Is32.c (by decide)) ?_; intro bb hbb; obtain rfl := hbb.symm.trans C2.out; clear hbb))
  refine at_f32 (fun R => Oper.upon _ _ _ _ _ (Result.andThen R _)) _ _ (by decide) (by first | assumption | exact Is32.c (by decide)) (by first | assumption | exact Is32.c (by decide)) ?_
  intro i1 ni1 hi1
  go_wp2_with fail
  refine at_f32 (fun R => Oper.upon _ _ _ _ _ (Result.andThen R _)) _ _ (by decide) (by first | assumption | exact Is32.c (by decide)) (by first | assumption | exact Is32.c (by decide)) ?_
  intro s1 ns1 hs1
  go_wp2_with fail
  refine at_f32 (fun R => Oper.upon _ _ _ _ _ (Result.andThen R _)) _ _ (by decide) (by first | assumption | exact Is32.c (by decide)) (by first | assumption | exact Is32.c (by decide)) ?_
  intro s2 ns2 hs2
  go_wp2_with fail
  refine at_f32 (fun R => Oper.upon _ _ _ _ _ (Result.andThen R _)) _ _ (by decide) (by first | assumption | exact Is32.c (by decide)) (by first | assumption | exact Is32.c (by decide)) ?_
  intro k1 nk1 hk1
  go_wp2_with fail
  refine at_f32 (fun R => Oper.upon _ _ _ _ _ (Result.andThen R _)) _ _ (by decide) (by first | assumption | exact Is32.c (by decide)) (by first | assumption | exact Is32.c (by decide)) ?_
  intro o1 no1 ho1
  go_wp2_with (first | ((with_reducible refine wpList_bin ?_); refine wpList_c32 rfl _ _ _ _ _ rfl rfl rfl (by decide) (by first | assumption | exact Is32.c (by decide)) (by first | assumption | exact Is32.c (by decide)) ?_; intro bb hbb; obtain rfl := hbb.symm.trans C3.out; clear hbb))
  refine (l03Snow_o _ _ (Bw.of4 (by first | (simp; done) | (simp; omega) | omega) (by first | (simp [go_sem]; done) | (simp (maxDischargeDepth := 8) [go_sem]; done) | (simp (maxDischargeDepth := 8) [go_sem]; rfl)) (by first | (simp [go_sem]; done) | (simp (maxDischargeDepth := 8) [go_sem]; done) | (simp (maxDischargeDepth := 8) [go_sem]; rfl)) (by first | (simp [go_sem]; done) | (simp (maxDischargeDepth := 8) [go_sem]; done) | (simp (maxDischargeDepth := 8) [go_sem]; rfl)) (by first | (simp [go_sem]; done) | (simp (maxDischargeDepth := 8) [go_sem]; done) | (simp (maxDischargeDepth := 8) [go_sem]; rfl)) (by first | (simp [go_sem]; done) | (simp (maxDischargeDepth := 8) [go_sem]; done) | (simp (maxDischargeDepth := 8) [go_sem]; rfl)) (by first | (simp [go_sem]; done) | (simp (maxDischargeDepth := 8) [go_sem]; done) | (simp (maxDischargeDepth := 8) [go_sem]; rfl)) (by first | (simp [go_sem]; done) | (simp (maxDischargeDepth := 8) [go_sem]; done) | (simp (maxDischargeDepth := 8) [go_sem]; rfl)) (by first | (simp [go_sem]; done) | (simp (maxDischargeDepth := 8) [go_sem]; done) | (simp (maxDischargeDepth := 8) [go_sem]; rfl)) |>.1) h0 h1 hi1 hs2).mono ?_
  rintro e w9 ⟨bb, hbb, rfl, q2, hw9⟩
  have bs : Bw w9 w.heap.size [.float .f32 a0, .float .f32 a1, .float .f32 i1, .float .f32 s2] := by rw [hw9]; exact Bw.drewN (Bw.of4 (by first | (simp; done) | (simp; omega) | omega) (by first | (simp [go_sem]; done) | (simp (maxDischargeDepth := 8) [go_sem]; done) | (simp (maxDischargeDepth := 8) [go_sem]; rfl)) (by first | (simp [go_sem]; done) | (simp (maxDischargeDepth := 8) [go_sem]; done) | (simp (maxDischargeDepth := 8) [go_sem]; rfl)) (by first | (simp [go_sem]; done) | (simp (maxDischargeDepth := 8) [go_sem]; done) | (simp (maxDischargeDepth := 8) [go_sem]; rfl)) (by first | (simp [go_sem]; done) | (simp (maxDischargeDepth := 8) [go_sem]; done) | (simp (maxDischargeDepth := 8) [go_sem]; rfl)) (by first | (simp [go_sem]; done) | (simp (maxDischargeDepth := 8) [go_sem]; done) | (simp (maxDischargeDepth := 8) [go_sem]; rfl)) (by first | (simp [go_sem]; done) | (simp (maxDischargeDepth := 8) [go_sem]; done) | (simp (maxDischargeDepth := 8) [go_sem]; rfl)) (by first | (simp [go_sem]; done) | (simp (maxDischargeDepth := 8) [go_sem]; done) | (simp (maxDischargeDepth := 8) [go_sem]; rfl)) (by first | (simp [go_sem]; done) | (simp (maxDischargeDepth := 8) [go_sem]; done) | (simp (maxDischargeDepth := 8) [go_sem]; rfl))) _
  have br : Bw w9 (w.heap.size + 1) [.float .f32 0, .float .f32 0, .float .f32 0, .float .f32 0] := by rw [hw9]; exact Bw.drewN (Bw.of4 (by first | (simp; done) | (simp; omega) | omega) (by first | (simp [go_sem]; done) | (simp (maxDischargeDepth := 8) [go_sem]; done) | (simp (maxDischargeDepth := 8) [go_sem]; rfl)) (by first | (simp [go_sem]; done) | (simp (maxDischargeDepth := 8) [go_sem]; done) | (simp (maxDischargeDepth := 8) [go_sem]; rfl)) (by first | (simp [go_sem]; done) | (simp (maxDischargeDepth := 8) [go_sem]; done) | (simp (maxDischargeDepth := 8) [go_sem]; rfl)) (by first | (simp [go_sem]; done) | (simp (maxDischargeDepth := 8) [go_sem]; done) | (simp (maxDischargeDepth := 8) [go_sem]; rfl)) (by first | (simp [go_sem]; done) | (simp (maxDischargeDepth := 8) [go_sem]; done) | (simp (maxDischargeDepth := 8) [go_sem]; rfl)) (by first | (simp [go_sem]; done) | (simp (maxDischargeDepth := 8) [go_sem]; done) | (simp (maxDischargeDepth := 8) [go_sem]; rfl)) (by first | (simp [go_sem]; done) | (simp (maxDischargeDepth := 8) [go_sem]; done) | (simp (maxDischargeDepth := 8) [go_sem]; rfl)) (by first | (simp [go_sem]; done) | (simp (maxDischargeDepth := 8) [go_sem]; done) | (simp (maxDischargeDepth := 8) [go_sem]; rfl))) _
  have hb9 : Below w.heap.size w w9 := by rw [hw9]; exact (by repeat (first | with_reducible exact bel2 _ _ _ | with_reducible refine beld ?_ _ | (with_reducible refine Below.setCell ?_ ?_ _; rotate_left; exact (by first | (simp; done) | (simp; omega) | omega))))
  have hs9 : w.heap.size + 2 ≤ w9.heap.size := by rw [hw9]; simp
  clear hw9
  have cs0 := bs.c 0 rfl
  have cs1 := bs.c 1 rfl
  have cs2 := bs.c 2 rfl
  have cs3 := bs.c 3 rfl
  have cr0 := br.c 0 rfl
  have cr1 := br.c 1 rfl
  have cr2 := br.c 2 rfl
  have cr3 := br.c 3 rfl
  have fs0 := bs.f 0 (by simp)
  have fs1 := bs.f 1 (by simp)
  have fs2 := bs.f 2 (by simp)
  have fs3 := bs.f 3 (by simp)
  have fr0 := br.f 0 (by simp)
  have fr1 := br.f 1 (by simp)
  have fr2 := br.f 2 (by simp)
  have fr3 := br.f 3 (by simp)
  have HB9 := Lib.hid hb9
  have Hbb := Lib.hid hbb
  clear hb9 hbb
  cases bb with
  | false =>
    have e9 : R = failSnow := HR.out.symm.trans (by rw [Hbb.out]; rfl)
    subst e9
    go_wp2_with fail
    exact bodyPost_ret (v := .tuple #[.agg #[.float .f32 0, .float .f32 0, .float .f32 0, .float .f32 0], .float .f32 0, .bool false]) (by simp [results, Try.results71, go_sem, cs0, fs0, cs1, fs1, cs2, fs2, cs3, fs3, cr0, fr0, cr1, fr1, cr2, fr2, cr3, fr3]) rfl ⟨0, 0, 0, 0, 0, rfl, ⟨(Is32.c (by decide)), (Is32.c (by decide)), (Is32.c (by decide)), (Is32.c (by decide)), (Is32.c (by decide))⟩, (by repeat (first | with_reducible exact HB9.out | with_reducible refine beld ?_ _ | (with_reducible refine Below.setCell ?_ ?_ _; rotate_left; exact (by first | (simp; done) | (simp; omega) | omega))))⟩
  | true =>
    go_wp2_with fail
    refine (l01Fin_o (X := (some 0)) _ (Is32.c (by decide))).mono ?_
    rintro e w' ⟨b2, hb2, rfl, q5, rfl⟩
    have Hf2 := Lib.hid hb2
    clear hb2
    cases b2 with
    | false =>
      have e9 : R = failSnow := HR.out.symm.trans (by rw [Hbb.out, Hf2.out]; rfl)
      subst e9
      go_wp2_with fail
      exact bodyPost_ret (v := .tuple #[.agg #[.float .f32 0, .float .f32 0, .float .f32 0, .float .f32 0], .float .f32 0, .bool false]) (by simp [results, Try.results71, go_sem, cs0, fs0, cs1, fs1, cs2, fs2, cs3, fs3, cr0, fr0, cr1, fr1, cr2, fr2, cr3, fr3]) rfl ⟨0, 0, 0, 0, 0, rfl, ⟨(Is32.c (by decide)), (Is32.c (by decide)), (Is32.c (by decide)), (Is32.c (by decide)), (Is32.c (by decide))⟩, (by repeat (first | with_reducible exact HB9.out | with_reducible refine beld ?_ _ | (with_reducible refine Below.setCell ?_ ?_ _; rotate_left; exact (by first | (simp; done) | (simp; omega) | omega))))⟩
    | true =>
      have e9 : R = ⟨A0, A1, (fop .sub .f32 A2 A2), (fop .add .f32 A3 (fop .add .f32 A2 X)), (some 0), true⟩ := HR.out.symm.trans (by rw [Hbb.out, Hf2.out]; rfl)
      subst e9
      go_wp2_with fail
      exact bodyPost_ret (v := .tuple #[.agg #[.float .f32 a0, .float .f32 a1, .float .f32 i1, .float .f32 s2], .float .f32 0, .bool true]) (by simp [results, Try.results71, go_sem, cs0, fs0, cs1, fs1, cs2, fs2, cs3, fs3, cr0, fr0, cr1, fr1, cr2, fr2, cr3, fr3]) rfl ⟨a0, a1, i1, s2, 0, rfl, ⟨h0, h1, hi1, hs2, (Is32.c (by decide))⟩, (by repeat (first | with_reducible exact HB9.out | with_reducible refine beld ?_ _ | (with_reducible refine Below.setCell ?_ ?_ _; rotate_left; exact (by first | (simp; done) | (simp; omega) | omega))))⟩

set_option maxHeartbeats 4000000 in
theorem snowS_011 {A0 A1 A2 A3 X V T : Option Nat} {a0 a1 a2 a3 x v t : Nat} (w : World) (h0 : Is32 A0 a0) (h1 : Is32 A1 a1) (h2 : Is32 A2 a2) (h3 : Is32 A3 a3) (hx : Is32 X x) (hv : Is32 V v) (ht : Is32 T t)  (c1 : fcmp .leq .f32 V (some 0) = false) (c2 : fcmp .gtr .f32 (fop .mul .f32 (fop .mul .f32 A0 V) T) A2 = true) (c3 : fcmp .gtr .f32 (fop .sub .f32 (fop .add .f32 A3 (fop .add .f32 A2 X)) (fop .mul .f32 A1 (fop .sub .f32 A2 A2))) (some 0) = true) :
    Calls Try.prog 71 #[.agg #[.float .f32 a0, .float .f32 a1, .float .f32 a2, .float .f32 a3], .float .f32 x, .float .f32 v, .float .f32 t] w (SnowB (snowTry A0 A1 A2 A3 X V T) w) := by
  have eR : snowTry A0 A1 A2 A3 X V T = (if snowO A0 A1 (fop .sub .f32 A2 A2) (fop .mul .f32 A1 (fop .sub .f32 A2 A2)) && fin32o (fop .sub .f32 (fop .add .f32 A3 (fop .add .f32 A2 X)) (fop .mul .f32 A1 (fop .sub .f32 A2 A2))) then ⟨A0, A1, (fop .sub .f32 A2 A2), (fop .mul .f32 A1 (fop .sub .f32 A2 A2)), (fop .sub .f32 (fop .add .f32 A3 (fop .add .f32 A2 X)) (fop .mul .f32 A1 (fop .sub .f32 A2 A2))), true⟩ else failSnow) := by
    unfold snowTry
    have e1 : iceO A0 A2 X V T = (fop .sub .f32 A2 A2) := by simp only [iceO, meltO, capO, c1, c2, if_true, if_false, Bool.false_eq_true]
    have e2 : watO A0 A2 A3 X V T = (fop .add .f32 A3 (fop .add .f32 A2 X)) := by simp only [watO, meltO, capO, c1, c2, if_true, if_false, Bool.false_eq_true]
    rw [e1, e2]
    unfold endO
    rw [c3]
    rfl
  obtain ⟨R, hR⟩ : ∃ R, snowTry A0 A1 A2 A3 X V T = R := ⟨_, rfl⟩
  rw [hR]
  rw [eR] at hR
  have HR := Lib.hid hR
  clear hR eR
  have C1 := Lib.hid c1
  have C2 := Lib.hid c2
  have C3 := Lib.hid c3
  clear c1 c2 c3
  go_enter Try.func71, Try.ntmps71
  go_wp2_with (first | ((with_reducible refine wpList_bin ?_); refine wpList_c32 rfl _ _ _ _ _ rfl rfl rfl (by decide) (by first | assumption | exact Is32.c (by decide)) (by first | assumption | exact Is32.c (by decide)) ?_; intro bb hbb; obtain rfl := hbb.symm.trans C1.out; clear hbb))
  refine at_f32 (fun R => Oper.upon _ _ _ _ _ (Result.andThen R _)) _ _ (by decide) (by first | assumption | exact Is32.c (by decide)) (by first | assumption | exact Is32.c (by decide)) ?_
  intro m0 nm0 hm0
  go_wp2_with fail
  refine at_f32 (fun R => Oper.upon _ _ _ _ _ (Result.andThen R _)) _ _ (by decide) (by first | assumption | exact Is32.c (by decide)) (by first | assumption | exact Is32.c (by decide)) ?_
  intro m1 nm1 hm1
  go_wp2_with (first | ((with_reducible refine wpList_bin ?_); refine wpList_c32 rfl _ _ _ _ _ rfl rfl rfl (by decide) (by first | assumption | exact Is32.c (by decide)) (by first | assumption | exact Is32.c (by decide)) ?_; intro bb hbb; obtain rfl := hbb.symm.trans C2.out; clear hbb))
  refine at_f32 (fun R => Oper.upon _ _ _ _ _ (Result.andThen R _)) _ _ (by decide) (by first | assumption | exact Is32.c (by decide)) (by first | assumption | exact Is32.c (by decide)) ?_
  intro i1 ni1 hi1
  go_wp2_with fail
  refine at_f32 (fun R => Oper.upon _ _ _ _ _ (Result.andThen R _)) _ _ (by decide) (by first | assumption | exact Is32.c (by decide)) (by first | assumption | exact Is32.c (by decide)) ?_
  intro s1 ns1 hs1
  go_wp2_with fail
  refine at_f32 (fun R => Oper.upon _ _ _ _ _ (Result.andThen R _)) _ _ (by decide) (by first | assumption | exact Is32.c (by decide)) (by first | assumption | exact Is32.c (by decide)) ?_
  intro s2 ns2 hs2
  go_wp2_with fail
  refine at_f32 (fun R => Oper.upon _ _ _ _ _ (Result.andThen R _)) _ _ (by decide) (by first | assumption | exact Is32.c (by decide)) (by first | assumption | exact Is32.c (by decide)) ?_
  intro k1 nk1 hk1
  go_wp2_with fail
  refine at_f32 (fun R => Oper.upon _ _ _ _ _ (Result.andThen R _)) _ _ (by decide) (by first | assumption | exact Is32.c (by decide)) (by first | assumption | exact Is32.c (by decide)) ?_
  intro o1 no1 ho1
  go_wp2_with (first | ((with_reducible refine wpList_bin ?_); refine wpList_c32 rfl _ _ _ _ _ rfl rfl rfl (by decide) (by first | assumption | exact Is32.c (by decide)) (by first | assumption | exact Is32.c (by decide)) ?_; intro bb hbb; obtain rfl := hbb.symm.trans C3.out; clear hbb))
  refine (l03Snow_o _ _ (Bw.of4 (by first | (simp; done) | (simp; omega) | omega) (by first | (simp [go_sem]; done) | (simp (maxDischargeDepth := 8) [go_sem]; done) | (simp (maxDischargeDepth := 8) [go_sem]; rfl)) (by first | (simp [go_sem]; done) | (simp (maxDischargeDepth := 8) [go_sem]; done) | (simp (maxDischargeDepth := 8) [go_sem]; rfl)) (by first | (simp [go_sem]; done) | (simp (maxDischargeDepth := 8) [go_sem]; done) | (simp (maxDischargeDepth := 8) [go_sem]; rfl)) (by first | (simp [go_sem]; done) | (simp (maxDischargeDepth := 8) [go_sem]; done) | (simp (maxDischargeDepth := 8) [go_sem]; rfl)) (by first | (simp [go_sem]; done) | (simp (maxDischargeDepth := 8) [go_sem]; done) | (simp (maxDischargeDepth := 8) [go_sem]; rfl)) (by first | (simp [go_sem]; done) | (simp (maxDischargeDepth := 8) [go_sem]; done) | (simp (maxDischargeDepth := 8) [go_sem]; rfl)) (by first | (simp [go_sem]; done) | (simp (maxDischargeDepth := 8) [go_sem]; done) | (simp (maxDischargeDepth := 8) [go_sem]; rfl)) (by first | (simp [go_sem]; done) | (simp (maxDischargeDepth := 8) [go_sem]; done) | (simp (maxDischargeDepth := 8) [go_sem]; rfl)) |>.1) h0 h1 hi1 hk1).mono ?_
  rintro e w9 ⟨bb, hbb, rfl, q2, hw9⟩
  have bs : Bw w9 w.heap.size [.float .f32 a0, .float .f32 a1, .float .f32 i1, .float .f32 k1] := by rw [hw9]; exact Bw.drewN (Bw.of4 (by first | (simp; done) | (simp; omega) | omega) (by first | (simp [go_sem]; done) | (simp (maxDischargeDepth := 8) [go_sem]; done) | (simp (maxDischargeDepth := 8) [go_sem]; rfl)) (by first | (simp [go_sem]; done) | (simp (maxDischargeDepth := 8) [go_sem]; done) | (simp (maxDischargeDepth := 8) [go_sem]; rfl)) (by first | (simp [go_sem]; done) | (simp (maxDischargeDepth := 8) [go_sem]; done) | (simp (maxDischargeDepth := 8) [go_sem]; rfl)) (by first | (simp [go_sem]; done) | (simp (maxDischargeDepth := 8) [go_sem]; done) | (simp (maxDischargeDepth := 8) [go_sem]; rfl)) (by first | (simp [go_sem]; done) | (simp (maxDischargeDepth := 8) [go_sem]; done) | (simp (maxDischargeDepth := 8) [go_sem]; rfl)) (by first | (simp [go_sem]; done) | (simp (maxDischargeDepth := 8) [go_sem]; done) | (simp (maxDischargeDepth := 8) [go_sem]; rfl)) (by first | (simp [go_sem]; done) | (simp (maxDischargeDepth := 8) [go_sem]; done) | (simp (maxDischargeDepth := 8) [go_sem]; rfl)) (by first | (simp [go_sem]; done) | (simp (maxDischargeDepth := 8) [go_sem]; done) | (simp (maxDischargeDepth := 8) [go_sem]; rfl))) _
  have br : Bw w9 (w.heap.size + 1) [.float .f32 0, .float .f32 0, .float .f32 0, .float .f32 0] := by rw [hw9]; exact Bw.drewN (Bw.of4 (by first | (simp; done) | (simp; omega) | omega) (by first | (simp [go_sem]; done) | (simp (maxDischargeDepth := 8) [go_sem]; done) | (simp (maxDischargeDepth := 8) [go_sem]; rfl)) (by first | (simp [go_sem]; done) | (simp (maxDischargeDepth := 8) [go_sem]; done) | (simp (maxDischargeDepth := 8) [go_sem]; rfl)) (by first | (simp [go_sem]; done) | (simp (maxDischargeDepth := 8) [go_sem]; done) | (simp (maxDischargeDepth := 8) [go_sem]; rfl)) (by first | (simp [go_sem]; done) | (simp (maxDischargeDepth := 8) [go_sem]; done) | (simp (maxDischargeDepth := 8) [go_sem]; rfl)) (by first | (simp [go_sem]; done) | (simp (maxDischargeDepth := 8) [go_sem]; done) | (simp (maxDischargeDepth := 8) [go_sem]; rfl)) (by first | (simp [go_sem]; done) | (simp (maxDischargeDepth := 8) [go_sem]; done) | (simp (maxDischargeDepth := 8) [go_sem]; rfl)) (by first | (simp [go_sem]; done) | (simp (maxDischargeDepth := 8) [go_sem]; done) | (simp (maxDischargeDepth := 8) [go_sem]; rfl)) (by first | (simp [go_sem]; done) | (simp (maxDischargeDepth := 8) [go_sem]; done) | (simp (maxDischargeDepth := 8) [go_sem]; rfl))) _
  have hb9 : Below w.heap.size w w9 := by rw [hw9]; exact (by repeat (first | with_reducible exact bel2 _ _ _ | with_reducible refine beld ?_ _ | (with_reducible refine Below.setCell ?_ ?_ _; rotate_left; exact (by first | (simp; done) | (simp; omega) | omega))))
  have hs9 : w.heap.size + 2 ≤ w9.heap.size := by rw [hw9]; simp
  clear hw9
  have cs0 := bs.c 0 rfl
  have cs1 := bs.c 1 rfl
  have cs2 := bs.c 2 rfl
  have cs3 := bs.c 3 rfl
  have cr0 := br.c 0 rfl
  have cr1 := br.c 1 rfl
  have cr2 := br.c 2 rfl
  have cr3 := br.c 3 rfl
  have fs0 := bs.f 0 (by simp)
  have fs1 := bs.f 1 (by simp)
  have fs2 := bs.f 2 (by simp)
  have fs3 := bs.f 3 (by simp)
  have fr0 := br.f 0 (by simp)
  have fr1 := br.f 1 (by simp)
  have fr2 := br.f 2 (by simp)
  have fr3 := br.f 3 (by simp)
  have HB9 := Lib.hid hb9
  have Hbb := Lib.hid hbb
  clear hb9 hbb
  cases bb with
  | false =>
    have e9 : R = failSnow := HR.out.symm.trans (by rw [Hbb.out]; rfl)
    subst e9
    go_wp2_with fail
    exact bodyPost_ret (v := .tuple #[.agg #[.float .f32 0, .float .f32 0, .float .f32 0, .float .f32 0], .float .f32 0, .bool false]) (by simp [results, Try.results71, go_sem, cs0, fs0, cs1, fs1, cs2, fs2, cs3, fs3, cr0, fr0, cr1, fr1, cr2, fr2, cr3, fr3]) rfl ⟨0, 0, 0, 0, 0, rfl, ⟨(Is32.c (by decide)), (Is32.c (by decide)), (Is32.c (by decide)), (Is32.c (by decide)), (Is32.c (by decide))⟩, (by repeat (first | with_reducible exact HB9.out | with_reducible refine beld ?_ _ | (with_reducible refine Below.setCell ?_ ?_ _; rotate_left; exact (by first | (simp; done) | (simp; omega) | omega))))⟩
  | true =>
    go_wp2_with fail
    refine (l01Fin_o (X := (fop .sub .f32 (fop .add .f32 A3 (fop .add .f32 A2 X)) (fop .mul .f32 A1 (fop .sub .f32 A2 A2)))) _ ho1).mono ?_
    rintro e w' ⟨b2, hb2, rfl, q5, rfl⟩
    have Hf2 := Lib.hid hb2
    clear hb2
    cases b2 with
    | false =>
      have e9 : R = failSnow := HR.out.symm.trans (by rw [Hbb.out, Hf2.out]; rfl)
      subst e9
      go_wp2_with fail
      exact bodyPost_ret (v := .tuple #[.agg #[.float .f32 0, .float .f32 0, .float .f32 0, .float .f32 0], .float .f32 0, .bool false]) (by simp [results, Try.results71, go_sem, cs0, fs0, cs1, fs1, cs2, fs2, cs3, fs3, cr0, fr0, cr1, fr1, cr2, fr2, cr3, fr3]) rfl ⟨0, 0, 0, 0, 0, rfl, ⟨(Is32.c (by decide)), (Is32.c (by decide)), (Is32.c (by decide)), (Is32.c (by decide)), (Is32.c (by decide))⟩, (by repeat (first | with_reducible exact HB9.out | with_reducible refine beld ?_ _ | (with_reducible refine Below.setCell ?_ ?_ _; rotate_left; exact (by first | (simp; done) | (simp; omega) | omega))))⟩
    | true =>
      have e9 : R = ⟨A0, A1, (fop .sub .f32 A2 A2), (fop .mul .f32 A1 (fop .sub .f32 A2 A2)), (fop .sub .f32 (fop .add .f32 A3 (fop .add .f32 A2 X)) (fop .mul .f32 A1 (fop .sub .f32 A2 A2))), true⟩ := HR.out.symm.trans (by rw [Hbb.out, Hf2.out]; rfl)
      subst e9
      go_wp2_with fail
      exact bodyPost_ret (v := .tuple #[.agg #[.float .f32 a0, .float .f32 a1, .float .f32 i1, .float .f32 k1], .float .f32 o1, .bool true]) (by simp [results, Try.results71, go_sem, cs0, fs0, cs1, fs1, cs2, fs2, cs3, fs3, cr0, fr0, cr1, fr1, cr2, fr2, cr3, fr3]) rfl ⟨a0, a1, i1, k1, o1, rfl, ⟨h0, h1, hi1, hk1, ho1⟩, (by repeat (first | with_reducible exact HB9.out | with_reducible refine beld ?_ _ | (with_reducible refine Below.setCell ?_ ?_ _; rotate_left; exact (by first | (simp; done) | (simp; omega) | omega))))⟩

end Go.Proofs.Ytfdcfalkidcdnab
