/- Snow behind rain: the program. -/
import Derived.Test.YtfdcfalkidcdnabRSn0
namespace Go.Proofs.Ytfdcfalkidcdnab
open Go.RowKit
set_option linter.unusedVariables false
set_option linter.unusedSimpArgs false
set_option maxRecDepth 100000
attribute [local irreducible] wpV wpList Code.wp

set_option maxHeartbeats 8000000 in
theorem runSnow_i {A0 A1 A2 A3 T : Option Nat} {a0 a1 a2 a3 t : Nat} (a1_ : Option Addr) (cap1 : Nat) (X : List Nat) (a2_ : Option Addr) (cap2 : Nat) (V : List Nat) (w : World) (ha0 : Is32 A0 a0) (ha1 : Is32 A1 a1) (ha2 : Is32 A2 a2) (ha3 : Is32 A3 a3) (h1 : RowF .f32 w a1_ X) (hl1 : X.length ≤ 1048576) (hz1 : ∀ z ∈ X, z < 4294967296) (h2 : RowF .f32 w a2_ V) (hl2 : V.length ≤ 1048576) (hz2 : ∀ z ∈ V, z < 4294967296) (ht : Is32 T t) : Calls Try.prog 25 #[.agg #[.float .f32 a0, .float .f32 a1, .float .f32 a2, .float .f32 a3], .slice a1_ X.length cap1, .slice a2_ V.length cap2, .float .f32 t] w (RunB (runSnowO A0 A1 A2 A3 T X V) w) := by
  obtain ⟨Q, hQ⟩ : ∃ Q, runSnowO A0 A1 A2 A3 T X V = Q := ⟨_, rfl⟩
  rw [hQ]
  have HQ := Lib.hid hQ
  have H1 := Lib.hid h1
  have H2 := Lib.hid h2
  have HZ1 := Lib.hid hz1
  have HZ2 := Lib.hid hz2
  clear hQ h1 h2 hz1 hz2
  go_enter Try.func25, Try.ntmps25
  go_wp2_with fail
  refine (validSnow_i _ ha0 ha1 ha2 ha3).mono ?_
  rintro e w1 ⟨bb, hbb, rfl, hb⟩
  have Hs := Lib.hid hbb
  clear hbb
  have hb1 : Below w.heap.size w w1 := Below.trans (by repeat (first | with_reducible exact (bel2 _ _ _ ) | with_reducible refine beld ?_ _ | (with_reducible refine Below.alloc ?_ ?_ _; rotate_left; exact (by first | (simp; done) | (simp; omega) | omega)) | (with_reducible refine Below.setCell ?_ ?_ _; rotate_left; exact (by first | (simp; done) | (simp; omega) | omega)))) (hb.mono (by first | (simp; done) | (simp; omega) | omega))
  have hs1 : w.heap.size + 2 ≤ w1.heap.size := (by have := hb.size; (try simp at this); omega)
  have bws : Bw w1 (w.heap.size) [.float .f32 a0, .float .f32 a1, .float .f32 a2, .float .f32 a3] := (by first | exact Bw.below (Bw.of4 (by first | (simp; done) | (simp; omega) | omega) (by first | (simp [go_sem]; done) | (simp (maxDischargeDepth := 8) [go_sem]; done) | (simp [go_sem]; rfl)) (by first | (simp [go_sem]; done) | (simp (maxDischargeDepth := 8) [go_sem]; done) | (simp [go_sem]; rfl)) (by first | (simp [go_sem]; done) | (simp (maxDischargeDepth := 8) [go_sem]; done) | (simp [go_sem]; rfl)) (by first | (simp [go_sem]; done) | (simp (maxDischargeDepth := 8) [go_sem]; done) | (simp [go_sem]; rfl)) (by first | (simp [go_sem]; done) | (simp (maxDischargeDepth := 8) [go_sem]; done) | (simp [go_sem]; rfl)) (by first | (simp [go_sem]; done) | (simp (maxDischargeDepth := 8) [go_sem]; done) | (simp [go_sem]; rfl)) (by first | (simp [go_sem]; done) | (simp (maxDischargeDepth := 8) [go_sem]; done) | (simp [go_sem]; rfl)) (by first | (simp [go_sem]; done) | (simp (maxDischargeDepth := 8) [go_sem]; done) | (simp [go_sem]; rfl))) hb (by first | (simp; done) | (simp; omega) | omega))
  have bwr : Bw w1 (w.heap.size + 1) [.float .f32 0, .float .f32 0, .float .f32 0, .float .f32 0] := (by first | exact Bw.below (Bw.of4 (by first | (simp; done) | (simp; omega) | omega) (by first | (simp [go_sem]; done) | (simp (maxDischargeDepth := 8) [go_sem]; done) | (simp [go_sem]; rfl)) (by first | (simp [go_sem]; done) | (simp (maxDischargeDepth := 8) [go_sem]; done) | (simp [go_sem]; rfl)) (by first | (simp [go_sem]; done) | (simp (maxDischargeDepth := 8) [go_sem]; done) | (simp [go_sem]; rfl)) (by first | (simp [go_sem]; done) | (simp (maxDischargeDepth := 8) [go_sem]; done) | (simp [go_sem]; rfl)) (by first | (simp [go_sem]; done) | (simp (maxDischargeDepth := 8) [go_sem]; done) | (simp [go_sem]; rfl)) (by first | (simp [go_sem]; done) | (simp (maxDischargeDepth := 8) [go_sem]; done) | (simp [go_sem]; rfl)) (by first | (simp [go_sem]; done) | (simp (maxDischargeDepth := 8) [go_sem]; done) | (simp [go_sem]; rfl)) (by first | (simp [go_sem]; done) | (simp (maxDischargeDepth := 8) [go_sem]; done) | (simp [go_sem]; rfl))) hb (by first | (simp; done) | (simp; omega) | omega))
  have cs0 := bws.c 0 rfl
  have fs0 := bws.f 0 (by simp)
  have cs1 := bws.c 1 rfl
  have fs1 := bws.f 1 (by simp)
  have cs2 := bws.c 2 rfl
  have fs2 := bws.f 2 (by simp)
  have cs3 := bws.c 3 rfl
  have fs3 := bws.f 3 (by simp)
  have BWs1 := Lib.hid bws
  clear bws
  have cr0 := bwr.c 0 rfl
  have fr0 := bwr.f 0 (by simp)
  have cr1 := bwr.c 1 rfl
  have fr1 := bwr.f 1 (by simp)
  have cr2 := bwr.c 2 rfl
  have fr2 := bwr.f 2 (by simp)
  have cr3 := bwr.c 3 rfl
  have fr3 := bwr.f 3 (by simp)
  have BWr1 := Lib.hid bwr
  clear bwr
  have Hb1 := Lib.hid hb1
  clear hb hb1
  cases bb
  · have hv : Q = failRun := by rw [← HQ.out]; unfold runSnowO; rw [Hs.out]; simp only [Bool.false_and, Bool.and_false]; rfl
    have HV := Lib.hid hv
    clear hv
    go_wp2_with fail
    rw [HV.out]
    exact bodyPost_ret (v := .tuple #[.agg #[.float .f32 0, .float .f32 0, .float .f32 0, .float .f32 0], .slice none 0 0, .bool false]) (by first | (simp [results, Try.results25, go_sem, cs0, fs0, cs1, fs1, cs2, fs2, cs3, fs3, cr0, fr0, cr1, fr1, cr2, fr2, cr3, fr3]; done) | (simp (maxDischargeDepth := 12) [results, Try.results25, go_sem, cs0, fs0, cs1, fs1, cs2, fs2, cs3, fs3, cr0, fr0, cr1, fr1, cr2, fr2, cr3, fr3]; done) | (simp (maxDischargeDepth := 12) [results, Try.results25, go_sem, cs0, fs0, cs1, fs1, cs2, fs2, cs3, fs3, cr0, fr0, cr1, fr1, cr2, fr2, cr3, fr3]; rfl)) rfl (RunB.no (by repeat (first | with_reducible exact Hb1.out | with_reducible refine beld ?_ _ | (with_reducible refine Below.alloc ?_ ?_ _; rotate_left; exact (by first | (simp; done) | (simp; omega) | omega)) | (with_reducible refine Below.setCell ?_ ?_ _; rotate_left; exact (by first | (simp; done) | (simp; omega) | omega)))))
  go_wp2_with fail
  refine (isRain_i a1_ cap1 X _ (H1.out.below Hb1.out (Nat.le_refl _)) hl1 HZ1.out).mono ?_
  rintro e w2 ⟨bb, hbb, rfl, hb⟩
  have Hx := Lib.hid hbb
  clear hbb
  have hb2 : Below w.heap.size w w2 := Below.trans (by repeat (first | with_reducible exact Hb1.out | with_reducible refine beld ?_ _ | (with_reducible refine Below.alloc ?_ ?_ _; rotate_left; exact (by first | (simp; done) | (simp; omega) | omega)) | (with_reducible refine Below.setCell ?_ ?_ _; rotate_left; exact (by first | (simp; done) | (simp; omega) | omega)))) (hb.mono (by first | (simp; done) | (simp; omega) | omega))
  have hs2 : w.heap.size + 2 ≤ w2.heap.size := (by have := hb.size; (try simp at this); omega)
  have bws : Bw w2 (w.heap.size) [.float .f32 a0, .float .f32 a1, .float .f32 a2, .float .f32 a3] := (by first | with_reducible exact Bw.below BWs1.out hb (by first | (simp; done) | (simp; omega) | omega) | with_reducible exact Bw.below (Bw.drewN BWs1.out _) hb (by first | (simp; done) | (simp; omega) | omega) | with_reducible exact Bw.below (Bw.alloc BWs1.out _) hb (by first | (simp; done) | (simp; omega) | omega) | with_reducible exact Bw.below (Bw.alloc (Bw.drewN BWs1.out _) _) hb (by first | (simp; done) | (simp; omega) | omega) | exact Bw.below (Bw.of4 (by first | (simp; done) | (simp; omega) | omega) (by first | (simp [go_sem, cs0, fs0, cs1, fs1, cs2, fs2, cs3, fs3, cr0, fr0, cr1, fr1, cr2, fr2, cr3, fr3]; done) | (simp (maxDischargeDepth := 8) [go_sem, cs0, fs0, cs1, fs1, cs2, fs2, cs3, fs3, cr0, fr0, cr1, fr1, cr2, fr2, cr3, fr3]; done) | (simp [go_sem, cs0, fs0, cs1, fs1, cs2, fs2, cs3, fs3, cr0, fr0, cr1, fr1, cr2, fr2, cr3, fr3]; rfl)) (by first | (simp [go_sem, cs0, fs0, cs1, fs1, cs2, fs2, cs3, fs3, cr0, fr0, cr1, fr1, cr2, fr2, cr3, fr3]; done) | (simp (maxDischargeDepth := 8) [go_sem, cs0, fs0, cs1, fs1, cs2, fs2, cs3, fs3, cr0, fr0, cr1, fr1, cr2, fr2, cr3, fr3]; done) | (simp [go_sem, cs0, fs0, cs1, fs1, cs2, fs2, cs3, fs3, cr0, fr0, cr1, fr1, cr2, fr2, cr3, fr3]; rfl)) (by first | (simp [go_sem, cs0, fs0, cs1, fs1, cs2, fs2, cs3, fs3, cr0, fr0, cr1, fr1, cr2, fr2, cr3, fr3]; done) | (simp (maxDischargeDepth := 8) [go_sem, cs0, fs0, cs1, fs1, cs2, fs2, cs3, fs3, cr0, fr0, cr1, fr1, cr2, fr2, cr3, fr3]; done) | (simp [go_sem, cs0, fs0, cs1, fs1, cs2, fs2, cs3, fs3, cr0, fr0, cr1, fr1, cr2, fr2, cr3, fr3]; rfl)) (by first | (simp [go_sem, cs0, fs0, cs1, fs1, cs2, fs2, cs3, fs3, cr0, fr0, cr1, fr1, cr2, fr2, cr3, fr3]; done) | (simp (maxDischargeDepth := 8) [go_sem, cs0, fs0, cs1, fs1, cs2, fs2, cs3, fs3, cr0, fr0, cr1, fr1, cr2, fr2, cr3, fr3]; done) | (simp [go_sem, cs0, fs0, cs1, fs1, cs2, fs2, cs3, fs3, cr0, fr0, cr1, fr1, cr2, fr2, cr3, fr3]; rfl)) (by first | (simp [go_sem, cs0, fs0, cs1, fs1, cs2, fs2, cs3, fs3, cr0, fr0, cr1, fr1, cr2, fr2, cr3, fr3]; done) | (simp (maxDischargeDepth := 8) [go_sem, cs0, fs0, cs1, fs1, cs2, fs2, cs3, fs3, cr0, fr0, cr1, fr1, cr2, fr2, cr3, fr3]; done) | (simp [go_sem, cs0, fs0, cs1, fs1, cs2, fs2, cs3, fs3, cr0, fr0, cr1, fr1, cr2, fr2, cr3, fr3]; rfl)) (by first | (simp [go_sem, cs0, fs0, cs1, fs1, cs2, fs2, cs3, fs3, cr0, fr0, cr1, fr1, cr2, fr2, cr3, fr3]; done) | (simp (maxDischargeDepth := 8) [go_sem, cs0, fs0, cs1, fs1, cs2, fs2, cs3, fs3, cr0, fr0, cr1, fr1, cr2, fr2, cr3, fr3]; done) | (simp [go_sem, cs0, fs0, cs1, fs1, cs2, fs2, cs3, fs3, cr0, fr0, cr1, fr1, cr2, fr2, cr3, fr3]; rfl)) (by first | (simp [go_sem, cs0, fs0, cs1, fs1, cs2, fs2, cs3, fs3, cr0, fr0, cr1, fr1, cr2, fr2, cr3, fr3]; done) | (simp (maxDischargeDepth := 8) [go_sem, cs0, fs0, cs1, fs1, cs2, fs2, cs3, fs3, cr0, fr0, cr1, fr1, cr2, fr2, cr3, fr3]; done) | (simp [go_sem, cs0, fs0, cs1, fs1, cs2, fs2, cs3, fs3, cr0, fr0, cr1, fr1, cr2, fr2, cr3, fr3]; rfl)) (by first | (simp [go_sem, cs0, fs0, cs1, fs1, cs2, fs2, cs3, fs3, cr0, fr0, cr1, fr1, cr2, fr2, cr3, fr3]; done) | (simp (maxDischargeDepth := 8) [go_sem, cs0, fs0, cs1, fs1, cs2, fs2, cs3, fs3, cr0, fr0, cr1, fr1, cr2, fr2, cr3, fr3]; done) | (simp [go_sem, cs0, fs0, cs1, fs1, cs2, fs2, cs3, fs3, cr0, fr0, cr1, fr1, cr2, fr2, cr3, fr3]; rfl))) hb (by first | (simp; done) | (simp; omega) | omega))
  have bwr : Bw w2 (w.heap.size + 1) [.float .f32 0, .float .f32 0, .float .f32 0, .float .f32 0] := (by first | with_reducible exact Bw.below BWr1.out hb (by first | (simp; done) | (simp; omega) | omega) | with_reducible exact Bw.below (Bw.drewN BWr1.out _) hb (by first | (simp; done) | (simp; omega) | omega) | with_reducible exact Bw.below (Bw.alloc BWr1.out _) hb (by first | (simp; done) | (simp; omega) | omega) | with_reducible exact Bw.below (Bw.alloc (Bw.drewN BWr1.out _) _) hb (by first | (simp; done) | (simp; omega) | omega) | exact Bw.below (Bw.of4 (by first | (simp; done) | (simp; omega) | omega) (by first | (simp [go_sem, cs0, fs0, cs1, fs1, cs2, fs2, cs3, fs3, cr0, fr0, cr1, fr1, cr2, fr2, cr3, fr3]; done) | (simp (maxDischargeDepth := 8) [go_sem, cs0, fs0, cs1, fs1, cs2, fs2, cs3, fs3, cr0, fr0, cr1, fr1, cr2, fr2, cr3, fr3]; done) | (simp [go_sem, cs0, fs0, cs1, fs1, cs2, fs2, cs3, fs3, cr0, fr0, cr1, fr1, cr2, fr2, cr3, fr3]; rfl)) (by first | (simp [go_sem, cs0, fs0, cs1, fs1, cs2, fs2, cs3, fs3, cr0, fr0, cr1, fr1, cr2, fr2, cr3, fr3]; done) | (simp (maxDischargeDepth := 8) [go_sem, cs0, fs0, cs1, fs1, cs2, fs2, cs3, fs3, cr0, fr0, cr1, fr1, cr2, fr2, cr3, fr3]; done) | (simp [go_sem, cs0, fs0, cs1, fs1, cs2, fs2, cs3, fs3, cr0, fr0, cr1, fr1, cr2, fr2, cr3, fr3]; rfl)) (by first | (simp [go_sem, cs0, fs0, cs1, fs1, cs2, fs2, cs3, fs3, cr0, fr0, cr1, fr1, cr2, fr2, cr3, fr3]; done) | (simp (maxDischargeDepth := 8) [go_sem, cs0, fs0, cs1, fs1, cs2, fs2, cs3, fs3, cr0, fr0, cr1, fr1, cr2, fr2, cr3, fr3]; done) | (simp [go_sem, cs0, fs0, cs1, fs1, cs2, fs2, cs3, fs3, cr0, fr0, cr1, fr1, cr2, fr2, cr3, fr3]; rfl)) (by first | (simp [go_sem, cs0, fs0, cs1, fs1, cs2, fs2, cs3, fs3, cr0, fr0, cr1, fr1, cr2, fr2, cr3, fr3]; done) | (simp (maxDischargeDepth := 8) [go_sem, cs0, fs0, cs1, fs1, cs2, fs2, cs3, fs3, cr0, fr0, cr1, fr1, cr2, fr2, cr3, fr3]; done) | (simp [go_sem, cs0, fs0, cs1, fs1, cs2, fs2, cs3, fs3, cr0, fr0, cr1, fr1, cr2, fr2, cr3, fr3]; rfl)) (by first | (simp [go_sem, cs0, fs0, cs1, fs1, cs2, fs2, cs3, fs3, cr0, fr0, cr1, fr1, cr2, fr2, cr3, fr3]; done) | (simp (maxDischargeDepth := 8) [go_sem, cs0, fs0, cs1, fs1, cs2, fs2, cs3, fs3, cr0, fr0, cr1, fr1, cr2, fr2, cr3, fr3]; done) | (simp [go_sem, cs0, fs0, cs1, fs1, cs2, fs2, cs3, fs3, cr0, fr0, cr1, fr1, cr2, fr2, cr3, fr3]; rfl)) (by first | (simp [go_sem, cs0, fs0, cs1, fs1, cs2, fs2, cs3, fs3, cr0, fr0, cr1, fr1, cr2, fr2, cr3, fr3]; done) | (simp (maxDischargeDepth := 8) [go_sem, cs0, fs0, cs1, fs1, cs2, fs2, cs3, fs3, cr0, fr0, cr1, fr1, cr2, fr2, cr3, fr3]; done) | (simp [go_sem, cs0, fs0, cs1, fs1, cs2, fs2, cs3, fs3, cr0, fr0, cr1, fr1, cr2, fr2, cr3, fr3]; rfl)) (by first | (simp [go_sem, cs0, fs0, cs1, fs1, cs2, fs2, cs3, fs3, cr0, fr0, cr1, fr1, cr2, fr2, cr3, fr3]; done) | (simp (maxDischargeDepth := 8) [go_sem, cs0, fs0, cs1, fs1, cs2, fs2, cs3, fs3, cr0, fr0, cr1, fr1, cr2, fr2, cr3, fr3]; done) | (simp [go_sem, cs0, fs0, cs1, fs1, cs2, fs2, cs3, fs3, cr0, fr0, cr1, fr1, cr2, fr2, cr3, fr3]; rfl)) (by first | (simp [go_sem, cs0, fs0, cs1, fs1, cs2, fs2, cs3, fs3, cr0, fr0, cr1, fr1, cr2, fr2, cr3, fr3]; done) | (simp (maxDischargeDepth := 8) [go_sem, cs0, fs0, cs1, fs1, cs2, fs2, cs3, fs3, cr0, fr0, cr1, fr1, cr2, fr2, cr3, fr3]; done) | (simp [go_sem, cs0, fs0, cs1, fs1, cs2, fs2, cs3, fs3, cr0, fr0, cr1, fr1, cr2, fr2, cr3, fr3]; rfl))) hb (by first | (simp; done) | (simp; omega) | omega))
  clear cs0 fs0 cs1 fs1 cs2 fs2 cs3 fs3 cr0 fr0 cr1 fr1 cr2 fr2 cr3 fr3 BWs1 BWr1
  have cs0 := bws.c 0 rfl
  have fs0 := bws.f 0 (by simp)
  have cs1 := bws.c 1 rfl
  have fs1 := bws.f 1 (by simp)
  have cs2 := bws.c 2 rfl
  have fs2 := bws.f 2 (by simp)
  have cs3 := bws.c 3 rfl
  have fs3 := bws.f 3 (by simp)
  have BWs2 := Lib.hid bws
  clear bws
  have cr0 := bwr.c 0 rfl
  have fr0 := bwr.f 0 (by simp)
  have cr1 := bwr.c 1 rfl
  have fr1 := bwr.f 1 (by simp)
  have cr2 := bwr.c 2 rfl
  have fr2 := bwr.f 2 (by simp)
  have cr3 := bwr.c 3 rfl
  have fr3 := bwr.f 3 (by simp)
  have BWr2 := Lib.hid bwr
  clear bwr
  have Hb2 := Lib.hid hb2
  clear hb hb2
  cases bb
  · have hv : Q = failRun := by rw [← HQ.out]; unfold runSnowO; rw [Hx.out]; simp only [Bool.false_and, Bool.and_false]; rfl
    have HV := Lib.hid hv
    clear hv
    go_wp2_with fail
    rw [HV.out]
    exact bodyPost_ret (v := .tuple #[.agg #[.float .f32 0, .float .f32 0, .float .f32 0, .float .f32 0], .slice none 0 0, .bool false]) (by first | (simp [results, Try.results25, go_sem, cs0, fs0, cs1, fs1, cs2, fs2, cs3, fs3, cr0, fr0, cr1, fr1, cr2, fr2, cr3, fr3]; done) | (simp (maxDischargeDepth := 12) [results, Try.results25, go_sem, cs0, fs0, cs1, fs1, cs2, fs2, cs3, fs3, cr0, fr0, cr1, fr1, cr2, fr2, cr3, fr3]; done) | (simp (maxDischargeDepth := 12) [results, Try.results25, go_sem, cs0, fs0, cs1, fs1, cs2, fs2, cs3, fs3, cr0, fr0, cr1, fr1, cr2, fr2, cr3, fr3]; rfl)) rfl (RunB.no (by repeat (first | with_reducible exact Hb2.out | with_reducible refine beld ?_ _ | (with_reducible refine Below.alloc ?_ ?_ _; rotate_left; exact (by first | (simp; done) | (simp; omega) | omega)) | (with_reducible refine Below.setCell ?_ ?_ _; rotate_left; exact (by first | (simp; done) | (simp; omega) | omega)))))
  by_cases hlen : V.length = X.length
  rotate_left
  · have hne : ¬ ((V.length : Int) = (X.length : Int)) := by omega
    have hv : Q = failRun := by rw [← HQ.out]; unfold runSnowO; rw [decide_eq_false hlen]; simp only [Bool.false_and, Bool.and_false]; rfl
    have HV := Lib.hid hv
    clear hv
    go_wp2_with fail
    rw [HV.out]
    exact bodyPost_ret (v := .tuple #[.agg #[.float .f32 0, .float .f32 0, .float .f32 0, .float .f32 0], .slice none 0 0, .bool false]) (by first | (simp [results, Try.results25, go_sem, cs0, fs0, cs1, fs1, cs2, fs2, cs3, fs3, cr0, fr0, cr1, fr1, cr2, fr2, cr3, fr3]; done) | (simp (maxDischargeDepth := 12) [results, Try.results25, go_sem, cs0, fs0, cs1, fs1, cs2, fs2, cs3, fs3, cr0, fr0, cr1, fr1, cr2, fr2, cr3, fr3]; done) | (simp (maxDischargeDepth := 12) [results, Try.results25, go_sem, cs0, fs0, cs1, fs1, cs2, fs2, cs3, fs3, cr0, fr0, cr1, fr1, cr2, fr2, cr3, fr3]; rfl)) rfl (RunB.no (by repeat (first | with_reducible exact Hb2.out | with_reducible refine beld ?_ _ | (with_reducible refine Below.alloc ?_ ?_ _; rotate_left; exact (by first | (simp; done) | (simp; omega) | omega)) | (with_reducible refine Below.setCell ?_ ?_ _; rotate_left; exact (by first | (simp; done) | (simp; omega) | omega)))))
  have hli : (V.length : Int) = (X.length : Int) := by omega
  go_wp2_with fail
  refine (isPositive_o _ ht).mono ?_
  rintro e w' ⟨bb, hbb, rfl, rfl⟩
  have Hp := Lib.hid hbb
  clear hbb
  cases bb
  · have hv : Q = failRun := by rw [← HQ.out]; unfold runSnowO; rw [Hp.out]; simp only [Bool.false_and, Bool.and_false]; rfl
    have HV := Lib.hid hv
    clear hv
    go_wp2_with fail
    rw [HV.out]
    exact bodyPost_ret (v := .tuple #[.agg #[.float .f32 0, .float .f32 0, .float .f32 0, .float .f32 0], .slice none 0 0, .bool false]) (by first | (simp [results, Try.results25, go_sem, cs0, fs0, cs1, fs1, cs2, fs2, cs3, fs3, cr0, fr0, cr1, fr1, cr2, fr2, cr3, fr3]; done) | (simp (maxDischargeDepth := 12) [results, Try.results25, go_sem, cs0, fs0, cs1, fs1, cs2, fs2, cs3, fs3, cr0, fr0, cr1, fr1, cr2, fr2, cr3, fr3]; done) | (simp (maxDischargeDepth := 12) [results, Try.results25, go_sem, cs0, fs0, cs1, fs1, cs2, fs2, cs3, fs3, cr0, fr0, cr1, fr1, cr2, fr2, cr3, fr3]; rfl)) rfl (RunB.no (by repeat (first | with_reducible exact Hb2.out | with_reducible refine beld ?_ _ | (with_reducible refine Below.alloc ?_ ?_ _; rotate_left; exact (by first | (simp; done) | (simp; omega) | omega)) | (with_reducible refine Below.setCell ?_ ?_ _; rotate_left; exact (by first | (simp; done) | (simp; omega) | omega)))))
  have hq := HQ.out
  unfold runSnowO at hq
  rw [Hs.out, Hx.out, Hp.out, decide_eq_true hlen] at hq
  have HQ2 : Hid ((if snOk A0 A1 A2 A3 T X V X.length then (⟨(snIt A0 A1 A2 A3 T X V X.length).s0, (snIt A0 A1 A2 A3 T X V X.length).s1, (snIt A0 A1 A2 A3 T X V X.length).s2, (snIt A0 A1 A2 A3 T X V X.length).s3, (snOuts A0 A1 A2 A3 T X V X.length).map (fun Y => Y.getD 0), true⟩ : RunR) else failRun) = Q) := Lib.hid hq
  clear hq
  go_wp2_with (at_make; refine make_any rfl rfl _ _ rfl .i64 .i64 _ _ X.length rfl rfl rfl rfl (by omega) (lo := w.heap.size + 2) hs2 ?_)
  intro w3 hown hgrow
  have HB3 := Lib.hid (Below.made Hb2.out hgrow (by omega))
  have HS3 := Lib.hid (BWs2.out.below (Below.made (Below.refl (w.heap.size + 2) _) hgrow hs2) (by omega))
  have HR3 := Lib.hid (BWr2.out.below (Below.made (Below.refl (w.heap.size + 2) _) hgrow hs2) (by omega))
  have HRow3 : Hid (RowO w3 (w.heap.size + 2) (.slice (some ⟨w2.heap.size, 0, none⟩) X.length X.length) (([] : List Nat) ++ List.replicate (X.length - ([] : List Nat).length) 0)) := Lib.hid (by simpa using hown)
  obtain ⟨gb, hgb⟩ : ∃ gb, w2.heap.size = gb := ⟨_, rfl⟩
  rw [hgb] at HRow3 hs2 ⊢
  clear hown hgrow hgb cs0 cs1 cs2 cs3 fs0 fs1 fs2 fs3 cr0 cr1 cr2 cr3 fr0 fr1 fr2 fr3 BWs2 BWr2 Hb2
  go_wp2_with fail
  go_loopw [41] (fun i wr => ∃ (k : Nat) (ls : List Nat) (c0 c1 c2 c3 : Nat), k ≤ X.length ∧ i = .int .i64 k ∧ Hid (Is32 (snIt A0 A1 A2 A3 T X V k).s0 c0 ∧ Is32 (snIt A0 A1 A2 A3 T X V k).s1 c1 ∧ Is32 (snIt A0 A1 A2 A3 T X V k).s2 c2 ∧ Is32 (snIt A0 A1 A2 A3 T X V k).s3 c3) ∧ Hid (snOk A0 A1 A2 A3 T X V k = true) ∧ Hid (ls.length = k) ∧ Hid (Is32s (snOuts A0 A1 A2 A3 T X V k) ls) ∧ Hid (RowO wr (w.heap.size + 2) (.slice (some ⟨gb, 0, none⟩) X.length X.length) (ls ++ List.replicate (X.length - ls.length) 0)) ∧ Hid (Bw wr w.heap.size [.float .f32 c0, .float .f32 c1, .float .f32 c2, .float .f32 c3]) ∧ Hid (Bw wr (w.heap.size + 1) [.float .f32 0, .float .f32 0, .float .f32 0, .float .f32 0]) ∧ Hid (Below w.heap.size w wr)) (fun i _ => X.length - (intOf i).toNat)
  case atStart => exact ⟨0, [], a0, a1, a2, a3, Nat.zero_le _, rfl, Lib.hid ⟨ha0, ha1, ha2, ha3⟩, Lib.hid rfl, Lib.hid rfl, Lib.hid Is32s.nil, HRow3, HS3, HR3, HB3⟩
  case round =>
    obtain ⟨k, ls, c0, c1, c2, c3, hk, rfl, HC, HOk, HLk, HIl, HRow, HS, HR, HBk⟩ := hrel
    by_cases hlt : k < X.length
    · obtain ⟨bx, ox, rfl, hbx, hcx⟩ := row_at H1.out (by omega)
      obtain ⟨bv, ov, rfl, hbv, hcv⟩ := row_at H2.out (by omega)
      obtain ⟨x, hx⟩ : ∃ x, X.getD k 0 = x := ⟨_, rfl⟩
      obtain ⟨v, hv⟩ : ∃ v, V.getD k 0 = v := ⟨_, rfl⟩
      have hcx' : wr.cell? ⟨bx, ox + k, none⟩ = some (.float .f32 x) := by rw [HBk.out.cell (p := ⟨bx, ox + k, none⟩) hbx, hcx k hlt, hx]
      have hcv' : w.cell? ⟨bv, ov + k, none⟩ = some (.float .f32 v) := by rw [hcv k (by omega), hv]
      have hxi : Is32 (some x) x := Is32.c (by rw [← hx]; exact getD_lt HZ1.out _)
      have hvi : Is32 (some v) v := Is32.c (by rw [← hv]; exact getD_lt HZ2.out _)
      have Hcv := Lib.hid hcv'
      have Hx := Lib.hid hx
      have Hv := Lib.hid hv
      have Hxi := Lib.hid hxi
      have Hvi := Lib.hid hvi
      clear hcv hcx hx hv hcv' hxi hvi
      have hne9 : (Value.slice (some ⟨gb, 0, none⟩) X.length X.length).ownBlock ≠ some w.heap.size := by intro h9; simp [Value.ownBlock] at h9; omega
      have HNe := Lib.hid hne9
      clear hne9
      obtain ⟨R, hR⟩ : ∃ R, snIt A0 A1 A2 A3 T X V (k + 1) = R := ⟨_, rfl⟩
      have hcall : ∀ W : World, Calls Try.prog 53 #[.agg #[.float .f32 c0, .float .f32 c1, .float .f32 c2, .float .f32 c3], .float .f32 x, .float .f32 v, .float .f32 t] W (SnowB R W) := by
        intro W
        have h9 := stepSnow_i W HC.out.1 HC.out.2.1 HC.out.2.2.1 HC.out.2.2.2 Hxi.out Hvi.out ht
        rw [← hR, snIt, Hx.out, Hv.out]
        exact h9
      have HCall := Lib.hid hcall
      have HRR := Lib.hid hR
      clear hcall hR
      obtain ⟨zs, hzs⟩ : ∃ zs, ls ++ List.replicate (X.length - ls.length) 0 = zs := ⟨_, rfl⟩
      have hzl : zs.length = X.length := by rw [← hzs]; exact fill_len ls X.length (by rw [HLk.out]; exact hk)
      rw [hzs] at HRow
      have Hzs := Lib.hid hzs
      have Hzl := Lib.hid hzl
      clear hzs hzl
      go_wp2_with fail
      refine wp_region_inv (id := 8) (snInv _ w R gb X.length k bv ov X.length cap2 c0 c1 c2 c3 x v t zs) (by kernel_rfl) (by kernel_rfl) (snInv.start _ (beld HBk.out 1) HS.out HR.out HRow.out) ?hend ?hsteps
      case hend =>
        intro d a w9 hinv hall
        obtain ⟨u14, u46, u47, u48, u49, u50, u51, u52, u53, u54, u55, u56, u57, u58, u59, u60, y0, y1, y2, y3, yo, rfl, f0, f1, f2, f3, f4, f5, f6, f7, f8, f9, f10, f11, f12, f13, f15, f17, hbel, hs14, gs14, hres, hr16, gr16⟩ := hinv
        have e0 := f0 (hall 0 (by decide))
        subst e0
        have e1 := f1 (hall 1 (by decide))
        subst e1
        have e2 := f2 (hall 2 (by decide))
        subst e2
        have e3 := f3 (hall 3 (by decide))
        subst e3
        have e4 := f4 (hall 4 (by decide))
        subst e4
        have e5 := f5 (hall 5 (by decide))
        subst e5
        have e6 := f6 (hall 6 (by decide))
        subst e6
        have e7 := f7 (hall 7 (by decide))
        subst e7
        have e8 := f8 (hall 8 (by decide))
        subst e8
        obtain ⟨e9, hy⟩ := f9 (hall 9 (by decide))
        subst e9
        have e10 := f10 (hall 10 (by decide))
        subst e10
        have e11 := f11 (hall 11 (by decide))
        subst e11
        have e12 := f12 (hall 12 (by decide))
        subst e12
        have e13 := f13 (hall 13 (by decide))
        subst e13
        have e15 := f15 (hall 15 (by decide))
        subst e15
        have e17 := f17 (hall 17 (by decide))
        subst e17
        have Hy := Lib.hid hy
        have HS9 := Lib.hid (gs14 (hall 14 (by decide)))
        have HR9 := Lib.hid hres
        have hrow := gr16 (hall 16 (by decide))
        have hfs := fill_set ls X.length yo (by rw [HLk.out]; exact hlt)
        rw [HLk.out] at hfs
        rw [← Hzs.out, HLk.out, hfs] at hrow
        clear hfs
        have HRow9 := Lib.hid hrow
        have HB9 := Lib.hid hbel
        clear f0 f1 f2 f3 f4 f5 f6 f7 f8 f9 f10 f11 f12 f13 f15 f17 hbel hs14 gs14 hres hr16 gr16 hy hrow
        have hr0 := HR9.out.c 0 rfl
        have hr1 := HR9.out.c 1 rfl
        have hr2 := HR9.out.c 2 rfl
        have hr3 := HR9.out.c 3 rfl
        have hg0 := HR9.out.f 0 (by simp)
        have hg1 := HR9.out.f 1 (by simp)
        have hg2 := HR9.out.f 2 (by simp)
        have hg3 := HR9.out.f 3 (by simp)
        obtain ⟨okb, hok⟩ : ∃ b, R.ok = b := ⟨_, rfl⟩
        rw [hok]
        have Hok := Lib.hid hok
        clear hok
        simp only [Act.put]
        cases okb
        · have hv : Q = failRun := by rw [← HQ2.out, if_neg]; rw [snOk_no hlt (by rw [HRR.out]; exact Hok.out)]; decide
          have HV := Lib.hid hv
          clear hv
          go_wp2_with fail
          rw [HV.out]
          exact bodyPost_ret (v := .tuple #[.agg #[.float .f32 0, .float .f32 0, .float .f32 0, .float .f32 0], .slice none 0 0, .bool false]) (by first | (simp [results, Try.results25, go_sem, hr0, hr1, hr2, hr3, hg0, hg1, hg2, hg3]; done) | (simp (maxDischargeDepth := 12) [results, Try.results25, go_sem, hr0, hr1, hr2, hr3, hg0, hg1, hg2, hg3]; done) | (simp (maxDischargeDepth := 12) [results, Try.results25, go_sem, hr0, hr1, hr2, hr3, hg0, hg1, hg2, hg3]; rfl)) rfl (RunB.no (by repeat (first | with_reducible exact HB9.out | with_reducible refine beld ?_ _ | (with_reducible refine Below.alloc ?_ ?_ _; rotate_left; exact (by first | (simp; done) | (simp; omega) | omega)) | (with_reducible refine Below.setCell ?_ ?_ _; rotate_left; exact (by first | (simp; done) | (simp; omega) | omega)))))
        · go_wp2_with fail
          go_roundw
          case rel => exact ⟨k + 1, ls ++ [yo], y0, y1, y2, y3, by omega, by go_num, Lib.hid (by rw [HRR.out]; exact ⟨Hy.out.1, Hy.out.2.1, Hy.out.2.2.1, Hy.out.2.2.2.1⟩), Lib.hid (snOk_succ HOk.out (by rw [HRR.out]; exact Hok.out)), Lib.hid (by rw [List.length_append, List.length_singleton, HLk.out]), Lib.hid (by rw [snOuts_succ, HRR.out]; exact HIl.out.snoc Hy.out.2.2.2.2), HRow9, HS9, HR9, HB9⟩
          case measure => simp [intOf]; omega
      case hsteps =>
        refine .cons 1 rfl ?_ ?_
        · intro d a w9 hsz hcl hinv hd hdep
          obtain ⟨u14, u46, u47, u48, u49, u50, u51, u52, u53, u54, u55, u56, u57, u58, u59, u60, y0, y1, y2, y3, yo, rfl, f0, f1, f2, f3, f4, f5, f6, f7, f8, f9, f10, f11, f12, f13, f15, f17, hbel, hs14, gs14, hres, hr16, gr16⟩ := hinv
          have HF := Lib.hid (show True from trivial)
          simp only [Act.put]
          go_wp2_with fail
          exact snInv.mk u14 u46 (.slice (some ⟨gb, 0, none⟩) X.length X.length) u48 u49 u50 u51 u52 u53 u54 u55 u56 u57 u58 u59 u60 y0 y1 y2 y3 yo (by first | kernel_rfl | rfl) (Gd.new (by first | rfl | simp)) (Gd.keep (i := 0) f1 (by decide)) (Gd.keep (i := 0) f2 (by decide)) (Gd.keep (i := 0) f3 (by decide)) (Gd.keep (i := 0) f4 (by decide)) (Gd.keep (i := 0) f5 (by decide)) (Gd.keep (i := 0) f6 (by decide)) (Gd.keep (i := 0) f7 (by decide)) (Gd.keep (i := 0) f8 (by decide)) (Gd.keep (i := 0) f9 (by decide)) (Gd.keep (i := 0) f10 (by decide)) (Gd.keep (i := 0) f11 (by decide)) (Gd.keep (i := 0) f12 (by decide)) (Gd.keep (i := 0) f13 (by decide)) (Gd.keep (i := 0) f15 (by decide)) (Gd.keep (i := 0) f17 (by decide)) hbel (hs14.keep (i := 0) (by decide)) (gs14.keep (i := 0) (by decide)) hres (hr16.keep (i := 0) (by decide)) (gr16.keep (i := 0) (by decide))
        refine .cons 2 rfl ?_ ?_
        · intro d a w9 hsz hcl hinv hd hdep
          obtain ⟨u14, u46, u47, u48, u49, u50, u51, u52, u53, u54, u55, u56, u57, u58, u59, u60, y0, y1, y2, y3, yo, rfl, f0, f1, f2, f3, f4, f5, f6, f7, f8, f9, f10, f11, f12, f13, f15, f17, hbel, hs14, gs14, hres, hr16, gr16⟩ := hinv
          have HF := Lib.hid (show True from trivial)
          simp only [Act.put]
          go_wp2_with fail
          exact snInv.mk u14 u46 u47 (.int .i64 k) u49 u50 u51 u52 u53 u54 u55 u56 u57 u58 u59 u60 y0 y1 y2 y3 yo (by first | kernel_rfl | rfl) (Gd.keep (i := 1) f0 (by decide)) (Gd.new (by first | rfl | simp)) (Gd.keep (i := 1) f2 (by decide)) (Gd.keep (i := 1) f3 (by decide)) (Gd.keep (i := 1) f4 (by decide)) (Gd.keep (i := 1) f5 (by decide)) (Gd.keep (i := 1) f6 (by decide)) (Gd.keep (i := 1) f7 (by decide)) (Gd.keep (i := 1) f8 (by decide)) (Gd.keep (i := 1) f9 (by decide)) (Gd.keep (i := 1) f10 (by decide)) (Gd.keep (i := 1) f11 (by decide)) (Gd.keep (i := 1) f12 (by decide)) (Gd.keep (i := 1) f13 (by decide)) (Gd.keep (i := 1) f15 (by decide)) (Gd.keep (i := 1) f17 (by decide)) hbel (hs14.keep (i := 1) (by decide)) (gs14.keep (i := 1) (by decide)) hres (hr16.keep (i := 1) (by decide)) (gr16.keep (i := 1) (by decide))
        refine .cons 3 rfl ?_ ?_
        · intro d a w9 hsz hcl hinv hd hdep
          obtain ⟨u14, u46, u47, u48, u49, u50, u51, u52, u53, u54, u55, u56, u57, u58, u59, u60, y0, y1, y2, y3, yo, rfl, f0, f1, f2, f3, f4, f5, f6, f7, f8, f9, f10, f11, f12, f13, f15, f17, hbel, hs14, gs14, hres, hr16, gr16⟩ := hinv
          have hnd := hcl.not hd 14 _ rfl rfl
          have hbs := hs14 hnd
          have hc0 := hbs.c 0 rfl
          have hc1 := hbs.c 1 rfl
          have hc2 := hbs.c 2 rfl
          have hc3 := hbs.c 3 rfl
          have HF := Lib.hid (show True from trivial)
          simp only [Act.put]
          go_wp2_with fail
          exact snInv.mk u14 u46 u47 u48 (.agg #[.float .f32 c0, .float .f32 c1, .float .f32 c2, .float .f32 c3]) u50 u51 u52 u53 u54 u55 u56 u57 u58 u59 u60 y0 y1 y2 y3 yo (by first | kernel_rfl | rfl) (Gd.keep (i := 2) f0 (by decide)) (Gd.keep (i := 2) f1 (by decide)) (Gd.new (by first | rfl | simp)) (Gd.keep (i := 2) f3 (by decide)) (Gd.keep (i := 2) f4 (by decide)) (Gd.keep (i := 2) f5 (by decide)) (Gd.keep (i := 2) f6 (by decide)) (Gd.keep (i := 2) f7 (by decide)) (Gd.keep (i := 2) f8 (by decide)) (Gd.keep (i := 2) f9 (by decide)) (Gd.keep (i := 2) f10 (by decide)) (Gd.keep (i := 2) f11 (by decide)) (Gd.keep (i := 2) f12 (by decide)) (Gd.keep (i := 2) f13 (by decide)) (Gd.keep (i := 2) f15 (by decide)) (Gd.keep (i := 2) f17 (by decide)) hbel (hs14.keep (i := 2) (by decide)) (gs14.keep (i := 2) (by decide)) hres (hr16.keep (i := 2) (by decide)) (gr16.keep (i := 2) (by decide))
        refine .cons 4 rfl ?_ ?_
        · intro d a w9 hsz hcl hinv hd hdep
          obtain ⟨u14, u46, u47, u48, u49, u50, u51, u52, u53, u54, u55, u56, u57, u58, u59, u60, y0, y1, y2, y3, yo, rfl, f0, f1, f2, f3, f4, f5, f6, f7, f8, f9, f10, f11, f12, f13, f15, f17, hbel, hs14, gs14, hres, hr16, gr16⟩ := hinv
          have HF := Lib.hid (show True from trivial)
          simp only [Act.put]
          go_wp2_with fail
          exact snInv.mk u14 u46 u47 u48 u49 (.float .f32 x) u51 u52 u53 u54 u55 u56 u57 u58 u59 u60 y0 y1 y2 y3 yo (by first | kernel_rfl | rfl) (Gd.keep (i := 3) f0 (by decide)) (Gd.keep (i := 3) f1 (by decide)) (Gd.keep (i := 3) f2 (by decide)) (Gd.new (by first | rfl | simp)) (Gd.keep (i := 3) f4 (by decide)) (Gd.keep (i := 3) f5 (by decide)) (Gd.keep (i := 3) f6 (by decide)) (Gd.keep (i := 3) f7 (by decide)) (Gd.keep (i := 3) f8 (by decide)) (Gd.keep (i := 3) f9 (by decide)) (Gd.keep (i := 3) f10 (by decide)) (Gd.keep (i := 3) f11 (by decide)) (Gd.keep (i := 3) f12 (by decide)) (Gd.keep (i := 3) f13 (by decide)) (Gd.keep (i := 3) f15 (by decide)) (Gd.keep (i := 3) f17 (by decide)) hbel (hs14.keep (i := 3) (by decide)) (gs14.keep (i := 3) (by decide)) hres (hr16.keep (i := 3) (by decide)) (gr16.keep (i := 3) (by decide))
        refine .cons 5 rfl ?_ ?_
        · intro d a w9 hsz hcl hinv hd hdep
          obtain ⟨u14, u46, u47, u48, u49, u50, u51, u52, u53, u54, u55, u56, u57, u58, u59, u60, y0, y1, y2, y3, yo, rfl, f0, f1, f2, f3, f4, f5, f6, f7, f8, f9, f10, f11, f12, f13, f15, f17, hbel, hs14, gs14, hres, hr16, gr16⟩ := hinv
          have HF := Lib.hid (show True from trivial)
          simp only [Act.put]
          go_wp2_with fail
          exact snInv.mk u14 u46 u47 u48 u49 u50 (.slice (some ⟨bv, ov, none⟩) X.length cap2) u52 u53 u54 u55 u56 u57 u58 u59 u60 y0 y1 y2 y3 yo (by first | kernel_rfl | rfl) (Gd.keep (i := 4) f0 (by decide)) (Gd.keep (i := 4) f1 (by decide)) (Gd.keep (i := 4) f2 (by decide)) (Gd.keep (i := 4) f3 (by decide)) (Gd.new (by first | rfl | simp)) (Gd.keep (i := 4) f5 (by decide)) (Gd.keep (i := 4) f6 (by decide)) (Gd.keep (i := 4) f7 (by decide)) (Gd.keep (i := 4) f8 (by decide)) (Gd.keep (i := 4) f9 (by decide)) (Gd.keep (i := 4) f10 (by decide)) (Gd.keep (i := 4) f11 (by decide)) (Gd.keep (i := 4) f12 (by decide)) (Gd.keep (i := 4) f13 (by decide)) (Gd.keep (i := 4) f15 (by decide)) (Gd.keep (i := 4) f17 (by decide)) hbel (hs14.keep (i := 4) (by decide)) (gs14.keep (i := 4) (by decide)) hres (hr16.keep (i := 4) (by decide)) (gr16.keep (i := 4) (by decide))
        refine .cons 6 rfl ?_ ?_
        · intro d a w9 hsz hcl hinv hd hdep
          obtain ⟨u14, u46, u47, u48, u49, u50, u51, u52, u53, u54, u55, u56, u57, u58, u59, u60, y0, y1, y2, y3, yo, rfl, f0, f1, f2, f3, f4, f5, f6, f7, f8, f9, f10, f11, f12, f13, f15, f17, hbel, hs14, gs14, hres, hr16, gr16⟩ := hinv
          have HF := Lib.hid (show True from trivial)
          simp only [Act.put]
          go_wp2_with fail
          exact snInv.mk u14 u46 u47 u48 u49 u50 u51 (.int .i64 k) u53 u54 u55 u56 u57 u58 u59 u60 y0 y1 y2 y3 yo (by first | kernel_rfl | rfl) (Gd.keep (i := 5) f0 (by decide)) (Gd.keep (i := 5) f1 (by decide)) (Gd.keep (i := 5) f2 (by decide)) (Gd.keep (i := 5) f3 (by decide)) (Gd.keep (i := 5) f4 (by decide)) (Gd.new (by first | rfl | simp)) (Gd.keep (i := 5) f6 (by decide)) (Gd.keep (i := 5) f7 (by decide)) (Gd.keep (i := 5) f8 (by decide)) (Gd.keep (i := 5) f9 (by decide)) (Gd.keep (i := 5) f10 (by decide)) (Gd.keep (i := 5) f11 (by decide)) (Gd.keep (i := 5) f12 (by decide)) (Gd.keep (i := 5) f13 (by decide)) (Gd.keep (i := 5) f15 (by decide)) (Gd.keep (i := 5) f17 (by decide)) hbel (hs14.keep (i := 5) (by decide)) (gs14.keep (i := 5) (by decide)) hres (hr16.keep (i := 5) (by decide)) (gr16.keep (i := 5) (by decide))
        refine .cons 7 rfl ?_ ?_
        · intro d a w9 hsz hcl hinv hd hdep
          obtain ⟨u14, u46, u47, u48, u49, u50, u51, u52, u53, u54, u55, u56, u57, u58, u59, u60, y0, y1, y2, y3, yo, rfl, f0, f1, f2, f3, f4, f5, f6, f7, f8, f9, f10, f11, f12, f13, f15, f17, hbel, hs14, gs14, hres, hr16, gr16⟩ := hinv
          have e4 := f4 (hdep.get 4 rfl)
          subst e4
          have e5 := f5 (hdep.get 5 rfl)
          subst e5
          have hkv : (k : Int) < (X.length : Int) := by omega
          have HF := Lib.hid (show True from trivial)
          simp only [Act.put]
          go_wp2_with fail
          exact snInv.mk u14 u46 u47 u48 u49 u50 (.slice (some ⟨bv, ov, none⟩) X.length cap2) (.int .i64 k) (.pointer (some ⟨bv, ov + k, none⟩)) u54 u55 u56 u57 u58 u59 u60 y0 y1 y2 y3 yo (by first | kernel_rfl | rfl) (Gd.keep (i := 6) f0 (by decide)) (Gd.keep (i := 6) f1 (by decide)) (Gd.keep (i := 6) f2 (by decide)) (Gd.keep (i := 6) f3 (by decide)) (Gd.new rfl) (Gd.new rfl) (Gd.new (by first | rfl | simp)) (Gd.keep (i := 6) f7 (by decide)) (Gd.keep (i := 6) f8 (by decide)) (Gd.keep (i := 6) f9 (by decide)) (Gd.keep (i := 6) f10 (by decide)) (Gd.keep (i := 6) f11 (by decide)) (Gd.keep (i := 6) f12 (by decide)) (Gd.keep (i := 6) f13 (by decide)) (Gd.keep (i := 6) f15 (by decide)) (Gd.keep (i := 6) f17 (by decide)) hbel (hs14.keep (i := 6) (by decide)) (gs14.keep (i := 6) (by decide)) hres (hr16.keep (i := 6) (by decide)) (gr16.keep (i := 6) (by decide))
        refine .cons 8 rfl ?_ ?_
        · intro d a w9 hsz hcl hinv hd hdep
          obtain ⟨u14, u46, u47, u48, u49, u50, u51, u52, u53, u54, u55, u56, u57, u58, u59, u60, y0, y1, y2, y3, yo, rfl, f0, f1, f2, f3, f4, f5, f6, f7, f8, f9, f10, f11, f12, f13, f15, f17, hbel, hs14, gs14, hres, hr16, gr16⟩ := hinv
          have e6 := f6 (hdep.get 6 rfl)
          subst e6
          have hcell : w9.cell? ⟨bv, ov + k, none⟩ = some (.float .f32 v) := by rw [hbel.cell (p := ⟨bv, ov + k, none⟩) hbv]; exact Hcv.out
          have HF := Lib.hid (show True from trivial)
          simp only [Act.put]
          go_wp2_with fail
          exact snInv.mk u14 u46 u47 u48 u49 u50 u51 u52 (.pointer (some ⟨bv, ov + k, none⟩)) (.float .f32 v) u55 u56 u57 u58 u59 u60 y0 y1 y2 y3 yo (by first | kernel_rfl | rfl) (Gd.keep (i := 7) f0 (by decide)) (Gd.keep (i := 7) f1 (by decide)) (Gd.keep (i := 7) f2 (by decide)) (Gd.keep (i := 7) f3 (by decide)) (Gd.keep (i := 7) f4 (by decide)) (Gd.keep (i := 7) f5 (by decide)) (Gd.new rfl) (Gd.new (by first | rfl | simp)) (Gd.keep (i := 7) f8 (by decide)) (Gd.keep (i := 7) f9 (by decide)) (Gd.keep (i := 7) f10 (by decide)) (Gd.keep (i := 7) f11 (by decide)) (Gd.keep (i := 7) f12 (by decide)) (Gd.keep (i := 7) f13 (by decide)) (Gd.keep (i := 7) f15 (by decide)) (Gd.keep (i := 7) f17 (by decide)) hbel (hs14.keep (i := 7) (by decide)) (gs14.keep (i := 7) (by decide)) hres (hr16.keep (i := 7) (by decide)) (gr16.keep (i := 7) (by decide))
        refine .cons 9 rfl ?_ ?_
        · intro d a w9 hsz hcl hinv hd hdep
          obtain ⟨u14, u46, u47, u48, u49, u50, u51, u52, u53, u54, u55, u56, u57, u58, u59, u60, y0, y1, y2, y3, yo, rfl, f0, f1, f2, f3, f4, f5, f6, f7, f8, f9, f10, f11, f12, f13, f15, f17, hbel, hs14, gs14, hres, hr16, gr16⟩ := hinv
          have HF := Lib.hid (show True from trivial)
          simp only [Act.put]
          go_wp2_with fail
          exact snInv.mk u14 u46 u47 u48 u49 u50 u51 u52 u53 u54 (.float .f32 t) u56 u57 u58 u59 u60 y0 y1 y2 y3 yo (by first | kernel_rfl | rfl) (Gd.keep (i := 8) f0 (by decide)) (Gd.keep (i := 8) f1 (by decide)) (Gd.keep (i := 8) f2 (by decide)) (Gd.keep (i := 8) f3 (by decide)) (Gd.keep (i := 8) f4 (by decide)) (Gd.keep (i := 8) f5 (by decide)) (Gd.keep (i := 8) f6 (by decide)) (Gd.keep (i := 8) f7 (by decide)) (Gd.new (by first | rfl | simp)) (Gd.keep (i := 8) f9 (by decide)) (Gd.keep (i := 8) f10 (by decide)) (Gd.keep (i := 8) f11 (by decide)) (Gd.keep (i := 8) f12 (by decide)) (Gd.keep (i := 8) f13 (by decide)) (Gd.keep (i := 8) f15 (by decide)) (Gd.keep (i := 8) f17 (by decide)) hbel (hs14.keep (i := 8) (by decide)) (gs14.keep (i := 8) (by decide)) hres (hr16.keep (i := 8) (by decide)) (gr16.keep (i := 8) (by decide))
        refine .cons 10 rfl ?_ ?_
        · intro d a w9 hsz hcl hinv hd hdep
          obtain ⟨u14, u46, u47, u48, u49, u50, u51, u52, u53, u54, u55, u56, u57, u58, u59, u60, y0, y1, y2, y3, yo, rfl, f0, f1, f2, f3, f4, f5, f6, f7, f8, f9, f10, f11, f12, f13, f15, f17, hbel, hs14, gs14, hres, hr16, gr16⟩ := hinv
          have e2 := f2 (hdep.get 2 rfl)
          subst e2
          have e3 := f3 (hdep.get 3 rfl)
          subst e3
          have e7 := f7 (hdep.get 7 rfl)
          subst e7
          have e8 := f8 (hdep.get 8 rfl)
          subst e8
          have n10 := hcl.not hd 10 _ rfl rfl
          have n11 := hcl.not n10 11 _ rfl rfl
          have n12 := hcl.not n10 12 _ rfl rfl
          have n13 := hcl.not n10 13 _ rfl rfl
          have n14 := hcl.not n11 14 _ rfl rfl
          have n16 := hcl.not n12 16 _ rfl rfl
          have n17 := hcl.not n13 17 _ rfl rfl
          have HF := Lib.hid (show True from trivial)
          simp only [Act.put]
          go_wp2_with fail
          refine (HCall.out _).mono ?_
          rintro e w5 ⟨y0', y1', y2', y3', yo', rfl, hy5, hb⟩
          have Hy5 := Lib.hid hy5
          have Hb5 := Lib.hid hb
          clear hy5 hb
          go_wp2_with fail
          exact snInv.mk u14 u46 u47 u48 (.agg #[.float .f32 c0, .float .f32 c1, .float .f32 c2, .float .f32 c3]) (.float .f32 x) u51 u52 u53 (.float .f32 v) (.float .f32 t) (.tuple #[.agg #[.float .f32 y0', .float .f32 y1', .float .f32 y2', .float .f32 y3'], .float .f32 yo', .bool R.ok]) u57 u58 u59 u60 y0' y1' y2' y3' yo' (by first | kernel_rfl | rfl) (Gd.keep (i := 9) f0 (by decide)) (Gd.keep (i := 9) f1 (by decide)) (Gd.new rfl) (Gd.new rfl) (Gd.keep (i := 9) f4 (by decide)) (Gd.keep (i := 9) f5 (by decide)) (Gd.keep (i := 9) f6 (by decide)) (Gd.new rfl) (Gd.new rfl) (Gd.new ⟨rfl, Hy5.out⟩) (Gd.undone (i := 9) n10 (by decide)) (Gd.undone (i := 9) n11 (by decide)) (Gd.undone (i := 9) n12 (by decide)) (Gd.undone (i := 9) n13 (by decide)) (Gd.keep (i := 9) f15 (by decide)) (Gd.undone (i := 9) n17 (by decide)) (hbel.trans (Hb5.out.mono hbel.size)) ((hs14.imp fun h => h.below Hb5.out h.1.1).keep (i := 9) (by decide)) (Gd.undone n14 (by decide)) (hres.below Hb5.out hres.1.1) ((hr16.imp fun h => h.below Hb5.out (Nat.le_refl _)).keep (i := 9) (by decide)) (Gd.undone n16 (by decide))
        refine .cons 11 rfl ?_ ?_
        · intro d a w9 hsz hcl hinv hd hdep
          obtain ⟨u14, u46, u47, u48, u49, u50, u51, u52, u53, u54, u55, u56, u57, u58, u59, u60, y0, y1, y2, y3, yo, rfl, f0, f1, f2, f3, f4, f5, f6, f7, f8, f9, f10, f11, f12, f13, f15, f17, hbel, hs14, gs14, hres, hr16, gr16⟩ := hinv
          have e9 := f9 (hdep.get 9 rfl)
          obtain ⟨e9, hy⟩ := e9
          have Hy := Lib.hid hy
          clear hy
          subst e9
          have HF := Lib.hid (show True from trivial)
          simp only [Act.put]
          go_wp2_with fail
          exact snInv.mk u14 (.tuple #[.agg #[.float .f32 y0, .float .f32 y1, .float .f32 y2, .float .f32 y3], .float .f32 yo, .bool R.ok]) u47 u48 u49 u50 u51 u52 u53 u54 u55 (.tuple #[.agg #[.float .f32 y0, .float .f32 y1, .float .f32 y2, .float .f32 y3], .float .f32 yo, .bool R.ok]) u57 u58 u59 u60 y0 y1 y2 y3 yo (by first | kernel_rfl | rfl) (Gd.keep (i := 10) f0 (by decide)) (Gd.keep (i := 10) f1 (by decide)) (Gd.keep (i := 10) f2 (by decide)) (Gd.keep (i := 10) f3 (by decide)) (Gd.keep (i := 10) f4 (by decide)) (Gd.keep (i := 10) f5 (by decide)) (Gd.keep (i := 10) f6 (by decide)) (Gd.keep (i := 10) f7 (by decide)) (Gd.keep (i := 10) f8 (by decide)) (Gd.new ⟨rfl, Hy.out⟩) (Gd.new (by first | rfl | simp)) (Gd.keep (i := 10) f11 (by decide)) (Gd.keep (i := 10) f12 (by decide)) (Gd.keep (i := 10) f13 (by decide)) (Gd.keep (i := 10) f15 (by decide)) (Gd.keep (i := 10) f17 (by decide)) hbel (hs14.keep (i := 10) (by decide)) (gs14.keep (i := 10) (by decide)) hres (hr16.keep (i := 10) (by decide)) (gr16.keep (i := 10) (by decide))
        refine .cons 12 rfl ?_ ?_
        · intro d a w9 hsz hcl hinv hd hdep
          obtain ⟨u14, u46, u47, u48, u49, u50, u51, u52, u53, u54, u55, u56, u57, u58, u59, u60, y0, y1, y2, y3, yo, rfl, f0, f1, f2, f3, f4, f5, f6, f7, f8, f9, f10, f11, f12, f13, f15, f17, hbel, hs14, gs14, hres, hr16, gr16⟩ := hinv
          have e10 := f10 (hdep.get 10 rfl)
          subst e10
          have HF := Lib.hid (show True from trivial)
          simp only [Act.put]
          go_wp2_with fail
          exact snInv.mk u14 (.tuple #[.agg #[.float .f32 y0, .float .f32 y1, .float .f32 y2, .float .f32 y3], .float .f32 yo, .bool R.ok]) u47 u48 u49 u50 u51 u52 u53 u54 u55 u56 (.agg #[.float .f32 y0, .float .f32 y1, .float .f32 y2, .float .f32 y3]) u58 u59 u60 y0 y1 y2 y3 yo (by first | kernel_rfl | rfl) (Gd.keep (i := 11) f0 (by decide)) (Gd.keep (i := 11) f1 (by decide)) (Gd.keep (i := 11) f2 (by decide)) (Gd.keep (i := 11) f3 (by decide)) (Gd.keep (i := 11) f4 (by decide)) (Gd.keep (i := 11) f5 (by decide)) (Gd.keep (i := 11) f6 (by decide)) (Gd.keep (i := 11) f7 (by decide)) (Gd.keep (i := 11) f8 (by decide)) (Gd.keep (i := 11) f9 (by decide)) (Gd.new rfl) (Gd.new (by first | rfl | simp)) (Gd.keep (i := 11) f12 (by decide)) (Gd.keep (i := 11) f13 (by decide)) (Gd.keep (i := 11) f15 (by decide)) (Gd.keep (i := 11) f17 (by decide)) hbel (hs14.keep (i := 11) (by decide)) (gs14.keep (i := 11) (by decide)) hres (hr16.keep (i := 11) (by decide)) (gr16.keep (i := 11) (by decide))
        refine .cons 13 rfl ?_ ?_
        · intro d a w9 hsz hcl hinv hd hdep
          obtain ⟨u14, u46, u47, u48, u49, u50, u51, u52, u53, u54, u55, u56, u57, u58, u59, u60, y0, y1, y2, y3, yo, rfl, f0, f1, f2, f3, f4, f5, f6, f7, f8, f9, f10, f11, f12, f13, f15, f17, hbel, hs14, gs14, hres, hr16, gr16⟩ := hinv
          have e10 := f10 (hdep.get 10 rfl)
          subst e10
          have HF := Lib.hid (show True from trivial)
          simp only [Act.put]
          go_wp2_with fail
          exact snInv.mk u14 (.tuple #[.agg #[.float .f32 y0, .float .f32 y1, .float .f32 y2, .float .f32 y3], .float .f32 yo, .bool R.ok]) u47 u48 u49 u50 u51 u52 u53 u54 u55 u56 u57 (.float .f32 yo) u59 u60 y0 y1 y2 y3 yo (by first | kernel_rfl | rfl) (Gd.keep (i := 12) f0 (by decide)) (Gd.keep (i := 12) f1 (by decide)) (Gd.keep (i := 12) f2 (by decide)) (Gd.keep (i := 12) f3 (by decide)) (Gd.keep (i := 12) f4 (by decide)) (Gd.keep (i := 12) f5 (by decide)) (Gd.keep (i := 12) f6 (by decide)) (Gd.keep (i := 12) f7 (by decide)) (Gd.keep (i := 12) f8 (by decide)) (Gd.keep (i := 12) f9 (by decide)) (Gd.new rfl) (Gd.keep (i := 12) f11 (by decide)) (Gd.new (by first | rfl | simp)) (Gd.keep (i := 12) f13 (by decide)) (Gd.keep (i := 12) f15 (by decide)) (Gd.keep (i := 12) f17 (by decide)) hbel (hs14.keep (i := 12) (by decide)) (gs14.keep (i := 12) (by decide)) hres (hr16.keep (i := 12) (by decide)) (gr16.keep (i := 12) (by decide))
        refine .cons 14 rfl ?_ ?_
        · intro d a w9 hsz hcl hinv hd hdep
          obtain ⟨u14, u46, u47, u48, u49, u50, u51, u52, u53, u54, u55, u56, u57, u58, u59, u60, y0, y1, y2, y3, yo, rfl, f0, f1, f2, f3, f4, f5, f6, f7, f8, f9, f10, f11, f12, f13, f15, f17, hbel, hs14, gs14, hres, hr16, gr16⟩ := hinv
          have e10 := f10 (hdep.get 10 rfl)
          subst e10
          have HF := Lib.hid (show True from trivial)
          simp only [Act.put]
          go_wp2_with fail
          exact snInv.mk u14 (.tuple #[.agg #[.float .f32 y0, .float .f32 y1, .float .f32 y2, .float .f32 y3], .float .f32 yo, .bool R.ok]) u47 u48 u49 u50 u51 u52 u53 u54 u55 u56 u57 u58 (.bool R.ok) u60 y0 y1 y2 y3 yo (by first | kernel_rfl | rfl) (Gd.keep (i := 13) f0 (by decide)) (Gd.keep (i := 13) f1 (by decide)) (Gd.keep (i := 13) f2 (by decide)) (Gd.keep (i := 13) f3 (by decide)) (Gd.keep (i := 13) f4 (by decide)) (Gd.keep (i := 13) f5 (by decide)) (Gd.keep (i := 13) f6 (by decide)) (Gd.keep (i := 13) f7 (by decide)) (Gd.keep (i := 13) f8 (by decide)) (Gd.keep (i := 13) f9 (by decide)) (Gd.new rfl) (Gd.keep (i := 13) f11 (by decide)) (Gd.keep (i := 13) f12 (by decide)) (Gd.new (by first | rfl | simp)) (Gd.keep (i := 13) f15 (by decide)) (Gd.keep (i := 13) f17 (by decide)) hbel (hs14.keep (i := 13) (by decide)) (gs14.keep (i := 13) (by decide)) hres (hr16.keep (i := 13) (by decide)) (gr16.keep (i := 13) (by decide))
        refine .cons 15 rfl ?_ ?_
        · intro d a w9 hsz hcl hinv hd hdep
          obtain ⟨u14, u46, u47, u48, u49, u50, u51, u52, u53, u54, u55, u56, u57, u58, u59, u60, y0, y1, y2, y3, yo, rfl, f0, f1, f2, f3, f4, f5, f6, f7, f8, f9, f10, f11, f12, f13, f15, f17, hbel, hs14, gs14, hres, hr16, gr16⟩ := hinv
          have e11 := f11 (hdep.get 11 rfl)
          subst e11
          have hbs := hs14 hd
          have hc0 := hbs.c 0 rfl
          have hc1 := hbs.c 1 rfl
          have hc2 := hbs.c 2 rfl
          have hc3 := hbs.c 3 rfl
          have hf0 := hbs.f 0 (by simp)
          have hf1 := hbs.f 1 (by simp)
          have hf2 := hbs.f 2 (by simp)
          have hf3 := hbs.f 3 (by simp)
          have HF := Lib.hid (show True from trivial)
          simp only [Act.put]
          go_wp2_with fail
          exact snInv.mk u14 u46 u47 u48 u49 u50 u51 u52 u53 u54 u55 u56 (.agg #[.float .f32 y0, .float .f32 y1, .float .f32 y2, .float .f32 y3]) u58 u59 u60 y0 y1 y2 y3 yo (by first | kernel_rfl | rfl) (Gd.keep (i := 14) f0 (by decide)) (Gd.keep (i := 14) f1 (by decide)) (Gd.keep (i := 14) f2 (by decide)) (Gd.keep (i := 14) f3 (by decide)) (Gd.keep (i := 14) f4 (by decide)) (Gd.keep (i := 14) f5 (by decide)) (Gd.keep (i := 14) f6 (by decide)) (Gd.keep (i := 14) f7 (by decide)) (Gd.keep (i := 14) f8 (by decide)) (Gd.keep (i := 14) f9 (by decide)) (Gd.keep (i := 14) f10 (by decide)) (Gd.new rfl) (Gd.keep (i := 14) f12 (by decide)) (Gd.keep (i := 14) f13 (by decide)) (Gd.keep (i := 14) f15 (by decide)) (Gd.keep (i := 14) f17 (by decide)) (by repeat (first | with_reducible exact hbel | with_reducible refine beld ?_ _ | (with_reducible refine Below.alloc ?_ ?_ _; rotate_left; exact (by first | (simp; done) | (simp; omega) | omega)) | (with_reducible refine Below.setCell ?_ ?_ _; rotate_left; exact (by first | (simp; done) | (simp; omega) | omega)))) (Ng.new (by rw [hsz]; exact (by decide : 14 < 18))) (Gd.new (Bw.of4 (by have := hbs.1.1; (try simp); omega) (by first | (simp [go_sem, hf0, hf1, hf2, hf3]; done) | (simp (maxDischargeDepth := 12) [go_sem, hc0, hc1, hc2, hc3, hf0, hf1, hf2, hf3]; done) | (simp (maxDischargeDepth := 12) [go_sem, hc0, hc1, hc2, hc3, hf0, hf1, hf2, hf3]; rfl)) (by first | (simp [go_sem, hf0, hf1, hf2, hf3]; done) | (simp (maxDischargeDepth := 12) [go_sem, hc0, hc1, hc2, hc3, hf0, hf1, hf2, hf3]; done) | (simp (maxDischargeDepth := 12) [go_sem, hc0, hc1, hc2, hc3, hf0, hf1, hf2, hf3]; rfl)) (by first | (simp [go_sem, hf0, hf1, hf2, hf3]; done) | (simp (maxDischargeDepth := 12) [go_sem, hc0, hc1, hc2, hc3, hf0, hf1, hf2, hf3]; done) | (simp (maxDischargeDepth := 12) [go_sem, hc0, hc1, hc2, hc3, hf0, hf1, hf2, hf3]; rfl)) (by first | (simp [go_sem, hf0, hf1, hf2, hf3]; done) | (simp (maxDischargeDepth := 12) [go_sem, hc0, hc1, hc2, hc3, hf0, hf1, hf2, hf3]; done) | (simp (maxDischargeDepth := 12) [go_sem, hc0, hc1, hc2, hc3, hf0, hf1, hf2, hf3]; rfl)) (by first | (simp [go_sem, hf0, hf1, hf2, hf3]; done) | (simp (maxDischargeDepth := 12) [go_sem, hc0, hc1, hc2, hc3, hf0, hf1, hf2, hf3]; done) | (simp (maxDischargeDepth := 12) [go_sem, hc0, hc1, hc2, hc3, hf0, hf1, hf2, hf3]; rfl)) (by first | (simp [go_sem, hf0, hf1, hf2, hf3]; done) | (simp (maxDischargeDepth := 12) [go_sem, hc0, hc1, hc2, hc3, hf0, hf1, hf2, hf3]; done) | (simp (maxDischargeDepth := 12) [go_sem, hc0, hc1, hc2, hc3, hf0, hf1, hf2, hf3]; rfl)) (by first | (simp [go_sem, hf0, hf1, hf2, hf3]; done) | (simp (maxDischargeDepth := 12) [go_sem, hc0, hc1, hc2, hc3, hf0, hf1, hf2, hf3]; done) | (simp (maxDischargeDepth := 12) [go_sem, hc0, hc1, hc2, hc3, hf0, hf1, hf2, hf3]; rfl)) (by first | (simp [go_sem, hf0, hf1, hf2, hf3]; done) | (simp (maxDischargeDepth := 12) [go_sem, hc0, hc1, hc2, hc3, hf0, hf1, hf2, hf3]; done) | (simp (maxDischargeDepth := 12) [go_sem, hc0, hc1, hc2, hc3, hf0, hf1, hf2, hf3]; rfl)))) (by repeat (first | with_reducible exact hres | with_reducible refine Bw.setFar ?_ (by show w.heap.size ≠ w.heap.size + 1; omega) _)) ((hr16.imp fun h => h.far4 HNe.out _ _ _ _ _ _ _ _).keep (i := 14) (by decide)) ((gr16.imp fun h => h.far4 HNe.out _ _ _ _ _ _ _ _).keep (i := 14) (by decide))
        refine .cons 16 rfl ?_ ?_
        · intro d a w9 hsz hcl hinv hd hdep
          obtain ⟨u14, u46, u47, u48, u49, u50, u51, u52, u53, u54, u55, u56, u57, u58, u59, u60, y0, y1, y2, y3, yo, rfl, f0, f1, f2, f3, f4, f5, f6, f7, f8, f9, f10, f11, f12, f13, f15, f17, hbel, hs14, gs14, hres, hr16, gr16⟩ := hinv
          have e0 := f0 (hdep.get 0 rfl)
          subst e0
          have e1 := f1 (hdep.get 1 rfl)
          subst e1
          have hkv : (k : Int) < (X.length : Int) := by omega
          have HF := Lib.hid (show True from trivial)
          simp only [Act.put]
          go_wp2_with fail
          exact snInv.mk u14 u46 (.slice (some ⟨gb, 0, none⟩) X.length X.length) (.int .i64 k) u49 u50 u51 u52 u53 u54 u55 u56 u57 u58 u59 (.pointer (some ⟨gb, k, none⟩)) y0 y1 y2 y3 yo (by first | kernel_rfl | rfl) (Gd.new rfl) (Gd.new rfl) (Gd.keep (i := 15) f2 (by decide)) (Gd.keep (i := 15) f3 (by decide)) (Gd.keep (i := 15) f4 (by decide)) (Gd.keep (i := 15) f5 (by decide)) (Gd.keep (i := 15) f6 (by decide)) (Gd.keep (i := 15) f7 (by decide)) (Gd.keep (i := 15) f8 (by decide)) (Gd.keep (i := 15) f9 (by decide)) (Gd.keep (i := 15) f10 (by decide)) (Gd.keep (i := 15) f11 (by decide)) (Gd.keep (i := 15) f12 (by decide)) (Gd.keep (i := 15) f13 (by decide)) (Gd.new (by first | rfl | simp)) (Gd.keep (i := 15) f17 (by decide)) hbel (hs14.keep (i := 15) (by decide)) (gs14.keep (i := 15) (by decide)) hres (hr16.keep (i := 15) (by decide)) (gr16.keep (i := 15) (by decide))
        refine .cons 17 rfl ?_ ?_
        · intro d a w9 hsz hcl hinv hd hdep
          obtain ⟨u14, u46, u47, u48, u49, u50, u51, u52, u53, u54, u55, u56, u57, u58, u59, u60, y0, y1, y2, y3, yo, rfl, f0, f1, f2, f3, f4, f5, f6, f7, f8, f9, f10, f11, f12, f13, f15, f17, hbel, hs14, gs14, hres, hr16, gr16⟩ := hinv
          have e15 := f15 (hdep.get 15 rfl)
          subst e15
          have e12 := f12 (hdep.get 12 rfl)
          subst e12
          have hrw := hr16 hd
          obtain ⟨hcell, hfz⟩ := hrw.at Hzl.out.symm k (by rw [Hzl.out]; exact hlt)
          generalize zs.getD k 0 = old at hcell
          have HF := Lib.hid (show True from trivial)
          simp only [Act.put]
          go_wp2_with fail
          exact snInv.mk u14 u46 u47 u48 u49 u50 u51 u52 u53 u54 u55 u56 u57 (.float .f32 yo) u59 (.pointer (some ⟨gb, k, none⟩)) y0 y1 y2 y3 yo (by first | kernel_rfl | rfl) (Gd.keep (i := 16) f0 (by decide)) (Gd.keep (i := 16) f1 (by decide)) (Gd.keep (i := 16) f2 (by decide)) (Gd.keep (i := 16) f3 (by decide)) (Gd.keep (i := 16) f4 (by decide)) (Gd.keep (i := 16) f5 (by decide)) (Gd.keep (i := 16) f6 (by decide)) (Gd.keep (i := 16) f7 (by decide)) (Gd.keep (i := 16) f8 (by decide)) (Gd.keep (i := 16) f9 (by decide)) (Gd.keep (i := 16) f10 (by decide)) (Gd.keep (i := 16) f11 (by decide)) (Gd.new rfl) (Gd.keep (i := 16) f13 (by decide)) (Gd.new rfl) (Gd.keep (i := 16) f17 (by decide)) (hbel.setCell (by show w.heap.size ≤ gb; omega) _) ((hs14.imp fun h => h.setFar (by show gb ≠ w.heap.size; omega) _).keep (i := 16) (by decide)) ((gs14.imp fun h => h.setFar (by show gb ≠ w.heap.size; omega) _).keep (i := 16) (by decide)) (hres.setFar (by show gb ≠ w.heap.size + 1; omega) _) (Ng.new (by rw [hsz]; exact (by decide : 16 < 18))) (Gd.new (hrw.store Hzl.out.symm k yo))
        refine .cons 18 rfl ?_ trivial
        · intro d a w9 hsz hcl hinv hd hdep
          obtain ⟨u14, u46, u47, u48, u49, u50, u51, u52, u53, u54, u55, u56, u57, u58, u59, u60, y0, y1, y2, y3, yo, rfl, f0, f1, f2, f3, f4, f5, f6, f7, f8, f9, f10, f11, f12, f13, f15, f17, hbel, hs14, gs14, hres, hr16, gr16⟩ := hinv
          have e13 := f13 (hdep.get 13 rfl)
          subst e13
          have HF := Lib.hid (show True from trivial)
          simp only [Act.put]
          go_wp2_with fail
          exact snInv.mk (.bool R.ok) u46 u47 u48 u49 u50 u51 u52 u53 u54 u55 u56 u57 u58 (.bool R.ok) u60 y0 y1 y2 y3 yo (by first | kernel_rfl | rfl) (Gd.keep (i := 17) f0 (by decide)) (Gd.keep (i := 17) f1 (by decide)) (Gd.keep (i := 17) f2 (by decide)) (Gd.keep (i := 17) f3 (by decide)) (Gd.keep (i := 17) f4 (by decide)) (Gd.keep (i := 17) f5 (by decide)) (Gd.keep (i := 17) f6 (by decide)) (Gd.keep (i := 17) f7 (by decide)) (Gd.keep (i := 17) f8 (by decide)) (Gd.keep (i := 17) f9 (by decide)) (Gd.keep (i := 17) f10 (by decide)) (Gd.keep (i := 17) f11 (by decide)) (Gd.keep (i := 17) f12 (by decide)) (Gd.new rfl) (Gd.keep (i := 17) f15 (by decide)) (Gd.new (by first | rfl | simp)) hbel (hs14.keep (i := 17) (by decide)) (gs14.keep (i := 17) (by decide)) hres (hr16.keep (i := 17) (by decide)) (gr16.keep (i := 17) (by decide))
    · have hkX : k = X.length := by omega
      subst hkX
      have hv : Q = ⟨(snIt A0 A1 A2 A3 T X V X.length).s0, (snIt A0 A1 A2 A3 T X V X.length).s1, (snIt A0 A1 A2 A3 T X V X.length).s2, (snIt A0 A1 A2 A3 T X V X.length).s3, ls, true⟩ := by rw [← HQ2.out, if_pos HOk.out, ← HIl.out.exact (snOuts_fin HOk.out)]
      have HV := Lib.hid hv
      have hrow := HRow.out
      rw [fill_all ls X.length HLk.out] at hrow
      have HRw := Lib.hid hrow
      clear hv hrow
      have hc0 := HS.out.c 0 rfl
      have hc1 := HS.out.c 1 rfl
      have hc2 := HS.out.c 2 rfl
      have hc3 := HS.out.c 3 rfl
      have hr0 := HR.out.c 0 rfl
      have hr1 := HR.out.c 1 rfl
      have hr2 := HR.out.c 2 rfl
      have hr3 := HR.out.c 3 rfl
      have hg0 := HR.out.f 0 (by simp)
      have hg1 := HR.out.f 1 (by simp)
      have hg2 := HR.out.f 2 (by simp)
      have hg3 := HR.out.f 3 (by simp)
      go_wp2_with fail
      rw [HV.out]
      exact bodyPost_ret (v := .tuple #[.agg #[.float .f32 c0, .float .f32 c1, .float .f32 c2, .float .f32 c3], .slice (some ⟨gb, 0, none⟩) X.length X.length, .bool true]) (by first | (simp [results, Try.results25, go_sem, hr0, hr1, hr2, hr3, hg0, hg1, hg2, hg3, hc0, hc1, hc2, hc3]; done) | (simp (maxDischargeDepth := 12) [results, Try.results25, go_sem, hr0, hr1, hr2, hr3, hg0, hg1, hg2, hg3, hc0, hc1, hc2, hc3]; done) | (simp (maxDischargeDepth := 12) [results, Try.results25, go_sem, hr0, hr1, hr2, hr3, hg0, hg1, hg2, hg3, hc0, hc1, hc2, hc3]; rfl)) rfl (RunB.yes (lo := w.heap.size + 2) (HRw.out.far4 (b := w.heap.size + 1) (by intro h9; simp [Value.ownBlock] at h9; omega) _ _ _ _ _ _ _ _) (by omega) (by rw [HLk.out]; exact hl1) HC.out (by repeat (first | with_reducible exact HBk.out | with_reducible refine beld ?_ _ | (with_reducible refine Below.alloc ?_ ?_ _; rotate_left; exact (by first | (simp; done) | (simp; omega) | omega)) | (with_reducible refine Below.setCell ?_ ?_ _; rotate_left; exact (by first | (simp; done) | (simp; omega) | omega)))))

end Go.Proofs.Ytfdcfalkidcdnab
