/- Soils behind rain: the program. -/
import Derived.Test.YtdoecpghlfjhiacRSo0
namespace Go.Proofs.Ytdoecpghlfjhiac
open Go.RowKit
set_option linter.unusedVariables false
set_option linter.unusedSimpArgs false
set_option maxRecDepth 100000
attribute [local irreducible] wpV wpList Code.wp

theorem RowO.far5 {w : World} {lo b : Nat} {v : Value} {zs : List Nat} (h : RowO w lo v zs) (hb : v.ownBlock ≠ some b) (i j k l m : Nat) (p q r s t : Value) : RowO (((((w.setCell ⟨b, i, none⟩ p).setCell ⟨b, j, none⟩ q).setCell ⟨b, k, none⟩ r).setCell ⟨b, l, none⟩ s).setCell ⟨b, m, none⟩ t) lo v zs :=
  ((((h.setFar hb p).setFar hb q).setFar hb r).setFar hb s).setFar hb t
theorem so_step {A0 A1 A2 A3 A4 T : Option Nat} {a0 a1 a2 a3 a4 t x : Nat} (h0 : Is32 A0 a0) (h1 : Is32 A1 a1) (h2 : Is32 A2 a2) (h3 : Is32 A3 a3) (h4 : Is32 A4 a4) (hx : Is32 (some x) x) (ht : Is32 T t) (h : (stepO A0 A1 A2 A3 A4 (some x) T).ok = true) :
    soilO (stepO A0 A1 A2 A3 A4 (some x) T).s0 (stepO A0 A1 A2 A3 A4 (some x) T).s1 (stepO A0 A1 A2 A3 A4 (some x) T).s2 (stepO A0 A1 A2 A3 A4 (some x) T).s3 (stepO A0 A1 A2 A3 A4 (some x) T).s4 = true ∧ fin32o (stepO A0 A1 A2 A3 A4 (some x) T).off = true ∧ fin32o (stepO A0 A1 A2 A3 A4 (some x) T).goes = true := by
  unfold stepO at h ⊢
  split at h
  · rename_i hc
    rw [if_pos hc]
    simp only [Bool.and_eq_true] at hc
    exact tick_fin h0 h1 h2 h3 h4 hx ht hc.1.1.1 hc.1.1.2 hc.1.2 hc.2
  · cases h

set_option maxHeartbeats 6000000 in
theorem runSoil_i {A0 A1 A2 A3 A4 T : Option Nat} {a0 a1 a2 a3 a4 t : Nat} (a1_ : Option Addr) (cap1 : Nat) (X : List Nat) (w : World) (ha0 : Is32 A0 a0) (ha1 : Is32 A1 a1) (ha2 : Is32 A2 a2) (ha3 : Is32 A3 a3) (ha4 : Is32 A4 a4) (h1 : RowF .f32 w a1_ X) (hl1 : X.length ≤ 1048576) (hz1 : ∀ z ∈ X, z < 4294967296) (ht : Is32 T t) : Calls Try.prog 55 #[.agg #[.float .f32 a0, .float .f32 a1, .float .f32 a2, .float .f32 a3, .float .f32 a4], .slice a1_ X.length cap1, .float .f32 t] w (RunSB (runSoilO A0 A1 A2 A3 A4 T X) w) := by
  obtain ⟨Q, hQ⟩ : ∃ Q, runSoilO A0 A1 A2 A3 A4 T X = Q := ⟨_, rfl⟩
  rw [hQ]
  have HQ := Lib.hid hQ
  have H1 := Lib.hid h1
  have HZ1 := Lib.hid hz1
  clear hQ h1 hz1
  go_enter Try.func55, Try.ntmps55
  go_wp2_with fail
  refine (validSoil_i _ ha0 ha1 ha2 ha3 ha4).mono ?_
  rintro e w1 ⟨bb, hbb, rfl, hb⟩
  have Hs := Lib.hid hbb
  clear hbb
  have hb1 : Below w.heap.size w w1 := Below.trans (by repeat (first | with_reducible exact (bel2 _ _ _ ) | with_reducible refine beld ?_ _ | (with_reducible refine Below.alloc ?_ ?_ _; rotate_left; exact (by first | (simp; done) | (simp; omega) | omega)) | (with_reducible refine Below.setCell ?_ ?_ _; rotate_left; exact (by first | (simp; done) | (simp; omega) | omega)))) (hb.mono (by first | (simp; done) | (simp; omega) | omega))
  have hs1 : w.heap.size + 2 ≤ w1.heap.size := (by have := hb.size; (try simp at this); omega)
  have bws : Bw w1 (w.heap.size) [.float .f32 a0, .float .f32 a1, .float .f32 a2, .float .f32 a3, .float .f32 a4] := (by first | exact Bw.below (Bw.of5 (by first | (simp; done) | (simp; omega) | omega) (by first | (simp [go_sem]; done) | (simp (maxDischargeDepth := 8) [go_sem]; done) | (simp [go_sem]; rfl)) (by first | (simp [go_sem]; done) | (simp (maxDischargeDepth := 8) [go_sem]; done) | (simp [go_sem]; rfl)) (by first | (simp [go_sem]; done) | (simp (maxDischargeDepth := 8) [go_sem]; done) | (simp [go_sem]; rfl)) (by first | (simp [go_sem]; done) | (simp (maxDischargeDepth := 8) [go_sem]; done) | (simp [go_sem]; rfl)) (by first | (simp [go_sem]; done) | (simp (maxDischargeDepth := 8) [go_sem]; done) | (simp [go_sem]; rfl)) (by first | (simp [go_sem]; done) | (simp (maxDischargeDepth := 8) [go_sem]; done) | (simp [go_sem]; rfl)) (by first | (simp [go_sem]; done) | (simp (maxDischargeDepth := 8) [go_sem]; done) | (simp [go_sem]; rfl)) (by first | (simp [go_sem]; done) | (simp (maxDischargeDepth := 8) [go_sem]; done) | (simp [go_sem]; rfl)) (by first | (simp [go_sem]; done) | (simp (maxDischargeDepth := 8) [go_sem]; done) | (simp [go_sem]; rfl)) (by first | (simp [go_sem]; done) | (simp (maxDischargeDepth := 8) [go_sem]; done) | (simp [go_sem]; rfl))) hb (by first | (simp; done) | (simp; omega) | omega))
  have bwr : Bw w1 (w.heap.size + 1) [.float .f32 0, .float .f32 0, .float .f32 0, .float .f32 0, .float .f32 0] := (by first | exact Bw.below (Bw.of5 (by first | (simp; done) | (simp; omega) | omega) (by first | (simp [go_sem]; done) | (simp (maxDischargeDepth := 8) [go_sem]; done) | (simp [go_sem]; rfl)) (by first | (simp [go_sem]; done) | (simp (maxDischargeDepth := 8) [go_sem]; done) | (simp [go_sem]; rfl)) (by first | (simp [go_sem]; done) | (simp (maxDischargeDepth := 8) [go_sem]; done) | (simp [go_sem]; rfl)) (by first | (simp [go_sem]; done) | (simp (maxDischargeDepth := 8) [go_sem]; done) | (simp [go_sem]; rfl)) (by first | (simp [go_sem]; done) | (simp (maxDischargeDepth := 8) [go_sem]; done) | (simp [go_sem]; rfl)) (by first | (simp [go_sem]; done) | (simp (maxDischargeDepth := 8) [go_sem]; done) | (simp [go_sem]; rfl)) (by first | (simp [go_sem]; done) | (simp (maxDischargeDepth := 8) [go_sem]; done) | (simp [go_sem]; rfl)) (by first | (simp [go_sem]; done) | (simp (maxDischargeDepth := 8) [go_sem]; done) | (simp [go_sem]; rfl)) (by first | (simp [go_sem]; done) | (simp (maxDischargeDepth := 8) [go_sem]; done) | (simp [go_sem]; rfl)) (by first | (simp [go_sem]; done) | (simp (maxDischargeDepth := 8) [go_sem]; done) | (simp [go_sem]; rfl))) hb (by first | (simp; done) | (simp; omega) | omega))
  have cs0 := bws.c 0 rfl
  have fs0 := bws.f 0 (by simp)
  have cs1 := bws.c 1 rfl
  have fs1 := bws.f 1 (by simp)
  have cs2 := bws.c 2 rfl
  have fs2 := bws.f 2 (by simp)
  have cs3 := bws.c 3 rfl
  have fs3 := bws.f 3 (by simp)
  have cs4 := bws.c 4 rfl
  have fs4 := bws.f 4 (by simp)
  have BWs1 := Lib.hid bws
  clear bws
  have cr0 := bwr.c 0 rfl
  have fr0 := bwr.f 0 (by simp)
  have cr1 := bwr.c 1 rfl
  have fr1 := bwr.f 1 (by simp)
  have cr2 := bwr.c 2 rfl
  have fr2 := bwr.f 2 (by simp)
  have cr3 := bwr.c 3 rfl
  have fr3 := bwr.f 3 (by simp)
  have cr4 := bwr.c 4 rfl
  have fr4 := bwr.f 4 (by simp)
  have BWr1 := Lib.hid bwr
  clear bwr
  have Hb1 := Lib.hid hb1
  clear hb hb1
  cases bb
  · have hv : Q = failRunS := by rw [← HQ.out]; unfold runSoilO; rw [Hs.out]; simp only [Bool.false_and, Bool.and_false]; rfl
    have HV := Lib.hid hv
    clear hv
    go_wp2_with fail
    rw [HV.out]
    exact bodyPost_ret (v := .tuple #[.agg #[.float .f32 0, .float .f32 0, .float .f32 0, .float .f32 0, .float .f32 0], .slice none 0 0, .slice none 0 0, .bool false]) (by first | (simp [results, Try.results55, go_sem, cs0, fs0, cs1, fs1, cs2, fs2, cs3, fs3, cs4, fs4, cr0, fr0, cr1, fr1, cr2, fr2, cr3, fr3, cr4, fr4]; done) | (simp (maxDischargeDepth := 12) [results, Try.results55, go_sem, cs0, fs0, cs1, fs1, cs2, fs2, cs3, fs3, cs4, fs4, cr0, fr0, cr1, fr1, cr2, fr2, cr3, fr3, cr4, fr4]; done) | (simp (maxDischargeDepth := 12) [results, Try.results55, go_sem, cs0, fs0, cs1, fs1, cs2, fs2, cs3, fs3, cs4, fs4, cr0, fr0, cr1, fr1, cr2, fr2, cr3, fr3, cr4, fr4]; rfl)) rfl (RunSB.no (by repeat (first | with_reducible exact Hb1.out | with_reducible refine beld ?_ _ | (with_reducible refine Below.alloc ?_ ?_ _; rotate_left; exact (by first | (simp; done) | (simp; omega) | omega)) | (with_reducible refine Below.setCell ?_ ?_ _; rotate_left; exact (by first | (simp; done) | (simp; omega) | omega)))))
  go_wp2_with fail
  refine (isRain_i a1_ cap1 X _ (H1.out.below Hb1.out (Nat.le_refl _)) hl1 HZ1.out).mono ?_
  rintro e w2 ⟨bb, hbb, rfl, hb⟩
  have Hx := Lib.hid hbb
  clear hbb
  have hb2 : Below w.heap.size w w2 := Below.trans (by repeat (first | with_reducible exact Hb1.out | with_reducible refine beld ?_ _ | (with_reducible refine Below.alloc ?_ ?_ _; rotate_left; exact (by first | (simp; done) | (simp; omega) | omega)) | (with_reducible refine Below.setCell ?_ ?_ _; rotate_left; exact (by first | (simp; done) | (simp; omega) | omega)))) (hb.mono (by first | (simp; done) | (simp; omega) | omega))
  have hs2 : w.heap.size + 2 ≤ w2.heap.size := (by have := hb.size; (try simp at this); omega)
  have bws : Bw w2 (w.heap.size) [.float .f32 a0, .float .f32 a1, .float .f32 a2, .float .f32 a3, .float .f32 a4] := (by first | with_reducible exact Bw.below BWs1.out hb (by first | (simp; done) | (simp; omega) | omega) | with_reducible exact Bw.below (Bw.drewN BWs1.out _) hb (by first | (simp; done) | (simp; omega) | omega) | with_reducible exact Bw.below (Bw.alloc BWs1.out _) hb (by first | (simp; done) | (simp; omega) | omega) | with_reducible exact Bw.below (Bw.alloc (Bw.drewN BWs1.out _) _) hb (by first | (simp; done) | (simp; omega) | omega) | exact Bw.below (Bw.of5 (by first | (simp; done) | (simp; omega) | omega) (by first | (simp [go_sem, cs0, fs0, cs1, fs1, cs2, fs2, cs3, fs3, cs4, fs4, cr0, fr0, cr1, fr1, cr2, fr2, cr3, fr3, cr4, fr4]; done) | (simp (maxDischargeDepth := 8) [go_sem, cs0, fs0, cs1, fs1, cs2, fs2, cs3, fs3, cs4, fs4, cr0, fr0, cr1, fr1, cr2, fr2, cr3, fr3, cr4, fr4]; done) | (simp [go_sem, cs0, fs0, cs1, fs1, cs2, fs2, cs3, fs3, cs4, fs4, cr0, fr0, cr1, fr1, cr2, fr2, cr3, fr3, cr4, fr4]; rfl)) (by first | (simp [go_sem, cs0, fs0, cs1, fs1, cs2, fs2, cs3, fs3, cs4, fs4, cr0, fr0, cr1, fr1, cr2, fr2, cr3, fr3, cr4, fr4]; done) | (simp (maxDischargeDepth := 8) [go_sem, cs0, fs0, cs1, fs1, cs2, fs2, cs3, fs3, cs4, fs4, cr0, fr0, cr1, fr1, cr2, fr2, cr3, fr3, cr4, fr4]; done) | (simp [go_sem, cs0, fs0, cs1, fs1, cs2, fs2, cs3, fs3, cs4, fs4, cr0, fr0, cr1, fr1, cr2, fr2, cr3, fr3, cr4, fr4]; rfl)) (by first | (simp [go_sem, cs0, fs0, cs1, fs1, cs2, fs2, cs3, fs3, cs4, fs4, cr0, fr0, cr1, fr1, cr2, fr2, cr3, fr3, cr4, fr4]; done) | (simp (maxDischargeDepth := 8) [go_sem, cs0, fs0, cs1, fs1, cs2, fs2, cs3, fs3, cs4, fs4, cr0, fr0, cr1, fr1, cr2, fr2, cr3, fr3, cr4, fr4]; done) | (simp [go_sem, cs0, fs0, cs1, fs1, cs2, fs2, cs3, fs3, cs4, fs4, cr0, fr0, cr1, fr1, cr2, fr2, cr3, fr3, cr4, fr4]; rfl)) (by first | (simp [go_sem, cs0, fs0, cs1, fs1, cs2, fs2, cs3, fs3, cs4, fs4, cr0, fr0, cr1, fr1, cr2, fr2, cr3, fr3, cr4, fr4]; done) | (simp (maxDischargeDepth := 8) [go_sem, cs0, fs0, cs1, fs1, cs2, fs2, cs3, fs3, cs4, fs4, cr0, fr0, cr1, fr1, cr2, fr2, cr3, fr3, cr4, fr4]; done) | (simp [go_sem, cs0, fs0, cs1, fs1, cs2, fs2, cs3, fs3, cs4, fs4, cr0, fr0, cr1, fr1, cr2, fr2, cr3, fr3, cr4, fr4]; rfl)) (by first | (simp [go_sem, cs0, fs0, cs1, fs1, cs2, fs2, cs3, fs3, cs4, fs4, cr0, fr0, cr1, fr1, cr2, fr2, cr3, fr3, cr4, fr4]; done) | (simp (maxDischargeDepth := 8) [go_sem, cs0, fs0, cs1, fs1, cs2, fs2, cs3, fs3, cs4, fs4, cr0, fr0, cr1, fr1, cr2, fr2, cr3, fr3, cr4, fr4]; done) | (simp [go_sem, cs0, fs0, cs1, fs1, cs2, fs2, cs3, fs3, cs4, fs4, cr0, fr0, cr1, fr1, cr2, fr2, cr3, fr3, cr4, fr4]; rfl)) (by first | (simp [go_sem, cs0, fs0, cs1, fs1, cs2, fs2, cs3, fs3, cs4, fs4, cr0, fr0, cr1, fr1, cr2, fr2, cr3, fr3, cr4, fr4]; done) | (simp (maxDischargeDepth := 8) [go_sem, cs0, fs0, cs1, fs1, cs2, fs2, cs3, fs3, cs4, fs4, cr0, fr0, cr1, fr1, cr2, fr2, cr3, fr3, cr4, fr4]; done) | (simp [go_sem, cs0, fs0, cs1, fs1, cs2, fs2, cs3, fs3, cs4, fs4, cr0, fr0, cr1, fr1, cr2, fr2, cr3, fr3, cr4, fr4]; rfl)) (by first | (simp [go_sem, cs0, fs0, cs1, fs1, cs2, fs2, cs3, fs3, cs4, fs4, cr0, fr0, cr1, fr1, cr2, fr2, cr3, fr3, cr4, fr4]; done) | (simp (maxDischargeDepth := 8) [go_sem, cs0, fs0, cs1, fs1, cs2, fs2, cs3, fs3, cs4, fs4, cr0, fr0, cr1, fr1, cr2, fr2, cr3, fr3, cr4, fr4]; done) | (simp [go_sem, cs0, fs0, cs1, fs1, cs2, fs2, cs3, fs3, cs4, fs4, cr0, fr0, cr1, fr1, cr2, fr2, cr3, fr3, cr4, fr4]; rfl)) (by first | (simp [go_sem, cs0, fs0, cs1, fs1, cs2, fs2, cs3, fs3, cs4, fs4, cr0, fr0, cr1, fr1, cr2, fr2, cr3, fr3, cr4, fr4]; done) | (simp (maxDischargeDepth := 8) [go_sem, cs0, fs0, cs1, fs1, cs2, fs2, cs3, fs3, cs4, fs4, cr0, fr0, cr1, fr1, cr2, fr2, cr3, fr3, cr4, fr4]; done) | (simp [go_sem, cs0, fs0, cs1, fs1, cs2, fs2, cs3, fs3, cs4, fs4, cr0, fr0, cr1, fr1, cr2, fr2, cr3, fr3, cr4, fr4]; rfl)) (by first | (simp [go_sem, cs0, fs0, cs1, fs1, cs2, fs2, cs3, fs3, cs4, fs4, cr0, fr0, cr1, fr1, cr2, fr2, cr3, fr3, cr4, fr4]; done) | (simp (maxDischargeDepth := 8) [go_sem, cs0, fs0, cs1, fs1, cs2, fs2, cs3, fs3, cs4, fs4, cr0, fr0, cr1, fr1, cr2, fr2, cr3, fr3, cr4, fr4]; done) | (simp [go_sem, cs0, fs0, cs1, fs1, cs2, fs2, cs3, fs3, cs4, fs4, cr0, fr0, cr1, fr1, cr2, fr2, cr3, fr3, cr4, fr4]; rfl)) (by first | (simp [go_sem, cs0, fs0, cs1, fs1, cs2, fs2, cs3, fs3, cs4, fs4, cr0, fr0, cr1, fr1, cr2, fr2, cr3, fr3, cr4, fr4]; done) | (simp (maxDischargeDepth := 8) [go_sem, cs0, fs0, cs1, fs1, cs2, fs2, cs3, fs3, cs4, fs4, cr0, fr0, cr1, fr1, cr2, fr2, cr3, fr3, cr4, fr4]; done) | (simp [go_sem, cs0, fs0, cs1, fs1, cs2, fs2, cs3, fs3, cs4, fs4, cr0, fr0, cr1, fr1, cr2, fr2, cr3, fr3, cr4, fr4]; rfl))) hb (by first | (simp; done) | (simp; omega) | omega))
  have bwr : Bw w2 (w.heap.size + 1) [.float .f32 0, .float .f32 0, .float .f32 0, .float .f32 0, .float .f32 0] := (by first | with_reducible exact Bw.below BWr1.out hb (by first | (simp; done) | (simp; omega) | omega) | with_reducible exact Bw.below (Bw.drewN BWr1.out _) hb (by first | (simp; done) | (simp; omega) | omega) | with_reducible exact Bw.below (Bw.alloc BWr1.out _) hb (by first | (simp; done) | (simp; omega) | omega) | with_reducible exact Bw.below (Bw.alloc (Bw.drewN BWr1.out _) _) hb (by first | (simp; done) | (simp; omega) | omega) | exact Bw.below (Bw.of5 (by first | (simp; done) | (simp; omega) | omega) (by first | (simp [go_sem, cs0, fs0, cs1, fs1, cs2, fs2, cs3, fs3, cs4, fs4, cr0, fr0, cr1, fr1, cr2, fr2, cr3, fr3, cr4, fr4]; done) | (simp (maxDischargeDepth := 8) [go_sem, cs0, fs0, cs1, fs1, cs2, fs2, cs3, fs3, cs4, fs4, cr0, fr0, cr1, fr1, cr2, fr2, cr3, fr3, cr4, fr4]; done) | (simp [go_sem, cs0, fs0, cs1, fs1, cs2, fs2, cs3, fs3, cs4, fs4, cr0, fr0, cr1, fr1, cr2, fr2, cr3, fr3, cr4, fr4]; rfl)) (by first | (simp [go_sem, cs0, fs0, cs1, fs1, cs2, fs2, cs3, fs3, cs4, fs4, cr0, fr0, cr1, fr1, cr2, fr2, cr3, fr3, cr4, fr4]; done) | (simp (maxDischargeDepth := 8) [go_sem, cs0, fs0, cs1, fs1, cs2, fs2, cs3, fs3, cs4, fs4, cr0, fr0, cr1, fr1, cr2, fr2, cr3, fr3, cr4, fr4]; done) | (simp [go_sem, cs0, fs0, cs1, fs1, cs2, fs2, cs3, fs3, cs4, fs4, cr0, fr0, cr1, fr1, cr2, fr2, cr3, fr3, cr4, fr4]; rfl)) (by first | (simp [go_sem, cs0, fs0, cs1, fs1, cs2, fs2, cs3, fs3, cs4, fs4, cr0, fr0, cr1, fr1, cr2, fr2, cr3, fr3, cr4, fr4]; done) | (simp (maxDischargeDepth := 8) [go_sem, cs0, fs0, cs1, fs1, cs2, fs2, cs3, fs3, cs4, fs4, cr0, fr0, cr1, fr1, cr2, fr2, cr3, fr3, cr4, fr4]; done) | (simp [go_sem, cs0, fs0, cs1, fs1, cs2, fs2, cs3, fs3, cs4, fs4, cr0, fr0, cr1, fr1, cr2, fr2, cr3, fr3, cr4, fr4]; rfl)) (by first | (simp [go_sem, cs0, fs0, cs1, fs1, cs2, fs2, cs3, fs3, cs4, fs4, cr0, fr0, cr1, fr1, cr2, fr2, cr3, fr3, cr4, fr4]; done) | (simp (maxDischargeDepth := 8) [go_sem, cs0, fs0, cs1, fs1, cs2, fs2, cs3, fs3, cs4, fs4, cr0, fr0, cr1, fr1, cr2, fr2, cr3, fr3, cr4, fr4]; done) | (simp [go_sem, cs0, fs0, cs1, fs1, cs2, fs2, cs3, fs3, cs4, fs4, cr0, fr0, cr1, fr1, cr2, fr2, cr3, fr3, cr4, fr4]; rfl)) (by first | (simp [go_sem, cs0, fs0, cs1, fs1, cs2, fs2, cs3, fs3, cs4, fs4, cr0, fr0, cr1, fr1, cr2, fr2, cr3, fr3, cr4, fr4]; done) | (simp (maxDischargeDepth := 8) [go_sem, cs0, fs0, cs1, fs1, cs2, fs2, cs3, fs3, cs4, fs4, cr0, fr0, cr1, fr1, cr2, fr2, cr3, fr3, cr4, fr4]; done) | (simp [go_sem, cs0, fs0, cs1, fs1, cs2, fs2, cs3, fs3, cs4, fs4, cr0, fr0, cr1, fr1, cr2, fr2, cr3, fr3, cr4, fr4]; rfl)) (by first | (simp [go_sem, cs0, fs0, cs1, fs1, cs2, fs2, cs3, fs3, cs4, fs4, cr0, fr0, cr1, fr1, cr2, fr2, cr3, fr3, cr4, fr4]; done) | (simp (maxDischargeDepth := 8) [go_sem, cs0, fs0, cs1, fs1, cs2, fs2, cs3, fs3, cs4, fs4, cr0, fr0, cr1, fr1, cr2, fr2, cr3, fr3, cr4, fr4]; done) | (simp [go_sem, cs0, fs0, cs1, fs1, cs2, fs2, cs3, fs3, cs4, fs4, cr0, fr0, cr1, fr1, cr2, fr2, cr3, fr3, cr4, fr4]; rfl)) (by first | (simp [go_sem, cs0, fs0, cs1, fs1, cs2, fs2, cs3, fs3, cs4, fs4, cr0, fr0, cr1, fr1, cr2, fr2, cr3, fr3, cr4, fr4]; done) | (simp (maxDischargeDepth := 8) [go_sem, cs0, fs0, cs1, fs1, cs2, fs2, cs3, fs3, cs4, fs4, cr0, fr0, cr1, fr1, cr2, fr2, cr3, fr3, cr4, fr4]; done) | (simp [go_sem, cs0, fs0, cs1, fs1, cs2, fs2, cs3, fs3, cs4, fs4, cr0, fr0, cr1, fr1, cr2, fr2, cr3, fr3, cr4, fr4]; rfl)) (by first | (simp [go_sem, cs0, fs0, cs1, fs1, cs2, fs2, cs3, fs3, cs4, fs4, cr0, fr0, cr1, fr1, cr2, fr2, cr3, fr3, cr4, fr4]; done) | (simp (maxDischargeDepth := 8) [go_sem, cs0, fs0, cs1, fs1, cs2, fs2, cs3, fs3, cs4, fs4, cr0, fr0, cr1, fr1, cr2, fr2, cr3, fr3, cr4, fr4]; done) | (simp [go_sem, cs0, fs0, cs1, fs1, cs2, fs2, cs3, fs3, cs4, fs4, cr0, fr0, cr1, fr1, cr2, fr2, cr3, fr3, cr4, fr4]; rfl)) (by first | (simp [go_sem, cs0, fs0, cs1, fs1, cs2, fs2, cs3, fs3, cs4, fs4, cr0, fr0, cr1, fr1, cr2, fr2, cr3, fr3, cr4, fr4]; done) | (simp (maxDischargeDepth := 8) [go_sem, cs0, fs0, cs1, fs1, cs2, fs2, cs3, fs3, cs4, fs4, cr0, fr0, cr1, fr1, cr2, fr2, cr3, fr3, cr4, fr4]; done) | (simp [go_sem, cs0, fs0, cs1, fs1, cs2, fs2, cs3, fs3, cs4, fs4, cr0, fr0, cr1, fr1, cr2, fr2, cr3, fr3, cr4, fr4]; rfl)) (by first | (simp [go_sem, cs0, fs0, cs1, fs1, cs2, fs2, cs3, fs3, cs4, fs4, cr0, fr0, cr1, fr1, cr2, fr2, cr3, fr3, cr4, fr4]; done) | (simp (maxDischargeDepth := 8) [go_sem, cs0, fs0, cs1, fs1, cs2, fs2, cs3, fs3, cs4, fs4, cr0, fr0, cr1, fr1, cr2, fr2, cr3, fr3, cr4, fr4]; done) | (simp [go_sem, cs0, fs0, cs1, fs1, cs2, fs2, cs3, fs3, cs4, fs4, cr0, fr0, cr1, fr1, cr2, fr2, cr3, fr3, cr4, fr4]; rfl))) hb (by first | (simp; done) | (simp; omega) | omega))
  clear cs0 fs0 cs1 fs1 cs2 fs2 cs3 fs3 cs4 fs4 cr0 fr0 cr1 fr1 cr2 fr2 cr3 fr3 cr4 fr4 BWs1 BWr1
  have cs0 := bws.c 0 rfl
  have fs0 := bws.f 0 (by simp)
  have cs1 := bws.c 1 rfl
  have fs1 := bws.f 1 (by simp)
  have cs2 := bws.c 2 rfl
  have fs2 := bws.f 2 (by simp)
  have cs3 := bws.c 3 rfl
  have fs3 := bws.f 3 (by simp)
  have cs4 := bws.c 4 rfl
  have fs4 := bws.f 4 (by simp)
  have BWs2 := Lib.hid bws
  clear bws
  have cr0 := bwr.c 0 rfl
  have fr0 := bwr.f 0 (by simp)
  have cr1 := bwr.c 1 rfl
  have fr1 := bwr.f 1 (by simp)
  have cr2 := bwr.c 2 rfl
  have fr2 := bwr.f 2 (by simp)
  have cr3 := bwr.c 3 rfl
  have fr3 := bwr.f 3 (by simp)
  have cr4 := bwr.c 4 rfl
  have fr4 := bwr.f 4 (by simp)
  have BWr2 := Lib.hid bwr
  clear bwr
  have Hb2 := Lib.hid hb2
  clear hb hb2
  cases bb
  · have hv : Q = failRunS := by rw [← HQ.out]; unfold runSoilO; rw [Hx.out]; simp only [Bool.false_and, Bool.and_false]; rfl
    have HV := Lib.hid hv
    clear hv
    go_wp2_with fail
    rw [HV.out]
    exact bodyPost_ret (v := .tuple #[.agg #[.float .f32 0, .float .f32 0, .float .f32 0, .float .f32 0, .float .f32 0], .slice none 0 0, .slice none 0 0, .bool false]) (by first | (simp [results, Try.results55, go_sem, cs0, fs0, cs1, fs1, cs2, fs2, cs3, fs3, cs4, fs4, cr0, fr0, cr1, fr1, cr2, fr2, cr3, fr3, cr4, fr4]; done) | (simp (maxDischargeDepth := 12) [results, Try.results55, go_sem, cs0, fs0, cs1, fs1, cs2, fs2, cs3, fs3, cs4, fs4, cr0, fr0, cr1, fr1, cr2, fr2, cr3, fr3, cr4, fr4]; done) | (simp (maxDischargeDepth := 12) [results, Try.results55, go_sem, cs0, fs0, cs1, fs1, cs2, fs2, cs3, fs3, cs4, fs4, cr0, fr0, cr1, fr1, cr2, fr2, cr3, fr3, cr4, fr4]; rfl)) rfl (RunSB.no (by repeat (first | with_reducible exact Hb2.out | with_reducible refine beld ?_ _ | (with_reducible refine Below.alloc ?_ ?_ _; rotate_left; exact (by first | (simp; done) | (simp; omega) | omega)) | (with_reducible refine Below.setCell ?_ ?_ _; rotate_left; exact (by first | (simp; done) | (simp; omega) | omega)))))
  go_wp2_with fail
  refine (isPositive_o _ ht).mono ?_
  rintro e w' ⟨bb, hbb, rfl, rfl⟩
  have Hp := Lib.hid hbb
  clear hbb
  cases bb
  · have hv : Q = failRunS := by rw [← HQ.out]; unfold runSoilO; rw [Hp.out]; simp only [Bool.false_and, Bool.and_false]; rfl
    have HV := Lib.hid hv
    clear hv
    go_wp2_with fail
    rw [HV.out]
    exact bodyPost_ret (v := .tuple #[.agg #[.float .f32 0, .float .f32 0, .float .f32 0, .float .f32 0, .float .f32 0], .slice none 0 0, .slice none 0 0, .bool false]) (by first | (simp [results, Try.results55, go_sem, cs0, fs0, cs1, fs1, cs2, fs2, cs3, fs3, cs4, fs4, cr0, fr0, cr1, fr1, cr2, fr2, cr3, fr3, cr4, fr4]; done) | (simp (maxDischargeDepth := 12) [results, Try.results55, go_sem, cs0, fs0, cs1, fs1, cs2, fs2, cs3, fs3, cs4, fs4, cr0, fr0, cr1, fr1, cr2, fr2, cr3, fr3, cr4, fr4]; done) | (simp (maxDischargeDepth := 12) [results, Try.results55, go_sem, cs0, fs0, cs1, fs1, cs2, fs2, cs3, fs3, cs4, fs4, cr0, fr0, cr1, fr1, cr2, fr2, cr3, fr3, cr4, fr4]; rfl)) rfl (RunSB.no (by repeat (first | with_reducible exact Hb2.out | with_reducible refine beld ?_ _ | (with_reducible refine Below.alloc ?_ ?_ _; rotate_left; exact (by first | (simp; done) | (simp; omega) | omega)) | (with_reducible refine Below.setCell ?_ ?_ _; rotate_left; exact (by first | (simp; done) | (simp; omega) | omega)))))
  have hq := HQ.out
  unfold runSoilO at hq
  rw [Hs.out, Hx.out, Hp.out] at hq
  have HQ2 : Hid ((if soOk A0 A1 A2 A3 A4 T X X.length then (⟨(soIt A0 A1 A2 A3 A4 T X X.length).s0, (soIt A0 A1 A2 A3 A4 T X X.length).s1, (soIt A0 A1 A2 A3 A4 T X X.length).s2, (soIt A0 A1 A2 A3 A4 T X X.length).s3, (soIt A0 A1 A2 A3 A4 T X X.length).s4, (soOffs A0 A1 A2 A3 A4 T X X.length).map (fun Y => Y.getD 0), (soGoes A0 A1 A2 A3 A4 T X X.length).map (fun Y => Y.getD 0), true⟩ : RunS) else failRunS) = Q) := Lib.hid hq
  clear hq
  clear cs0 fs0 cr0 fr0 cs1 fs1 cr1 fr1 cs2 fs2 cr2 fr2 cs3 fs3 cr3 fr3 cs4 fs4 cr4 fr4
  go_wp2_with fail
  refine wp_region_inv (id := 3) (mkInv _ w a1_ X.length cap1 a0 a1 a2 a3 a4) (by kernel_rfl) (by kernel_rfl) (mkInv.start _ (beld Hb2.out 1) BWs2.out BWr2.out) ?hend3 ?hsteps3
  rotate_left
  case hsteps3 =>
    refine .cons 1 rfl ?_ ?_
    · intro d a w9 hsz hcl hinv hd hdep
      obtain ⟨u10, u11, u29, u30, u31, u32, u33, u34, g, g2, rfl, f0, f1, f2, f3, f4, f5, f6, f7, hbel, hs, hres, hr2, hr5, hne⟩ := hinv
      simp only [Act.put]
      go_wp2_with fail
      exact mkInv.mk u10 u11 (.slice a1_ X.length cap1) u30 u31 u32 u33 u34 g g2 (by first | kernel_rfl | rfl) (Gd.new (by first | rfl | simp)) (Gd.keep (i := 0) f1 (by decide)) (Gd.keep (i := 0) f2 (by decide)) (Gd.keep (i := 0) f3 (by decide)) (Gd.keep (i := 0) f4 (by decide)) (Gd.keep (i := 0) f5 (by decide)) (Gd.keep (i := 0) f6 (by decide)) (Gd.keep (i := 0) f7 (by decide)) hbel hs hres (hr2.keep (i := 0) (by decide)) (hr5.keep (i := 0) (by decide)) (Gd.keep (i := 0) (hne.imp fun h => Gd.keep (i := 0) h (by decide)) (by decide))
    refine .cons 2 rfl ?_ ?_
    · intro d a w9 hsz hcl hinv hd hdep
      obtain ⟨u10, u11, u29, u30, u31, u32, u33, u34, g, g2, rfl, f0, f1, f2, f3, f4, f5, f6, f7, hbel, hs, hres, hr2, hr5, hne⟩ := hinv
      have e0 := f0 (hdep.get 0 rfl)
      subst e0
      simp only [Act.put]
      go_wp2_with fail
      exact mkInv.mk u10 u11 (.slice a1_ X.length cap1) (.int .i64 X.length) u31 u32 u33 u34 g g2 (by first | kernel_rfl | rfl) (Gd.new rfl) (Gd.new (by first | rfl | simp)) (Gd.keep (i := 1) f2 (by decide)) (Gd.keep (i := 1) f3 (by decide)) (Gd.keep (i := 1) f4 (by decide)) (Gd.keep (i := 1) f5 (by decide)) (Gd.keep (i := 1) f6 (by decide)) (Gd.keep (i := 1) f7 (by decide)) hbel hs hres (hr2.keep (i := 1) (by decide)) (hr5.keep (i := 1) (by decide)) (Gd.keep (i := 1) (hne.imp fun h => Gd.keep (i := 1) h (by decide)) (by decide))
    refine .cons 3 rfl ?_ ?_
    · intro d a w9 hsz hcl hinv hd hdep
      obtain ⟨u10, u11, u29, u30, u31, u32, u33, u34, g, g2, rfl, f0, f1, f2, f3, f4, f5, f6, f7, hbel, hs, hres, hr2, hr5, hne⟩ := hinv
      have e1 := f1 (hdep.get 1 rfl)
      subst e1
      have n6 := hcl.not hd 6 _ rfl rfl
      have hz9 : w.heap.size + 2 ≤ w9.heap.size := by have := hres.1.1; omega
      simp only [Act.put]
      go_simp
      go_wp2_with (at_make; refine make_any rfl rfl _ _ rfl .i64 .i64 _ _ X.length rfl rfl rfl rfl (by omega) (lo := w.heap.size + 2) hz9 ?_)
      intro w8 hown hgrow
      have hb8 := Below.made (Below.refl (w.heap.size + 2) w9) hgrow hz9
      go_wp2_with fail
      exact mkInv.mk u10 u11 u29 (.int .i64 X.length) (.slice (some ⟨w9.heap.size, 0, none⟩) X.length X.length) u32 u33 u34 w9.heap.size g2 (by first | kernel_rfl | rfl) (Gd.keep (i := 2) f0 (by decide)) (Gd.new rfl) (Gd.new (by first | rfl | simp)) (Gd.keep (i := 2) f3 (by decide)) (Gd.keep (i := 2) f4 (by decide)) (Gd.keep (i := 2) f5 (by decide)) (Gd.undone (i := 2) n6 (by decide)) (Gd.keep (i := 2) f7 (by decide)) (Below.made hbel hgrow hbel.size) (hs.below hb8 (by omega)) (hres.below hb8 (by omega)) (Gd.new (by simpa using hown)) ((hr5.imp fun h => h.made hgrow).keep (i := 2) (by decide)) (Gd.new (Gd.keep (i := 2) (hr5.imp fun h => fun he => by have := (h.lo g2 rfl).2; omega) (by decide)))
    refine .cons 4 rfl ?_ ?_
    · intro d a w9 hsz hcl hinv hd hdep
      obtain ⟨u10, u11, u29, u30, u31, u32, u33, u34, g, g2, rfl, f0, f1, f2, f3, f4, f5, f6, f7, hbel, hs, hres, hr2, hr5, hne⟩ := hinv
      simp only [Act.put]
      go_wp2_with fail
      exact mkInv.mk u10 u11 u29 u30 u31 (.slice a1_ X.length cap1) u33 u34 g g2 (by first | kernel_rfl | rfl) (Gd.keep (i := 3) f0 (by decide)) (Gd.keep (i := 3) f1 (by decide)) (Gd.keep (i := 3) f2 (by decide)) (Gd.new (by first | rfl | simp)) (Gd.keep (i := 3) f4 (by decide)) (Gd.keep (i := 3) f5 (by decide)) (Gd.keep (i := 3) f6 (by decide)) (Gd.keep (i := 3) f7 (by decide)) hbel hs hres (hr2.keep (i := 3) (by decide)) (hr5.keep (i := 3) (by decide)) (Gd.keep (i := 3) (hne.imp fun h => Gd.keep (i := 3) h (by decide)) (by decide))
    refine .cons 5 rfl ?_ ?_
    · intro d a w9 hsz hcl hinv hd hdep
      obtain ⟨u10, u11, u29, u30, u31, u32, u33, u34, g, g2, rfl, f0, f1, f2, f3, f4, f5, f6, f7, hbel, hs, hres, hr2, hr5, hne⟩ := hinv
      have e3 := f3 (hdep.get 3 rfl)
      subst e3
      simp only [Act.put]
      go_wp2_with fail
      exact mkInv.mk u10 u11 u29 u30 u31 (.slice a1_ X.length cap1) (.int .i64 X.length) u34 g g2 (by first | kernel_rfl | rfl) (Gd.keep (i := 4) f0 (by decide)) (Gd.keep (i := 4) f1 (by decide)) (Gd.keep (i := 4) f2 (by decide)) (Gd.new rfl) (Gd.new (by first | rfl | simp)) (Gd.keep (i := 4) f5 (by decide)) (Gd.keep (i := 4) f6 (by decide)) (Gd.keep (i := 4) f7 (by decide)) hbel hs hres (hr2.keep (i := 4) (by decide)) (hr5.keep (i := 4) (by decide)) (Gd.keep (i := 4) (hne.imp fun h => Gd.keep (i := 4) h (by decide)) (by decide))
    refine .cons 6 rfl ?_ ?_
    · intro d a w9 hsz hcl hinv hd hdep
      obtain ⟨u10, u11, u29, u30, u31, u32, u33, u34, g, g2, rfl, f0, f1, f2, f3, f4, f5, f6, f7, hbel, hs, hres, hr2, hr5, hne⟩ := hinv
      have e4 := f4 (hdep.get 4 rfl)
      subst e4
      have n7 := hcl.not hd 7 _ rfl rfl
      have hz9 : w.heap.size + 2 ≤ w9.heap.size := by have := hres.1.1; omega
      simp only [Act.put]
      go_simp
      go_wp2_with (at_make; refine make_any rfl rfl _ _ rfl .i64 .i64 _ _ X.length rfl rfl rfl rfl (by omega) (lo := w.heap.size + 2) hz9 ?_)
      intro w8 hown hgrow
      have hb8 := Below.made (Below.refl (w.heap.size + 2) w9) hgrow hz9
      go_wp2_with fail
      exact mkInv.mk u10 u11 u29 u30 u31 u32 (.int .i64 X.length) (.slice (some ⟨w9.heap.size, 0, none⟩) X.length X.length) g w9.heap.size (by first | kernel_rfl | rfl) (Gd.keep (i := 5) f0 (by decide)) (Gd.keep (i := 5) f1 (by decide)) (Gd.keep (i := 5) f2 (by decide)) (Gd.keep (i := 5) f3 (by decide)) (Gd.new rfl) (Gd.new (by first | rfl | simp)) (Gd.keep (i := 5) f6 (by decide)) (Gd.undone (i := 5) n7 (by decide)) (Below.made hbel hgrow hbel.size) (hs.below hb8 (by omega)) (hres.below hb8 (by omega)) ((hr2.imp fun h => h.made hgrow).keep (i := 5) (by decide)) (Gd.new (by simpa using hown)) (Gd.keep (i := 5) (hr2.imp fun h => Gd.new fun he => by have := (h.lo g rfl).2; omega) (by decide))
    refine .cons 7 rfl ?_ ?_
    · intro d a w9 hsz hcl hinv hd hdep
      obtain ⟨u10, u11, u29, u30, u31, u32, u33, u34, g, g2, rfl, f0, f1, f2, f3, f4, f5, f6, f7, hbel, hs, hres, hr2, hr5, hne⟩ := hinv
      have e2 := f2 (hdep.get 2 rfl)
      subst e2
      simp only [Act.put]
      go_wp2_with fail
      exact mkInv.mk (.slice (some ⟨g, 0, none⟩) X.length X.length) u11 u29 u30 (.slice (some ⟨g, 0, none⟩) X.length X.length) u32 u33 u34 g g2 (by first | kernel_rfl | rfl) (Gd.keep (i := 6) f0 (by decide)) (Gd.keep (i := 6) f1 (by decide)) (Gd.new rfl) (Gd.keep (i := 6) f3 (by decide)) (Gd.keep (i := 6) f4 (by decide)) (Gd.keep (i := 6) f5 (by decide)) (Gd.new (by first | rfl | simp)) (Gd.keep (i := 6) f7 (by decide)) hbel hs hres (hr2.keep (i := 6) (by decide)) (hr5.keep (i := 6) (by decide)) (Gd.keep (i := 6) (hne.imp fun h => Gd.keep (i := 6) h (by decide)) (by decide))
    refine .cons 8 rfl ?_ trivial
    · intro d a w9 hsz hcl hinv hd hdep
      obtain ⟨u10, u11, u29, u30, u31, u32, u33, u34, g, g2, rfl, f0, f1, f2, f3, f4, f5, f6, f7, hbel, hs, hres, hr2, hr5, hne⟩ := hinv
      have e5 := f5 (hdep.get 5 rfl)
      subst e5
      simp only [Act.put]
      go_wp2_with fail
      exact mkInv.mk u10 (.slice (some ⟨g2, 0, none⟩) X.length X.length) u29 u30 u31 u32 u33 (.slice (some ⟨g2, 0, none⟩) X.length X.length) g g2 (by first | kernel_rfl | rfl) (Gd.keep (i := 7) f0 (by decide)) (Gd.keep (i := 7) f1 (by decide)) (Gd.keep (i := 7) f2 (by decide)) (Gd.keep (i := 7) f3 (by decide)) (Gd.keep (i := 7) f4 (by decide)) (Gd.new rfl) (Gd.keep (i := 7) f6 (by decide)) (Gd.new (by first | rfl | simp)) hbel hs hres (hr2.keep (i := 7) (by decide)) (hr5.keep (i := 7) (by decide)) (Gd.keep (i := 7) (hne.imp fun h => Gd.keep (i := 7) h (by decide)) (by decide))
  case hend3 =>
    intro d a w3 hinv hall
    obtain ⟨u10, u11, u29, u30, u31, u32, u33, u34, gb, gc, rfl, f0, f1, f2, f3, f4, f5, f6, f7, hbel, hs, hres, hr2, hr5, hne⟩ := hinv
    have e0 := f0 (hall 0 (by decide))
    subst e0
    have e1 := f1 (hall 1 (by decide))
    subst e1
    have e2 := f2 (hall 2 (by decide))
    subst e2
    have e3 := f3 (hall 3 (by decide))
    subst e3
    have e4 := f4 (hall 4 (by decide))
    subst e4
    have e5 := f5 (hall 5 (by decide))
    subst e5
    have e6 := f6 (hall 6 (by decide))
    subst e6
    have e7 := f7 (hall 7 (by decide))
    subst e7
    have hw2 := hr2 (hall 2 (by decide))
    have hw5 := hr5 (hall 5 (by decide))
    have hgne := hne (hall 2 (by decide)) (hall 5 (by decide))
    have hgb : w.heap.size + 2 ≤ gb := (hw2.lo gb rfl).1
    have hgc : w.heap.size + 2 ≤ gc := (hw5.lo gc rfl).1
    have HB3 := Lib.hid hbel
    have HS3 := Lib.hid hs
    have HR3 := Lib.hid hres
    have HRow3 : Hid (RowO w3 (w.heap.size + 2) (.slice (some ⟨gb, 0, none⟩) X.length X.length) (([] : List Nat) ++ List.replicate (X.length - ([] : List Nat).length) 0)) := Lib.hid (by simpa using hw2)
    have HRow3b : Hid (RowO w3 (w.heap.size + 2) (.slice (some ⟨gc, 0, none⟩) X.length X.length) (([] : List Nat) ++ List.replicate (X.length - ([] : List Nat).length) 0)) := Lib.hid (by simpa using hw5)
    clear f0 f1 f2 f3 f4 f5 f6 f7 hbel hs hres hr2 hr5 hne hw2 hw5
    clear Hb2 BWs2 BWr2
    simp only [Act.put]
    go_wp2_with fail
    go_loopw [37] (fun i wr => ∃ (k : Nat) (ls ms : List Nat) (c0 c1 c2 c3 c4 : Nat), k ≤ X.length ∧ i = .int .i64 k ∧ Hid (Is32 (soIt A0 A1 A2 A3 A4 T X k).s0 c0 ∧ Is32 (soIt A0 A1 A2 A3 A4 T X k).s1 c1 ∧ Is32 (soIt A0 A1 A2 A3 A4 T X k).s2 c2 ∧ Is32 (soIt A0 A1 A2 A3 A4 T X k).s3 c3 ∧ Is32 (soIt A0 A1 A2 A3 A4 T X k).s4 c4) ∧ Hid (soOk A0 A1 A2 A3 A4 T X k = true ∧ soilO (soIt A0 A1 A2 A3 A4 T X k).s0 (soIt A0 A1 A2 A3 A4 T X k).s1 (soIt A0 A1 A2 A3 A4 T X k).s2 (soIt A0 A1 A2 A3 A4 T X k).s3 (soIt A0 A1 A2 A3 A4 T X k).s4 = true ∧ (soOffs A0 A1 A2 A3 A4 T X k).all fin32o = true ∧ (soGoes A0 A1 A2 A3 A4 T X k).all fin32o = true) ∧ Hid (ls.length = k) ∧ Hid (ms.length = k) ∧ Hid (Is32s (soOffs A0 A1 A2 A3 A4 T X k) ls) ∧ Hid (Is32s (soGoes A0 A1 A2 A3 A4 T X k) ms) ∧ Hid (RowO wr (w.heap.size + 2) (.slice (some ⟨gb, 0, none⟩) X.length X.length) (ls ++ List.replicate (X.length - ls.length) 0)) ∧ Hid (RowO wr (w.heap.size + 2) (.slice (some ⟨gc, 0, none⟩) X.length X.length) (ms ++ List.replicate (X.length - ms.length) 0)) ∧ Hid (Bw wr w.heap.size [.float .f32 c0, .float .f32 c1, .float .f32 c2, .float .f32 c3, .float .f32 c4]) ∧ Hid (Bw wr (w.heap.size + 1) [.float .f32 0, .float .f32 0, .float .f32 0, .float .f32 0, .float .f32 0]) ∧ Hid (Below w.heap.size w wr)) (fun i _ => X.length - (intOf i).toNat)
    case atStart => exact ⟨0, [], [], a0, a1, a2, a3, a4, Nat.zero_le _, rfl, Lib.hid ⟨ha0, ha1, ha2, ha3, ha4⟩, Lib.hid ⟨rfl, Hs.out, rfl, rfl⟩, Lib.hid rfl, Lib.hid rfl, Lib.hid Is32s.nil, Lib.hid Is32s.nil, HRow3, HRow3b, HS3, HR3, HB3⟩
    case round =>
      obtain ⟨k, ls, ms, c0, c1, c2, c3, c4, hk, rfl, HC, HOk, HLk, HMk, HIl, HIm, HRow, HRowb, HS, HR, HBk⟩ := hrel
      by_cases hlt : k < X.length
      · obtain ⟨bx, ox, rfl, hbx, hcx⟩ := row_at H1.out (by omega)
        obtain ⟨x, hx⟩ : ∃ x, X.getD k 0 = x := ⟨_, rfl⟩
        have hcx' : wr.cell? ⟨bx, ox + k, none⟩ = some (.float .f32 x) := by rw [HBk.out.cell (p := ⟨bx, ox + k, none⟩) hbx, hcx k hlt, hx]
        have hxi : Is32 (some x) x := Is32.c (by rw [← hx]; exact getD_lt HZ1.out _)
        have Hx9 := Lib.hid hx
        have Hxi := Lib.hid hxi
        clear hcx hx hxi
        have hngb : (Value.slice (some ⟨gb, 0, none⟩) X.length X.length).ownBlock ≠ some w.heap.size := by intro h9; simp [Value.ownBlock] at h9; omega
        have HNgb := Lib.hid hngb
        clear hngb
        have hngc : (Value.slice (some ⟨gc, 0, none⟩) X.length X.length).ownBlock ≠ some w.heap.size := by intro h9; simp [Value.ownBlock] at h9; omega
        have HNgc := Lib.hid hngc
        clear hngc
        have hbc : (Value.slice (some ⟨gb, 0, none⟩) X.length X.length).ownBlock ≠ some gc := by intro h9; simp [Value.ownBlock] at h9; omega
        have hcb : (Value.slice (some ⟨gc, 0, none⟩) X.length X.length).ownBlock ≠ some gb := by intro h9; simp [Value.ownBlock] at h9; omega
        have Hbc := Lib.hid hbc
        have Hcb := Lib.hid hcb
        clear hbc hcb
        have hok9 : (stepO (soIt A0 A1 A2 A3 A4 T X k).s0 (soIt A0 A1 A2 A3 A4 T X k).s1 (soIt A0 A1 A2 A3 A4 T X k).s2 (soIt A0 A1 A2 A3 A4 T X k).s3 (soIt A0 A1 A2 A3 A4 T X k).s4 (some x) T).ok = true → _ := so_step HC.out.1 HC.out.2.1 HC.out.2.2.1 HC.out.2.2.2.1 HC.out.2.2.2.2 Hxi.out ht
        have HOk9 := Lib.hid hok9
        clear hok9
        obtain ⟨R, hR⟩ : ∃ R, soIt A0 A1 A2 A3 A4 T X (k + 1) = R := ⟨_, rfl⟩
        have hcall : ∀ W : World, Calls Try.prog 74 #[.agg #[.float .f32 c0, .float .f32 c1, .float .f32 c2, .float .f32 c3, .float .f32 c4], .float .f32 x, .float .f32 t] W (StepB R W) := by
          intro W
          have h9 := stepSoil_i W HC.out.1 HC.out.2.1 HC.out.2.2.1 HC.out.2.2.2.1 HC.out.2.2.2.2 Hxi.out ht
          rw [← hR, soIt, Hx9.out]
          exact h9
        have hst : R.ok = true → soilO R.s0 R.s1 R.s2 R.s3 R.s4 = true ∧ fin32o R.off = true ∧ fin32o R.goes = true := by rw [← hR, soIt, Hx9.out]; exact HOk9.out
        have HSt := Lib.hid hst
        have HCall := Lib.hid hcall
        have HRR := Lib.hid hR
        clear hcall hR hst HOk9
        obtain ⟨zs, hzs⟩ : ∃ zs, ls ++ List.replicate (X.length - ls.length) 0 = zs := ⟨_, rfl⟩
        have hlzs : zs.length = X.length := by rw [← hzs]; exact fill_len ls X.length (by rw [HLk.out]; exact hk)
        rw [hzs] at HRow
        have Hzs := Lib.hid hzs
        have Hlzs := Lib.hid hlzs
        clear hzs hlzs
        obtain ⟨zs2, hzs2⟩ : ∃ zs, ms ++ List.replicate (X.length - ms.length) 0 = zs := ⟨_, rfl⟩
        have hlzs2 : zs2.length = X.length := by rw [← hzs2]; exact fill_len ms X.length (by rw [HMk.out]; exact hk)
        rw [hzs2] at HRowb
        have Hzs2 := Lib.hid hzs2
        have Hlzs2 := Lib.hid hlzs2
        clear hzs2 hlzs2
        have hc0 := HS.out.c 0 rfl
        have hc1 := HS.out.c 1 rfl
        have hc2 := HS.out.c 2 rfl
        have hc3 := HS.out.c 3 rfl
        have hc4 := HS.out.c 4 rfl
        go_wp2_with fail
        refine (HCall.out _).mono ?_
        rintro e w5 ⟨y0, y1, y2, y3, y4, yo, yg, rfl, hy, hb⟩
        have Hy := Lib.hid hy
        clear hy hc0 hc1 hc2 hc3 hc4
        have hbs := HS.out.below hb HS.out.1.1
        have hres5 := HR.out.below hb HR.out.1.1
        have hbel5 := HBk.out.trans (hb.mono HBk.out.size)
        have hrw := HRow.out.below hb (Nat.le_refl _)
        have hrwb := HRowb.out.below hb (Nat.le_refl _)
        clear hb
        obtain ⟨hcell, hfz⟩ := hrw.at Hlzs.out.symm k (by rw [Hlzs.out]; exact hlt)
        obtain ⟨hcellb, hfzb⟩ := hrwb.at Hlzs2.out.symm k (by rw [Hlzs2.out]; exact hlt)
        generalize zs.getD k 0 = old at hcell
        generalize zs2.getD k 0 = oldb at hcellb
        have hc0 := hbs.c 0 rfl
        have hc1 := hbs.c 1 rfl
        have hc2 := hbs.c 2 rfl
        have hc3 := hbs.c 3 rfl
        have hc4 := hbs.c 4 rfl
        have hf0 := hbs.f 0 (by simp)
        have hf1 := hbs.f 1 (by simp)
        have hf2 := hbs.f 2 (by simp)
        have hf3 := hbs.f 3 (by simp)
        have hf4 := hbs.f 4 (by simp)
        have hwb : w.heap.size ≠ gb := by omega
        have hwc : w.heap.size ≠ gc := by omega
        have hbw : gb ≠ w.heap.size := by omega
        have hcw : gc ≠ w.heap.size := by omega
        have hgnc : gc ≠ gb := fun h => hgne h.symm
        have hsn : Bw (((((w5.setCell ⟨w.heap.size, 0, none⟩ (.float .f32 y0)).setCell ⟨w.heap.size, 1, none⟩ (.float .f32 y1)).setCell ⟨w.heap.size, 2, none⟩ (.float .f32 y2)).setCell ⟨w.heap.size, 3, none⟩ (.float .f32 y3)).setCell ⟨w.heap.size, 4, none⟩ (.float .f32 y4)) w.heap.size [.float .f32 y0, .float .f32 y1, .float .f32 y2, .float .f32 y3, .float .f32 y4] := Bw.of5 (by have := hbs.1.1; simp; omega) (by first | (simp [go_sem, hf0, hf1, hf2, hf3, hf4]; done) | (simp (maxDischargeDepth := 12) [go_sem, hc0, hc1, hc2, hc3, hc4, hf0, hf1, hf2, hf3, hf4]; done) | (simp (maxDischargeDepth := 12) [go_sem, hc0, hc1, hc2, hc3, hc4, hf0, hf1, hf2, hf3, hf4]; rfl)) (by first | (simp [go_sem, hf0, hf1, hf2, hf3, hf4]; done) | (simp (maxDischargeDepth := 12) [go_sem, hc0, hc1, hc2, hc3, hc4, hf0, hf1, hf2, hf3, hf4]; done) | (simp (maxDischargeDepth := 12) [go_sem, hc0, hc1, hc2, hc3, hc4, hf0, hf1, hf2, hf3, hf4]; rfl)) (by first | (simp [go_sem, hf0, hf1, hf2, hf3, hf4]; done) | (simp (maxDischargeDepth := 12) [go_sem, hc0, hc1, hc2, hc3, hc4, hf0, hf1, hf2, hf3, hf4]; done) | (simp (maxDischargeDepth := 12) [go_sem, hc0, hc1, hc2, hc3, hc4, hf0, hf1, hf2, hf3, hf4]; rfl)) (by first | (simp [go_sem, hf0, hf1, hf2, hf3, hf4]; done) | (simp (maxDischargeDepth := 12) [go_sem, hc0, hc1, hc2, hc3, hc4, hf0, hf1, hf2, hf3, hf4]; done) | (simp (maxDischargeDepth := 12) [go_sem, hc0, hc1, hc2, hc3, hc4, hf0, hf1, hf2, hf3, hf4]; rfl)) (by first | (simp [go_sem, hf0, hf1, hf2, hf3, hf4]; done) | (simp (maxDischargeDepth := 12) [go_sem, hc0, hc1, hc2, hc3, hc4, hf0, hf1, hf2, hf3, hf4]; done) | (simp (maxDischargeDepth := 12) [go_sem, hc0, hc1, hc2, hc3, hc4, hf0, hf1, hf2, hf3, hf4]; rfl)) (by first | (simp [go_sem, hf0, hf1, hf2, hf3, hf4]; done) | (simp (maxDischargeDepth := 12) [go_sem, hc0, hc1, hc2, hc3, hc4, hf0, hf1, hf2, hf3, hf4]; done) | (simp (maxDischargeDepth := 12) [go_sem, hc0, hc1, hc2, hc3, hc4, hf0, hf1, hf2, hf3, hf4]; rfl)) (by first | (simp [go_sem, hf0, hf1, hf2, hf3, hf4]; done) | (simp (maxDischargeDepth := 12) [go_sem, hc0, hc1, hc2, hc3, hc4, hf0, hf1, hf2, hf3, hf4]; done) | (simp (maxDischargeDepth := 12) [go_sem, hc0, hc1, hc2, hc3, hc4, hf0, hf1, hf2, hf3, hf4]; rfl)) (by first | (simp [go_sem, hf0, hf1, hf2, hf3, hf4]; done) | (simp (maxDischargeDepth := 12) [go_sem, hc0, hc1, hc2, hc3, hc4, hf0, hf1, hf2, hf3, hf4]; done) | (simp (maxDischargeDepth := 12) [go_sem, hc0, hc1, hc2, hc3, hc4, hf0, hf1, hf2, hf3, hf4]; rfl)) (by first | (simp [go_sem, hf0, hf1, hf2, hf3, hf4]; done) | (simp (maxDischargeDepth := 12) [go_sem, hc0, hc1, hc2, hc3, hc4, hf0, hf1, hf2, hf3, hf4]; done) | (simp (maxDischargeDepth := 12) [go_sem, hc0, hc1, hc2, hc3, hc4, hf0, hf1, hf2, hf3, hf4]; rfl)) (by first | (simp [go_sem, hf0, hf1, hf2, hf3, hf4]; done) | (simp (maxDischargeDepth := 12) [go_sem, hc0, hc1, hc2, hc3, hc4, hf0, hf1, hf2, hf3, hf4]; done) | (simp (maxDischargeDepth := 12) [go_sem, hc0, hc1, hc2, hc3, hc4, hf0, hf1, hf2, hf3, hf4]; rfl))
        have HS9 := Lib.hid ((hsn.setFar (p := ⟨gb, k, none⟩) hbw (.float .f32 yo)).setFar (p := ⟨gc, k, none⟩) hcw (.float .f32 yg))
        have hresn : Bw (((((w5.setCell ⟨w.heap.size, 0, none⟩ (.float .f32 y0)).setCell ⟨w.heap.size, 1, none⟩ (.float .f32 y1)).setCell ⟨w.heap.size, 2, none⟩ (.float .f32 y2)).setCell ⟨w.heap.size, 3, none⟩ (.float .f32 y3)).setCell ⟨w.heap.size, 4, none⟩ (.float .f32 y4)) (w.heap.size + 1) [.float .f32 0, .float .f32 0, .float .f32 0, .float .f32 0, .float .f32 0] := (by repeat (first | with_reducible exact hres5 | with_reducible refine Bw.setFar ?_ (by show w.heap.size ≠ w.heap.size + 1; omega) _))
        have HR9 := Lib.hid ((hresn.setFar (p := ⟨gb, k, none⟩) (by show gb ≠ w.heap.size + 1; omega) (.float .f32 yo)).setFar (p := ⟨gc, k, none⟩) (by show gc ≠ w.heap.size + 1; omega) (.float .f32 yg))
        have hle := Nat.le_refl w.heap.size
        have hlb : w.heap.size ≤ gb := by omega
        have hlc : w.heap.size ≤ gc := by omega
        have HB9 : Hid (Below w.heap.size w (((((((w5.setCell ⟨w.heap.size, 0, none⟩ (.float .f32 y0)).setCell ⟨w.heap.size, 1, none⟩ (.float .f32 y1)).setCell ⟨w.heap.size, 2, none⟩ (.float .f32 y2)).setCell ⟨w.heap.size, 3, none⟩ (.float .f32 y3)).setCell ⟨w.heap.size, 4, none⟩ (.float .f32 y4)).setCell ⟨gb, k, none⟩ (.float .f32 yo)).setCell ⟨gc, k, none⟩ (.float .f32 yg))) := Lib.hid (((((((hbel5.setCell hle _).setCell hle _).setCell hle _).setCell hle _).setCell hle _).setCell hlb _).setCell hlc _)
        have hrow := ((hrw.far5 HNgb.out 0 1 2 3 4 (.float .f32 y0) (.float .f32 y1) (.float .f32 y2) (.float .f32 y3) (.float .f32 y4)).store Hlzs.out.symm k yo).setFar (p := ⟨gc, k, none⟩) Hbc.out (.float .f32 yg)
        have hfs := fill_set ls X.length yo (by rw [HLk.out]; exact hlt)
        rw [HLk.out] at hfs
        rw [← Hzs.out, HLk.out, hfs] at hrow
        have HRow9 := Lib.hid hrow
        clear hrow hfs
        have hrow := ((hrwb.far5 HNgc.out 0 1 2 3 4 (.float .f32 y0) (.float .f32 y1) (.float .f32 y2) (.float .f32 y3) (.float .f32 y4)).setFar (p := ⟨gb, k, none⟩) Hcb.out (.float .f32 yo)).store Hlzs2.out.symm k yg
        have hfs := fill_set ms X.length yg (by rw [HMk.out]; exact hlt)
        rw [HMk.out] at hfs
        rw [← Hzs2.out, HMk.out, hfs] at hrow
        have HRow9b := Lib.hid hrow
        clear hrow hfs
        have hr0 := HR9.out.c 0 rfl
        have hr1 := HR9.out.c 1 rfl
        have hr2 := HR9.out.c 2 rfl
        have hr3 := HR9.out.c 3 rfl
        have hr4 := HR9.out.c 4 rfl
        have hg0 := HR9.out.f 0 (by simp)
        have hg1 := HR9.out.f 1 (by simp)
        have hg2 := HR9.out.f 2 (by simp)
        have hg3 := HR9.out.f 3 (by simp)
        have hg4 := HR9.out.f 4 (by simp)
        clear hsn hresn hbs hres5 hbel5 hrw hrwb
        obtain ⟨okb, hok⟩ : ∃ b, R.ok = b := ⟨_, rfl⟩
        rw [hok]
        have Hok := Lib.hid hok
        clear hok
        cases okb
        · have hv : Q = failRunS := by rw [← HQ2.out, if_neg]; rw [soOk_no hlt (by rw [HRR.out]; exact Hok.out)]; decide
          have HV := Lib.hid hv
          clear hv
          go_wp2_with fail
          rw [HV.out]
          exact bodyPost_ret (v := .tuple #[.agg #[.float .f32 0, .float .f32 0, .float .f32 0, .float .f32 0, .float .f32 0], .slice none 0 0, .slice none 0 0, .bool false]) (by first | (simp [results, Try.results55, go_sem, hr0, hr1, hr2, hr3, hr4, hg0, hg1, hg2, hg3, hg4]; done) | (simp (maxDischargeDepth := 12) [results, Try.results55, go_sem, hr0, hr1, hr2, hr3, hr4, hg0, hg1, hg2, hg3, hg4]; done) | (simp (maxDischargeDepth := 12) [results, Try.results55, go_sem, hr0, hr1, hr2, hr3, hr4, hg0, hg1, hg2, hg3, hg4]; rfl)) rfl (RunSB.no (by repeat (first | with_reducible exact HB9.out | with_reducible refine beld ?_ _ | (with_reducible refine Below.alloc ?_ ?_ _; rotate_left; exact (by first | (simp; done) | (simp; omega) | omega)) | (with_reducible refine Below.setCell ?_ ?_ _; rotate_left; exact (by first | (simp; done) | (simp; omega) | omega)))))
        · go_wp2_with fail
          go_roundw
          case rel => exact ⟨k + 1, ls ++ [yo], ms ++ [yg], y0, y1, y2, y3, y4, by omega, by go_num, Lib.hid (by rw [HRR.out]; exact ⟨Hy.out.1, Hy.out.2.1, Hy.out.2.2.1, Hy.out.2.2.2.1, Hy.out.2.2.2.2.1⟩), Lib.hid ⟨soOk_succ HOk.out.1 (by rw [HRR.out]; exact Hok.out), by rw [HRR.out]; exact (HSt.out Hok.out).1, by rw [soOffs_succ, HRR.out, List.all_append, HOk.out.2.2.1]; simp [(HSt.out Hok.out).2.1], by rw [soGoes_succ, HRR.out, List.all_append, HOk.out.2.2.2]; simp [(HSt.out Hok.out).2.2]⟩, Lib.hid (by rw [List.length_append, List.length_singleton, HLk.out]), Lib.hid (by rw [List.length_append, List.length_singleton, HMk.out]), Lib.hid (by rw [soOffs_succ, HRR.out]; exact HIl.out.snoc Hy.out.2.2.2.2.2.1), Lib.hid (by rw [soGoes_succ, HRR.out]; exact HIm.out.snoc Hy.out.2.2.2.2.2.2), HRow9, HRow9b, HS9, HR9, HB9⟩
          case measure => simp [intOf]; omega
      · have hkX : k = X.length := by omega
        subst hkX
        have hv : Q = ⟨(soIt A0 A1 A2 A3 A4 T X X.length).s0, (soIt A0 A1 A2 A3 A4 T X X.length).s1, (soIt A0 A1 A2 A3 A4 T X X.length).s2, (soIt A0 A1 A2 A3 A4 T X X.length).s3, (soIt A0 A1 A2 A3 A4 T X X.length).s4, ls, ms, true⟩ := by rw [← HQ2.out, if_pos HOk.out.1, ← HIl.out.exact HOk.out.2.2.1, ← HIm.out.exact HOk.out.2.2.2]
        have HV := Lib.hid hv
        clear hv
        have hrow := HRow.out
        rw [fill_all ls X.length HLk.out] at hrow
        have HRw := Lib.hid hrow
        clear hrow
        have hrow := HRowb.out
        rw [fill_all ms X.length HMk.out] at hrow
        have HRwb := Lib.hid hrow
        clear hrow
        have hc0 := HS.out.c 0 rfl
        have hc1 := HS.out.c 1 rfl
        have hc2 := HS.out.c 2 rfl
        have hc3 := HS.out.c 3 rfl
        have hc4 := HS.out.c 4 rfl
        have hr0 := HR.out.c 0 rfl
        have hr1 := HR.out.c 1 rfl
        have hr2 := HR.out.c 2 rfl
        have hr3 := HR.out.c 3 rfl
        have hr4 := HR.out.c 4 rfl
        have hg0 := HR.out.f 0 (by simp)
        have hg1 := HR.out.f 1 (by simp)
        have hg2 := HR.out.f 2 (by simp)
        have hg3 := HR.out.f 3 (by simp)
        have hg4 := HR.out.f 4 (by simp)
        go_wp2_with fail
        rw [HV.out]
        exact bodyPost_ret (v := .tuple #[.agg #[.float .f32 c0, .float .f32 c1, .float .f32 c2, .float .f32 c3, .float .f32 c4], .slice (some ⟨gb, 0, none⟩) X.length X.length, .slice (some ⟨gc, 0, none⟩) X.length X.length, .bool true]) (by first | (simp [results, Try.results55, go_sem, hr0, hr1, hr2, hr3, hr4, hg0, hg1, hg2, hg3, hg4, hc0, hc1, hc2, hc3, hc4]; done) | (simp (maxDischargeDepth := 12) [results, Try.results55, go_sem, hr0, hr1, hr2, hr3, hr4, hg0, hg1, hg2, hg3, hg4, hc0, hc1, hc2, hc3, hc4]; done) | (simp (maxDischargeDepth := 12) [results, Try.results55, go_sem, hr0, hr1, hr2, hr3, hr4, hg0, hg1, hg2, hg3, hg4, hc0, hc1, hc2, hc3, hc4]; rfl)) rfl (RunSB.yes (lo := w.heap.size + 2) (HRw.out.far5 (b := w.heap.size + 1) (by intro h9; simp [Value.ownBlock] at h9; omega) _ _ _ _ _ _ _ _ _ _) (HRwb.out.far5 (b := w.heap.size + 1) (by intro h9; simp [Value.ownBlock] at h9; omega) _ _ _ _ _ _ _ _ _ _) (fun k9 h8 h9 => by simp [Value.ownBlock] at h8 h9; omega) (by omega) (by rw [HLk.out]; exact hl1) (by rw [HMk.out]; exact hl1) HC.out (by repeat (first | with_reducible exact HBk.out | with_reducible refine beld ?_ _ | (with_reducible refine Below.alloc ?_ ?_ _; rotate_left; exact (by first | (simp; done) | (simp; omega) | omega)) | (with_reducible refine Below.setCell ?_ ?_ _; rotate_left; exact (by first | (simp; done) | (simp; omega) | omega)))))

end Go.Proofs.Ytdoecpghlfjhiac
