/- The walk of the law on SameHill. -/
import Derived.Test.YtfdcfalkidcdnacSameH
import Derived.Test.YtfdcfalkidcdnacHillR
import Derived.Deep.RegionHeld3
namespace Go.Proofs.Ytfdcfalkidcdnac
open Go.RowKit
set_option maxRecDepth 100000

set_option maxHeartbeats 4000000 in
theorem sameHillLaw_fits (wd0 hg0 : Int) (a0 : Option Addr) (cap0 : Nat) (zs0 : List Nat) (wd1 hg1 : Int) (a1 : Option Addr) (cap1 : Nat) (zs1 : List Nat) (w : World) (hr0 : RowF .f32 w a0 zs0) (hl0 : zs0.length ≤ 1048576) (hz0 : ∀ z ∈ zs0, z < 4294967296) (hr1 : RowF .f32 w a1 zs1) (hl1 : zs1.length ≤ 1048576) (hz1 : ∀ z ∈ zs1, z < 4294967296) (hsum : zs0.length + zs1.length ≤ 1048576) :
    Calls Try.prog 11 #[.agg #[.int .i64 wd0, .int .i64 hg0, .slice a0 zs0.length cap0], .agg #[.int .i64 wd1, .int .i64 hg1, .slice a1 zs1.length cap1]] w fun e w' => e = .returned (.bool true) ∧ Below w.heap.size w w' := by
  obtain ⟨rok, hR⟩ : ∃ r, resSameHill wd0 hg0 zs0 wd1 hg1 zs1 = r := ⟨_, rfl⟩
  have cS : ∀ (a0 : Option Addr) (cap0 : Nat) (a1 : Option Addr) (cap1 : Nat) (W : World), RowF .f32 W a0 zs0 → RowF .f32 W a1 zs1 → Calls Try.prog 43 #[.agg #[.int .i64 wd0, .int .i64 hg0, .slice a0 zs0.length cap0], .agg #[.int .i64 wd1, .int .i64 hg1, .slice a1 zs1.length cap1]] W (Says rok W) := by
    intro a0 cap0 a1 cap1 W h0' h1'
    have := sameHill_spec wd0 hg0 a0 cap0 zs0 wd1 hg1 a1 cap1 zs1 W h0' hl0 hz0 h1' hl1 hz1
    rw [hR] at this
    exact this
  have cI : ∀ (a0 : Option Addr) (cap0 : Nat) (a1 : Option Addr) (cap1 : Nat) (W : World), RowF .f32 W a0 zs0 → RowF .f32 W a1 zs1 → Calls Try.prog 44 #[.agg #[.int .i64 wd0, .int .i64 hg0, .slice a0 zs0.length cap0], .agg #[.int .i64 wd1, .int .i64 hg1, .slice a1 zs1.length cap1]] W (Says rok W) := by
    intro a0 cap0 a1 cap1 W h0' h1'
    have := sameHill_impl wd0 hg0 a0 cap0 zs0 wd1 hg1 a1 cap1 zs1 W h0' hl0 hz0 h1' hl1 hz1
    rw [hR] at this
    exact this
  have HS := Lib.hid cS; have HI := Lib.hid cI
  clear cS cI hR
  have H0 := Lib.hid hr0
  clear hr0 hz0
  have H1 := Lib.hid hr1
  clear hr1 hz1
  have Hb0 := Lib.hid (Below.refl w.heap.size w)
  go_enter Try.func11, Try.ntmps11
  go_wp2_with fail
  refine (szHill_fits wd0 hg0 a0 zs0.length cap0 _ (by omega) (by omega) _).mono ?_
  rintro e w1 ⟨rfl, hb⟩
  have hs1 : w.heap.size + 2 ≤ w1.heap.size := (by have := hb.size; simpa using this)
  have hst : Below w.heap.size w w1 := (below2 _ _ _).trans (hb.mono (by first | (simp; done) | (simp; omega)))
  have Hb1 := Lib.hid (Hb0.out.trans (hst.mono (by omega)) : Below w.heap.size w w1)
  have BA01 := Lib.hid (BoxH.below ((BoxH.new w wd0 hg0 (.slice a0 zs0.length cap0) 33).alloc _) hb (by first | (simp; done) | (simp; omega)))
  have BA11 := Lib.hid (BoxH.below (BoxH.at (w.alloc _) (w.heap.size + 1) (by simp) wd1 hg1 (.slice a1 zs1.length cap1) 33) hb (by first | (simp; done) | (simp; omega)))
  clear hb hst
  clear Hb0
  obtain ⟨A00, A01, A02, _⟩ := BA01.out
  obtain ⟨A10, A11, A12, _⟩ := BA11.out
  go_wp2_with fail
  refine (szHill_fits wd1 hg1 a1 zs1.length cap1 _ (by omega) (by omega) _).mono ?_
  rintro e w2 ⟨rfl, hb⟩
  have hs2 : w1.heap.size + 0 ≤ w2.heap.size := (by have := hb.size; simpa using this)
  have hst : Below w1.heap.size w1 w2 := (Below.refl _ _).trans (hb.mono (by first | (simp; done) | (simp; omega)))
  have Hb2 := Lib.hid (Hb1.out.trans (hst.mono (by omega)) : Below w.heap.size w w2)
  have BA02 := Lib.hid (BA01.out.below hst (by omega))
  have BA12 := Lib.hid (BA11.out.below hst (by omega))
  clear hb hst
  clear Hb1 BA01 BA11
  clear A00 A01 A02 A10 A11 A12
  obtain ⟨A00, A01, A02, _⟩ := BA02.out
  obtain ⟨A10, A11, A12, _⟩ := BA12.out
  go_wp2_with fail
  have tk1 : True := trivial
  go_region_held3 (fun w' => w'.cell? ⟨w.heap.size, 0, none⟩ = some (.int .i64 wd0) ∧ w'.cell? ⟨w.heap.size, 1, none⟩ = some (.int .i64 hg0) ∧ w'.cell? ⟨w.heap.size, 2, none⟩ = some (.slice a0 zs0.length cap0) ∧ w'.cell? ⟨(w.heap.size + 1), 0, none⟩ = some (.int .i64 wd1) ∧ w'.cell? ⟨(w.heap.size + 1), 1, none⟩ = some (.int .i64 hg1) ∧ w'.cell? ⟨(w.heap.size + 1), 2, none⟩ = some (.slice a1 zs1.length cap1))
    (first | exact ⟨BA05.out.1, BA05.out.2.1, BA05.out.2.2.1, BA15.out.1, BA15.out.2.1, BA15.out.2.2.1⟩ | exact ⟨BA04.out.1, BA04.out.2.1, BA04.out.2.2.1, BA14.out.1, BA14.out.2.1, BA14.out.2.2.1⟩ | exact ⟨BA03.out.1, BA03.out.2.1, BA03.out.2.2.1, BA13.out.1, BA13.out.2.1, BA13.out.2.2.1⟩ | exact ⟨BA02.out.1, BA02.out.2.1, BA02.out.2.2.1, BA12.out.1, BA12.out.2.1, BA12.out.2.2.1⟩)
    (first | (go_at_call 24; have _t := tk1; clear tk1 _t; refine (toHill_any wd0 hg0 a0 cap0 zs0 _ (by exact (H0.out.below Hb2.out.drew (Nat.le_refl _))) hl0).mono ?_; rintro e w3 ⟨aWc0, capWc0, rfl, hb, hf⟩; have hs3 : w2.heap.size ≤ w3.heap.size := hb.size; have hst : Below w2.heap.size w2 w3 := ((below_drewN (Below.refl _ _) 1).trans (by exact hb)); have Hb3 := Lib.hid (Hb2.out.trans (hst.mono (by omega)) : Below w.heap.size w w3); have BA03 := Lib.hid (BA02.out.below hst (by omega)); have BA13 := Lib.hid (BA12.out.below hst (by omega)); have FWc03 := Lib.hid hf; clear hb hst hf) | (go_at_call 24; refine (toHill_any wd1 hg1 a1 cap1 zs1 _ (by exact (H1.out.below Hb3.out (Nat.le_refl _))) hl1).mono ?_; rintro e w4 ⟨aWc1, capWc1, rfl, hb, hf⟩; have hs4 : w3.heap.size + 0 ≤ w4.heap.size := (by have := hb.size; simpa using this); have hst : Below w3.heap.size w3 w4 := (Below.refl _ _).trans (hb.mono (by first | (simp; done) | (simp; omega))); have Hb4 := Lib.hid (Hb3.out.trans (hst.mono (by omega)) : Below w.heap.size w w4); have BA04 := Lib.hid (BA03.out.below hst (by omega)); have BA14 := Lib.hid (BA13.out.below hst (by omega)); have FWc04 := Lib.hid (FWc03.out.below hst (by omega)); have FWc14 := Lib.hid (hf.mono (lo' := w3.heap.size + 0) (by first | (simp; done) | (simp; omega)) (Nat.le_refl _) (Nat.le_refl _)); clear hb hst hf) | (go_at_call 43; refine (HS.out aWc0 capWc0 aWc1 capWc1 _ (by exact FWc04.out.row) (by exact FWc14.out.row)).mono ?_; rintro e w5 ⟨rfl, hb⟩; have hs5 : w4.heap.size + 0 ≤ w5.heap.size := (by have := hb.size; simpa using this); have hst : Below w4.heap.size w4 w5 := (Below.refl _ _).trans (hb.mono (by first | (simp; done) | (simp; omega))); have Hb5 := Lib.hid (Hb4.out.trans (hst.mono (by omega)) : Below w.heap.size w w5); have BA05 := Lib.hid (BA04.out.below hst (by omega)); have BA15 := Lib.hid (BA14.out.below hst (by omega)); have FWc05 := Lib.hid (FWc04.out.below hst (by omega)); have FWc15 := Lib.hid (FWc14.out.below hst (by omega)); clear hb hst))
  clear A00 A01 A02 A10 A11 A12
  obtain ⟨A00, A01, A02, _⟩ := BA05.out
  obtain ⟨A10, A11, A12, _⟩ := BA15.out
  go_wp2_with fail
  refine (toHill_any wd0 hg0 a0 cap0 zs0 _ (by exact (H0.out.below Hb5.out (Nat.le_refl _))) hl0).mono ?_
  rintro e w6 ⟨aX0, capX0, rfl, hb, hf⟩
  have hs6 : w5.heap.size + 0 ≤ w6.heap.size := (by have := hb.size; simpa using this)
  have hst : Below w5.heap.size w5 w6 := (Below.refl _ _).trans (hb.mono (by first | (simp; done) | (simp; omega)))
  have Hb6 := Lib.hid (Hb5.out.trans (hst.mono (by omega)) : Below w.heap.size w w6)
  have BA06 := Lib.hid (BA05.out.below hst (by omega))
  have BA16 := Lib.hid (BA15.out.below hst (by omega))
  have FX06 := Lib.hid (hf.mono (lo' := w5.heap.size + 0) (by first | (simp; done) | (simp; omega)) (Nat.le_refl _) (Nat.le_refl _))
  clear hb hst hf
  clear Hb5 BA05 BA15
  clear A00 A01 A02 A10 A11 A12
  obtain ⟨A00, A01, A02, _⟩ := BA06.out
  obtain ⟨A10, A11, A12, _⟩ := BA16.out
  go_wp2_with fail
  refine (toHill_any wd1 hg1 a1 cap1 zs1 _ (by exact ((H1.out.below Hb6.out (Nat.le_refl _)).below (below1 _ _) (Nat.le_refl _))) hl1).mono ?_
  rintro e w7 ⟨aX1, capX1, rfl, hb, hf⟩
  have hs7 : w6.heap.size + 1 ≤ w7.heap.size := (by have := hb.size; simpa using this)
  have hst : Below w6.heap.size w6 w7 := (below1 _ _).trans (hb.mono (by first | (simp; done) | (simp; omega)))
  have Hb7 := Lib.hid (Hb6.out.trans (hst.mono (by omega)) : Below w.heap.size w w7)
  have BA07 := Lib.hid (BA06.out.below hst (by omega))
  have BA17 := Lib.hid (BA16.out.below hst (by omega))
  have FX07 := Lib.hid (FX06.out.below hst (by omega))
  have BX07 := Lib.hid (BoxH.below (BoxH.new w6 wd0 hg0 (.slice aX0 zs0.length capX0) 25) hb (by first | (simp; done) | (simp; omega)))
  have FX17 := Lib.hid (hf.mono (lo' := w6.heap.size + 1) (by first | (simp; done) | (simp; omega)) (Nat.le_refl _) (Nat.le_refl _))
  clear hb hst hf
  clear Hb6 BA06 BA16 FX06
  clear A00 A01 A02 A10 A11 A12
  obtain ⟨A00, A01, A02, _⟩ := BA07.out
  obtain ⟨A10, A11, A12, _⟩ := BA17.out
  obtain ⟨X00, X01, X02, _⟩ := BX07.out
  go_wp2_with fail
  refine (HI.out aX0 capX0 aX1 capX1 _ (by exact (FX07.out.alloc _).row) (by exact (FX17.out.alloc _).row)).mono ?_
  rintro e w8 ⟨rfl, hb⟩
  have hs8 : w7.heap.size + 1 ≤ w8.heap.size := (by have := hb.size; simpa using this)
  have hst : Below w7.heap.size w7 w8 := (below1 _ _).trans (hb.mono (by first | (simp; done) | (simp; omega)))
  have Hb8 := Lib.hid (Hb7.out.trans (hst.mono (by omega)) : Below w.heap.size w w8)
  have BA08 := Lib.hid (BA07.out.below hst (by omega))
  have BA18 := Lib.hid (BA17.out.below hst (by omega))
  have BX08 := Lib.hid (BX07.out.below hst (by omega))
  have FX08 := Lib.hid (FX07.out.below hst (by omega))
  have FX18 := Lib.hid (FX17.out.below hst (by omega))
  have BX18 := Lib.hid (BoxH.below (BoxH.new w7 wd1 hg1 (.slice aX1 zs1.length capX1) 25) hb (by first | (simp; done) | (simp; omega)))
  clear hb hst
  clear Hb7 BA07 BA17 BX07 FX07 FX17
  clear A00 A01 A02 A10 A11 A12 X00 X01 X02
  obtain ⟨A00, A01, A02, _⟩ := BA08.out
  obtain ⟨A10, A11, A12, _⟩ := BA18.out
  obtain ⟨X00, X01, X02, _⟩ := BX08.out
  obtain ⟨X10, X11, X12, _⟩ := BX18.out
  go_wp2_with fail
  go_region_held3 (fun w' => w'.cell? ⟨w6.heap.size, 0, none⟩ = some (.int .i64 wd0) ∧ w'.cell? ⟨w6.heap.size, 1, none⟩ = some (.int .i64 hg0) ∧ w'.cell? ⟨w6.heap.size, 2, none⟩ = some (.slice aX0 zs0.length capX0) ∧ w'.cell? ⟨w.heap.size, 0, none⟩ = some (.int .i64 wd0) ∧ w'.cell? ⟨w.heap.size, 1, none⟩ = some (.int .i64 hg0) ∧ w'.cell? ⟨w.heap.size, 2, none⟩ = some (.slice a0 zs0.length cap0))
    (first | exact ⟨BX010.out.1, BX010.out.2.1, BX010.out.2.2.1, BA010.out.1, BA010.out.2.1, BA010.out.2.2.1⟩ | exact ⟨BX09.out.1, BX09.out.2.1, BX09.out.2.2.1, BA09.out.1, BA09.out.2.1, BA09.out.2.2.1⟩ | exact ⟨BX08.out.1, BX08.out.2.1, BX08.out.2.2.1, BA08.out.1, BA08.out.2.1, BA08.out.2.2.1⟩)
    (first | (go_at_call 24; refine (toHill_any wd0 hg0 a0 cap0 zs0 _ (by exact (H0.out.below Hb8.out.drew (Nat.le_refl _))) hl0).mono ?_; rintro e w9 ⟨aX0c, capX0c, rfl, hb, hf⟩; have hs9 : w8.heap.size ≤ w9.heap.size := hb.size; have hst : Below w8.heap.size w8 w9 := ((below_drewN (Below.refl _ _) 1).trans (by exact hb)); have Hb9 := Lib.hid (Hb8.out.trans (hst.mono (by omega)) : Below w.heap.size w w9); have BA09 := Lib.hid (BA08.out.below hst (by omega)); have BA19 := Lib.hid (BA18.out.below hst (by omega)); have BX09 := Lib.hid (BX08.out.below hst (by omega)); have BX19 := Lib.hid (BX18.out.below hst (by omega)); have FX09 := Lib.hid (FX08.out.below hst (by omega)); have FX19 := Lib.hid (FX18.out.below hst (by omega)); have FX0c9 := Lib.hid hf; clear hb hst hf) | (go_at_call 17; refine (eqHill_any wd0 hg0 aX0 aX0c capX0 capX0c zs0 _ (by exact FX09.out.row) (by exact FX0c9.out.row) hl0).mono ?_; rintro e w10 ⟨rfl, hb⟩; have hs10 : w9.heap.size + 0 ≤ w10.heap.size := (by have := hb.size; simpa using this); have hst : Below w9.heap.size w9 w10 := (Below.refl _ _).trans (hb.mono (by first | (simp; done) | (simp; omega))); have Hb10 := Lib.hid (Hb9.out.trans (hst.mono (by omega)) : Below w.heap.size w w10); have BA010 := Lib.hid (BA09.out.below hst (by omega)); have BA110 := Lib.hid (BA19.out.below hst (by omega)); have BX010 := Lib.hid (BX09.out.below hst (by omega)); have BX110 := Lib.hid (BX19.out.below hst (by omega)); have FX010 := Lib.hid (FX09.out.below hst (by omega)); have FX110 := Lib.hid (FX19.out.below hst (by omega)); have FX0c10 := Lib.hid (FX0c9.out.below hst (by omega)); clear hb hst))
  clear A00 A01 A02 A10 A11 A12 X00 X01 X02 X10 X11 X12
  obtain ⟨A00, A01, A02, _⟩ := BA010.out
  obtain ⟨A10, A11, A12, _⟩ := BA110.out
  obtain ⟨X00, X01, X02, _⟩ := BX010.out
  obtain ⟨X10, X11, X12, _⟩ := BX110.out
  go_wp2_with fail
  go_region_held3 (fun w' => w'.cell? ⟨w7.heap.size, 0, none⟩ = some (.int .i64 wd1) ∧ w'.cell? ⟨w7.heap.size, 1, none⟩ = some (.int .i64 hg1) ∧ w'.cell? ⟨w7.heap.size, 2, none⟩ = some (.slice aX1 zs1.length capX1) ∧ w'.cell? ⟨(w.heap.size + 1), 0, none⟩ = some (.int .i64 wd1) ∧ w'.cell? ⟨(w.heap.size + 1), 1, none⟩ = some (.int .i64 hg1) ∧ w'.cell? ⟨(w.heap.size + 1), 2, none⟩ = some (.slice a1 zs1.length cap1))
    (first | exact ⟨BX112.out.1, BX112.out.2.1, BX112.out.2.2.1, BA112.out.1, BA112.out.2.1, BA112.out.2.2.1⟩ | exact ⟨BX111.out.1, BX111.out.2.1, BX111.out.2.2.1, BA111.out.1, BA111.out.2.1, BA111.out.2.2.1⟩ | exact ⟨BX110.out.1, BX110.out.2.1, BX110.out.2.2.1, BA110.out.1, BA110.out.2.1, BA110.out.2.2.1⟩)
    (first | (go_at_call 24; refine (toHill_any wd1 hg1 a1 cap1 zs1 _ (by exact (H1.out.below Hb10.out.drew (Nat.le_refl _))) hl1).mono ?_; rintro e w11 ⟨aX1c, capX1c, rfl, hb, hf⟩; have hs11 : w10.heap.size ≤ w11.heap.size := hb.size; have hst : Below w10.heap.size w10 w11 := ((below_drewN (Below.refl _ _) 1).trans (by exact hb)); have Hb11 := Lib.hid (Hb10.out.trans (hst.mono (by omega)) : Below w.heap.size w w11); have BA011 := Lib.hid (BA010.out.below hst (by omega)); have BA111 := Lib.hid (BA110.out.below hst (by omega)); have BX011 := Lib.hid (BX010.out.below hst (by omega)); have BX111 := Lib.hid (BX110.out.below hst (by omega)); have FX011 := Lib.hid (FX010.out.below hst (by omega)); have FX111 := Lib.hid (FX110.out.below hst (by omega)); have FX1c11 := Lib.hid hf; clear hb hst hf) | (go_at_call 17; refine (eqHill_any wd1 hg1 aX1 aX1c capX1 capX1c zs1 _ (by exact FX111.out.row) (by exact FX1c11.out.row) hl1).mono ?_; rintro e w12 ⟨rfl, hb⟩; have hs12 : w11.heap.size + 0 ≤ w12.heap.size := (by have := hb.size; simpa using this); have hst : Below w11.heap.size w11 w12 := (Below.refl _ _).trans (hb.mono (by first | (simp; done) | (simp; omega))); have Hb12 := Lib.hid (Hb11.out.trans (hst.mono (by omega)) : Below w.heap.size w w12); have BA012 := Lib.hid (BA011.out.below hst (by omega)); have BA112 := Lib.hid (BA111.out.below hst (by omega)); have BX012 := Lib.hid (BX011.out.below hst (by omega)); have BX112 := Lib.hid (BX111.out.below hst (by omega)); have FX012 := Lib.hid (FX011.out.below hst (by omega)); have FX112 := Lib.hid (FX111.out.below hst (by omega)); have FX1c12 := Lib.hid (FX1c11.out.below hst (by omega)); clear hb hst))
  clear A00 A01 A02 A10 A11 A12 X00 X01 X02 X10 X11 X12
  obtain ⟨A00, A01, A02, _⟩ := BA012.out
  obtain ⟨A10, A11, A12, _⟩ := BA112.out
  obtain ⟨X00, X01, X02, _⟩ := BX012.out
  obtain ⟨X10, X11, X12, _⟩ := BX112.out
  go_wp2_with fail
  go_ret
  exact ⟨rfl, Hb12.out⟩

set_option maxHeartbeats 1000000 in
theorem walk_FnExactSameHill (wd0 hg0 : Int) (a0 : Option Addr) (len0 cap0 : Nat) (zs0 : List Nat) (wd1 hg1 : Int) (a1 : Option Addr) (len1 cap1 : Nat) (zs1 : List Nat) (w : World) (_hw0 : (Lit.int .i64 wd0).wf = true) (_hh0 : (Lit.int .i64 hg0).wf = true) (h0 : IsRowF .f32 w a0 len0 cap0 zs0) (_hw1 : (Lit.int .i64 wd1).wf = true) (_hh1 : (Lit.int .i64 hg1).wf = true) (h1 : IsRowF .f32 w a1 len1 cap1 zs1) :
    Calls Try.prog 11 #[.agg #[.int .i64 wd0, .int .i64 hg0, .slice a0 len0 cap0], .agg #[.int .i64 wd1, .int .i64 hg1, .slice a1 len1 cap1]] w fun e w' => e = .returned (.bool true) ∧ Below w.heap.size w w' := by
  obtain ⟨rfl, hcap0, hmax0, hr0, hz0⟩ := h0
  obtain ⟨rfl, hcap1, hmax1, hr1, hz1⟩ := h1
  unfold maxLen at hmax0 hmax1
  by_cases hl0 : zs0.length ≤ 1048576
  · by_cases hsum : zs0.length + zs1.length ≤ 1048576
    · have hl1 : zs1.length ≤ 1048576 := by omega
      exact sameHillLaw_fits wd0 hg0 a0 cap0 zs0 wd1 hg1 a1 cap1 zs1 w hr0 hl0 hz0 hr1 hl1 hz1 hsum
    · clear hr0 hz0 hr1 hz1
      go_enter Try.func11, Try.ntmps11
      go_wp2_with fail
      refine (szHill_fits wd0 hg0 a0 zs0.length cap0 _ (by omega) (by omega) _).mono ?_
      rintro e w1 ⟨rfl, hb1⟩
      have hbx : BoxH ((w.alloc (.cells #[.int .i64 wd0, .int .i64 hg0, .slice a0 zs0.length cap0] 33)).alloc (.cells #[.int .i64 wd1, .int .i64 hg1, .slice a1 zs1.length cap1] 33)) (w.heap.size + 1) wd1 hg1 (.slice a1 zs1.length cap1) := (by simpa using BoxH.new (w.alloc _) wd1 hg1 (.slice a1 zs1.length cap1) 33)
      obtain ⟨c0, c1, c2, _⟩ := hbx.below hb1 (by simp)
      have Hb1 := Lib.hid ((below2 _ _ _).trans (hb1.mono (by simp; omega)) : Below w.heap.size w w1)
      have hs1 : w.heap.size + 2 ≤ w1.heap.size := by have := hb1.size; simpa using this
      clear hb1 hbx
      go_wp2_with fail
      refine (szHill_not wd1 hg1 a1 zs1.length cap1 _ (by omega) (by omega) (by omega) _).mono ?_
      rintro e w2 ⟨rfl, hb2⟩
      have Hb2 := Lib.hid (Hb1.out.trans (hb2.mono (by omega)) : Below w.heap.size w w2)
      clear hb2
      go_wp2_with fail
      go_ret
      exact ⟨rfl, Hb2.out⟩
  · clear hr0 hz0 hr1 hz1
    go_enter Try.func11, Try.ntmps11
    go_wp2_with fail
    refine (szHill_not wd0 hg0 a0 zs0.length cap0 _ (by omega) (by omega) (by omega) _).mono ?_
    rintro e w1 ⟨rfl, hb1⟩
    have Hb1 := Lib.hid ((below2 _ _ _).trans (hb1.mono (by simp; omega)) : Below w.heap.size w w1)
    clear hb1
    go_wp2_with fail
    go_ret
    exact ⟨rfl, Hb1.out⟩
end Go.Proofs.Ytfdcfalkidcdnac
