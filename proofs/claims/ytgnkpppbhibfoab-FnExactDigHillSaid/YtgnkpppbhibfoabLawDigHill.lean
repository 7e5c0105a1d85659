/- The walk of the law on DigHill. -/
import Derived.Test.YtgnkpppbhibfoabDigI
import Derived.Test.YtgnkpppbhibfoabDigS
import Derived.Deep.RegionHeld3
import Derived.Deep.DeepCutAuto
import Derived.DataShut
namespace Go.Proofs.Ytgnkpppbhibfoab
open Go.RowKit

set_option maxRecDepth 100000 in
set_option maxHeartbeats 40000000 in
theorem digHillLaw_fits (wd0 hg0 : Int) (a0 : Option Addr) (cap0 : Nat) (zs0 : List Nat) (a1 : Option Addr) (cap1 : Nat) (ls1 : List Int) (x2 : Nat) (w : World) (hr0 : RowF .f32 w a0 zs0) (hl0 : zs0.length ≤ 1048576) (hz0 : ∀ z ∈ zs0, z < 4294967296) (hr1 : RowI w a1 ls1) (hl1 : ls1.length ≤ 1048576) (hx2 : x2 < 4294967296) :
    Calls Try.prog 6 #[.agg #[.int .i64 wd0, .int .i64 hg0, .slice a0 zs0.length cap0], .slice a1 ls1.length cap1, .float .f32 x2] w fun e w' => e = .returned (.bool true) ∧ Below w.heap.size w w' := by
  obtain ⟨⟨rw, rh, rz, rok⟩, hR⟩ : ∃ R, resDigHill wd0 hg0 zs0 ls1 x2 = R := ⟨_, rfl⟩
  have cS : ∀ (a0 : Option Addr) (cap0 : Nat) (a1 : Option Addr) (cap1 : Nat) (W : World), RowF .f32 W a0 zs0 → RowI W a1 ls1 → Calls Try.prog 26 #[.agg #[.int .i64 wd0, .int .i64 hg0, .slice a0 zs0.length cap0], .slice a1 ls1.length cap1, .float .f32 x2] W (RetHB rw rh rz rok W) := by
    intro a0 cap0 a1 cap1 W h0' h1'
    have := digHill_spec wd0 hg0 a0 cap0 zs0 a1 cap1 ls1 x2 W h0' hl0 hz0 h1' hl1 hx2
    rw [hR] at this
    exact this
  have cI : ∀ (a0 : Option Addr) (cap0 : Nat) (a1 : Option Addr) (cap1 : Nat) (W : World), RowF .f32 W a0 zs0 → RowI W a1 ls1 → Calls Try.prog 28 #[.agg #[.int .i64 wd0, .int .i64 hg0, .slice a0 zs0.length cap0], .slice a1 ls1.length cap1, .float .f32 x2] W (RetHB rw rh rz rok W) := by
    intro a0 cap0 a1 cap1 W h0' h1'
    have := digHill_impl wd0 hg0 a0 cap0 zs0 a1 cap1 ls1 x2 W h0' hl0 hz0 h1' hl1 hx2
    rw [hR] at this
    exact this
  have hrl : rz.length ≤ 1048576 := by have := resDigHill_len wd0 hg0 zs0 ls1 x2; rw [hR] at this; exact this
  have HS := Lib.hid cS; have HI := Lib.hid cI
  clear cS cI hR
  have H0 := Lib.hid hr0
  clear hr0 hz0
  have H1 := Lib.hid hr1
  clear hr1
  have hli1 : (ls1.length : Int) ≤ 1048576 := by omega
  clear hx2
  have Hb0 := Lib.hid (Below.refl w.heap.size w)
  go_enter Try.func6, Try.ntmps6
  go_wp2_with fail
  refine (szHill_fits wd0 hg0 a0 zs0.length cap0 _ (by omega) (by omega) _).mono ?_
  rintro e w1 ⟨rfl, hb⟩
  have hs1 : w.heap.size + 1 ≤ w1.heap.size := (by have := hb.size; simpa using this)
  have hst : Below w.heap.size w w1 := (below1 _ _).trans (hb.mono (by first | (simp; done) | (simp; omega)))
  have Hb1 := Lib.hid (Hb0.out.trans (hst.mono (by omega)) : Below w.heap.size w w1)
  have BA01 := Lib.hid (BoxH.below (BoxH.new w wd0 hg0 (.slice a0 zs0.length cap0) 33) hb (by first | (simp; done) | (simp; omega)))
  clear hb hst
  clear Hb0
  obtain ⟨A00, A01, A02, _⟩ := BA01.out
  go_wp2_with fail
  refine (toHill_any wd0 hg0 a0 cap0 zs0 _ (by exact (H0.out.below Hb1.out (Nat.le_refl _))) hl0).mono ?_
  rintro e w2 ⟨aWc0, capWc0, rfl, hb, hf⟩
  have hs2 : w1.heap.size + 0 ≤ w2.heap.size := (by have := hb.size; simpa using this)
  have hst : Below w1.heap.size w1 w2 := (Below.refl _ _).trans (hb.mono (by first | (simp; done) | (simp; omega)))
  have Hb2 := Lib.hid (Hb1.out.trans (hst.mono (by omega)) : Below w.heap.size w w2)
  have BA02 := Lib.hid (BA01.out.below hst (by omega))
  have FWc02 := Lib.hid (hf.mono (lo' := w1.heap.size + 0) (by first | (simp; done) | (simp; omega)) (Nat.le_refl _) (Nat.le_refl _))
  clear hb hst hf
  clear Hb1 BA01
  clear A00 A01 A02
  obtain ⟨A00, A01, A02, _⟩ := BA02.out
  go_wp2_with fail
  refine (copyI_any a1 cap1 ls1 _ (by exact (H1.out.below Hb2.out (Nat.le_refl _))) hl1).mono ?_
  rintro e w3 ⟨aWc1, capWc1, rfl, hb, hf⟩
  have hs3 : w2.heap.size + 0 ≤ w3.heap.size := (by have := hb.size; simpa using this)
  have hst : Below w2.heap.size w2 w3 := (Below.refl _ _).trans (hb.mono (by first | (simp; done) | (simp; omega)))
  have Hb3 := Lib.hid (Hb2.out.trans (hst.mono (by omega)) : Below w.heap.size w w3)
  have BA03 := Lib.hid (BA02.out.below hst (by omega))
  have FWc03 := Lib.hid (FWc02.out.below hst (by omega))
  have FWc13 := Lib.hid (hf.mono (lo' := w2.heap.size + 0) (by first | (simp; done) | (simp; omega)) (Nat.le_refl _) (Nat.le_refl _))
  clear hb hst hf
  clear Hb2 BA02 FWc02
  clear A00 A01 A02
  obtain ⟨A00, A01, A02, _⟩ := BA03.out
  go_wp2_with fail
  refine (HS.out aWc0 capWc0 aWc1 capWc1 _ (by exact FWc03.out.row) (by exact FWc13.out.row)).mono ?_
  rintro e w4 ⟨aW, capW, rfl, hb, hf⟩
  have hs4 : w3.heap.size + 0 ≤ w4.heap.size := (by have := hb.size; simpa using this)
  have hst : Below w3.heap.size w3 w4 := (Below.refl _ _).trans (hb.mono (by first | (simp; done) | (simp; omega)))
  have Hb4 := Lib.hid (Hb3.out.trans (hst.mono (by omega)) : Below w.heap.size w w4)
  have BA04 := Lib.hid (BA03.out.below hst (by omega))
  have FWc04 := Lib.hid (FWc03.out.below hst (by omega))
  have FWc14 := Lib.hid (FWc13.out.below hst (by omega))
  have FW4 := Lib.hid (hf.mono (lo' := w3.heap.size + 0) (by first | (simp; done) | (simp; omega)) (Nat.le_refl _) (Nat.le_refl _))
  clear hb hst hf
  clear Hb3 BA03 FWc03 FWc13
  clear A00 A01 A02
  obtain ⟨A00, A01, A02, _⟩ := BA04.out
  go_wp2_with fail
  refine (toHill_any wd0 hg0 a0 cap0 zs0 _ (by exact ((H0.out.below Hb4.out (Nat.le_refl _)).below (below1 _ _) (Nat.le_refl _))) hl0).mono ?_
  rintro e w5 ⟨aX0, capX0, rfl, hb, hf⟩
  have hs5 : w4.heap.size + 1 ≤ w5.heap.size := (by have := hb.size; simpa using this)
  have hst : Below w4.heap.size w4 w5 := (below1 _ _).trans (hb.mono (by first | (simp; done) | (simp; omega)))
  have Hb5 := Lib.hid (Hb4.out.trans (hst.mono (by omega)) : Below w.heap.size w w5)
  have BA05 := Lib.hid (BA04.out.below hst (by omega))
  have FW5 := Lib.hid (FW4.out.below hst (by omega))
  have BW5 := Lib.hid (BoxH.below (BoxH.new w4 rw rh (.slice aW rz.length capW) 25) hb (by first | (simp; done) | (simp; omega)))
  have FX05 := Lib.hid (hf.mono (lo' := w4.heap.size + 1) (by first | (simp; done) | (simp; omega)) (Nat.le_refl _) (Nat.le_refl _))
  clear hb hst hf
  clear Hb4 BA04 FW4
  clear A00 A01 A02
  obtain ⟨A00, A01, A02, _⟩ := BA05.out
  obtain ⟨W0, W1, W2, _⟩ := BW5.out
  go_wp2_with fail
  refine (copyI_any a1 cap1 ls1 _ (by exact ((H1.out.below Hb5.out (Nat.le_refl _)).below (below1 _ _) (Nat.le_refl _))) hl1).mono ?_
  rintro e w6 ⟨aX1, capX1, rfl, hb, hf⟩
  have hs6 : w5.heap.size + 1 ≤ w6.heap.size := (by have := hb.size; simpa using this)
  have hst : Below w5.heap.size w5 w6 := (below1 _ _).trans (hb.mono (by first | (simp; done) | (simp; omega)))
  have Hb6 := Lib.hid (Hb5.out.trans (hst.mono (by omega)) : Below w.heap.size w w6)
  have BA06 := Lib.hid (BA05.out.below hst (by omega))
  have BW6 := Lib.hid (BW5.out.below hst (by omega))
  have FW6 := Lib.hid (FW5.out.below hst (by omega))
  have FX06 := Lib.hid (FX05.out.below hst (by omega))
  have BX06 := Lib.hid (BoxH.below (BoxH.new w5 wd0 hg0 (.slice aX0 zs0.length capX0) 25) hb (by first | (simp; done) | (simp; omega)))
  have FX16 := Lib.hid (hf.mono (lo' := w5.heap.size + 1) (by first | (simp; done) | (simp; omega)) (Nat.le_refl _) (Nat.le_refl _))
  clear hb hst hf
  clear Hb5 BA05 BW5 FW5 FX05
  clear A00 A01 A02 W0 W1 W2
  obtain ⟨A00, A01, A02, _⟩ := BA06.out
  obtain ⟨W0, W1, W2, _⟩ := BW6.out
  obtain ⟨X00, X01, X02, _⟩ := BX06.out
  go_wp2_with fail
  refine (HI.out aX0 capX0 aX1 capX1 _ (by exact FX06.out.row) (by exact FX16.out.row)).mono ?_
  rintro e w7 ⟨aG, capG, rfl, hb, hf⟩
  have hs7 : w6.heap.size + 0 ≤ w7.heap.size := (by have := hb.size; simpa using this)
  have hst : Below w6.heap.size w6 w7 := (Below.refl _ _).trans (hb.mono (by first | (simp; done) | (simp; omega)))
  have Hb7 := Lib.hid (Hb6.out.trans (hst.mono (by omega)) : Below w.heap.size w w7)
  have BA07 := Lib.hid (BA06.out.below hst (by omega))
  have BW7 := Lib.hid (BW6.out.below hst (by omega))
  have BX07 := Lib.hid (BX06.out.below hst (by omega))
  have FW7 := Lib.hid (FW6.out.below hst (by omega))
  have FX07 := Lib.hid (FX06.out.below hst (by omega))
  have FX17 := Lib.hid (FX16.out.below hst (by omega))
  have FG7 := Lib.hid (hf.mono (lo' := w6.heap.size + 0) (by first | (simp; done) | (simp; omega)) (Nat.le_refl _) (Nat.le_refl _))
  clear hb hst hf
  clear Hb6 BA06 BW6 BX06 FW6 FX06 FX16
  clear A00 A01 A02 W0 W1 W2 X00 X01 X02
  obtain ⟨A00, A01, A02, _⟩ := BA07.out
  obtain ⟨W0, W1, W2, _⟩ := BW7.out
  obtain ⟨X00, X01, X02, _⟩ := BX07.out
  go_wp2_with fail
  refine (eqHill_any rw rh aG aW capG capW rz _ (by exact (FG7.out.alloc _).row) (by exact (FW7.out.alloc _).row) hrl).mono ?_
  rintro e w8 ⟨rfl, hb⟩
  have hs8 : w7.heap.size + 1 ≤ w8.heap.size := (by have := hb.size; simpa using this)
  have hst : Below w7.heap.size w7 w8 := (below1 _ _).trans (hb.mono (by first | (simp; done) | (simp; omega)))
  have Hb8 := Lib.hid (Hb7.out.trans (hst.mono (by omega)) : Below w.heap.size w w8)
  have BA08 := Lib.hid (BA07.out.below hst (by omega))
  have BW8 := Lib.hid (BW7.out.below hst (by omega))
  have BX08 := Lib.hid (BX07.out.below hst (by omega))
  have FW8 := Lib.hid (FW7.out.below hst (by omega))
  have FX08 := Lib.hid (FX07.out.below hst (by omega))
  have FX18 := Lib.hid (FX17.out.below hst (by omega))
  have FG8 := Lib.hid (FG7.out.below hst (by omega))
  have BG8 := Lib.hid (BoxH.below (BoxH.new w7 rw rh (.slice aG rz.length capG) 25) hb (by first | (simp; done) | (simp; omega)))
  clear hb hst
  clear Hb7 BA07 BW7 BX07 FW7 FX07 FX17 FG7
  clear A00 A01 A02 W0 W1 W2 X00 X01 X02
  obtain ⟨A00, A01, A02, _⟩ := BA08.out
  obtain ⟨W0, W1, W2, _⟩ := BW8.out
  obtain ⟨X00, X01, X02, _⟩ := BX08.out
  obtain ⟨G0, G1, G2, _⟩ := BG8.out
  go_wp2_with fail
  go_region_held3 (fun w' => w'.cell? ⟨w5.heap.size, 0, none⟩ = some (.int .i64 wd0) ∧ w'.cell? ⟨w5.heap.size, 1, none⟩ = some (.int .i64 hg0) ∧ w'.cell? ⟨w5.heap.size, 2, none⟩ = some (.slice aX0 zs0.length capX0) ∧ w'.cell? ⟨w.heap.size, 0, none⟩ = some (.int .i64 wd0) ∧ w'.cell? ⟨w.heap.size, 1, none⟩ = some (.int .i64 hg0) ∧ w'.cell? ⟨w.heap.size, 2, none⟩ = some (.slice a0 zs0.length cap0))
    (first | with_reducible exact ⟨BoxH.c0 (BX010.out), BoxH.c1 (BX010.out), BoxH.c2 (BX010.out), BoxH.c0 (BA010.out), BoxH.c1 (BA010.out), BoxH.c2 (BA010.out)⟩ | with_reducible exact ⟨BoxH.c0 (BX09.out), BoxH.c1 (BX09.out), BoxH.c2 (BX09.out), BoxH.c0 (BA09.out), BoxH.c1 (BA09.out), BoxH.c2 (BA09.out)⟩ | with_reducible exact ⟨BoxH.c0 (BX08.out), BoxH.c1 (BX08.out), BoxH.c2 (BX08.out), BoxH.c0 (BA08.out), BoxH.c1 (BA08.out), BoxH.c2 (BA08.out)⟩ | with_reducible exact ⟨BoxH.c0 (BoxH.drew BX08.out), BoxH.c1 (BoxH.drew BX08.out), BoxH.c2 (BoxH.drew BX08.out), BoxH.c0 (BoxH.drew BA08.out), BoxH.c1 (BoxH.drew BA08.out), BoxH.c2 (BoxH.drew BA08.out)⟩)
    (first | (go_at_call 24; refine (toHill_any wd0 hg0 a0 cap0 zs0 _ (by exact (H0.out.below Hb8.out.drew (Nat.le_refl _))) hl0).mono ?_; rintro e w9 ⟨aX0c, capX0c, rfl, hb, hf⟩; have hs9 : w8.heap.size ≤ w9.heap.size := hb.size; have hst : Below w8.heap.size w8 w9 := ((below_drewN (Below.refl _ _) 1).trans (by exact hb)); have Hb9 := Lib.hid (Hb8.out.trans (hst.mono (by omega)) : Below w.heap.size w w9); have BA09 := Lib.hid (BA08.out.below hst (by omega)); have BW9 := Lib.hid (BW8.out.below hst (by omega)); have BX09 := Lib.hid (BX08.out.below hst (by omega)); have BG9 := Lib.hid (BG8.out.below hst (by omega)); have FW9 := Lib.hid (FW8.out.below hst (by omega)); have FX09 := Lib.hid (FX08.out.below hst (by omega)); have FX19 := Lib.hid (FX18.out.below hst (by omega)); have FG9 := Lib.hid (FG8.out.below hst (by omega)); have FX0c9 := Lib.hid hf; clear hb hst hf) | (go_at_call 17; refine (eqHill_any wd0 hg0 aX0 aX0c capX0 capX0c zs0 _ (by exact FX09.out.row) (by exact FX0c9.out.row) hl0).mono ?_; rintro e w10 ⟨rfl, hb⟩; have hs10 : w9.heap.size + 0 ≤ w10.heap.size := (by have := hb.size; simpa using this); have hst : Below w9.heap.size w9 w10 := (Below.refl _ _).trans (hb.mono (by first | (simp; done) | (simp; omega))); have Hb10 := Lib.hid (Hb9.out.trans (hst.mono (by omega)) : Below w.heap.size w w10); have BA010 := Lib.hid (BA09.out.below hst (by omega)); have BW10 := Lib.hid (BW9.out.below hst (by omega)); have BX010 := Lib.hid (BX09.out.below hst (by omega)); have BG10 := Lib.hid (BG9.out.below hst (by omega)); have FW10 := Lib.hid (FW9.out.below hst (by omega)); have FX010 := Lib.hid (FX09.out.below hst (by omega)); have FX110 := Lib.hid (FX19.out.below hst (by omega)); have FG10 := Lib.hid (FG9.out.below hst (by omega)); have FX0c10 := Lib.hid (FX0c9.out.below hst (by omega)); clear hb hst))
  clear A00 A01 A02 W0 W1 W2 X00 X01 X02 G0 G1 G2
  obtain ⟨A00, A01, A02, _⟩ := BA010.out
  obtain ⟨W0, W1, W2, _⟩ := BW10.out
  obtain ⟨X00, X01, X02, _⟩ := BX010.out
  obtain ⟨G0, G1, G2, _⟩ := BG10.out
  go_wp2_with fail
  refine (copyI_any a1 cap1 ls1 _ (by exact (H1.out.below Hb10.out (Nat.le_refl _))) hl1).mono ?_
  rintro e w11 ⟨aY1, capY1, rfl, hb, hf⟩
  have hs11 : w10.heap.size + 0 ≤ w11.heap.size := (by have := hb.size; simpa using this)
  have hst : Below w10.heap.size w10 w11 := (Below.refl _ _).trans (hb.mono (by first | (simp; done) | (simp; omega)))
  have Hb11 := Lib.hid (Hb10.out.trans (hst.mono (by omega)) : Below w.heap.size w w11)
  have BA011 := Lib.hid (BA010.out.below hst (by omega))
  have BW11 := Lib.hid (BW10.out.below hst (by omega))
  have BX011 := Lib.hid (BX010.out.below hst (by omega))
  have BG11 := Lib.hid (BG10.out.below hst (by omega))
  have FW11 := Lib.hid (FW10.out.below hst (by omega))
  have FX011 := Lib.hid (FX010.out.below hst (by omega))
  have FX111 := Lib.hid (FX110.out.below hst (by omega))
  have FG11 := Lib.hid (FG10.out.below hst (by omega))
  have FY111 := Lib.hid (hf.mono (lo' := w10.heap.size + 0) (by first | (simp; done) | (simp; omega)) (Nat.le_refl _) (Nat.le_refl _))
  clear hb hst hf
  clear Hb10 BA010 BW10 BX010 BG10 FW10 FX010 FX110 FG10
  clear A00 A01 A02 W0 W1 W2 X00 X01 X02 G0 G1 G2
  obtain ⟨A00, A01, A02, _⟩ := BA011.out
  obtain ⟨W0, W1, W2, _⟩ := BW11.out
  obtain ⟨X00, X01, X02, _⟩ := BX011.out
  obtain ⟨G0, G1, G2, _⟩ := BG11.out
  go_wp2_with fail
  refine (eqInt64S_blw aX1 aY1 capX1 capY1 ls1 _ (by exact FX111.out.row) (by exact FY111.out.row) hl1).mono ?_
  rintro e w12 ⟨rfl, hb⟩
  have hs12 : w11.heap.size + 0 ≤ w12.heap.size := (by have := hb.size; simpa using this)
  have hst : Below w11.heap.size w11 w12 := (Below.refl _ _).trans (hb.mono (by first | (simp; done) | (simp; omega)))
  have Hb12 := Lib.hid (Hb11.out.trans (hst.mono (by omega)) : Below w.heap.size w w12)
  have BA012 := Lib.hid (BA011.out.below hst (by omega))
  have BW12 := Lib.hid (BW11.out.below hst (by omega))
  have BX012 := Lib.hid (BX011.out.below hst (by omega))
  have BG12 := Lib.hid (BG11.out.below hst (by omega))
  have FW12 := Lib.hid (FW11.out.below hst (by omega))
  have FX012 := Lib.hid (FX011.out.below hst (by omega))
  have FX112 := Lib.hid (FX111.out.below hst (by omega))
  have FG12 := Lib.hid (FG11.out.below hst (by omega))
  have FY112 := Lib.hid (FY111.out.below hst (by omega))
  clear hb hst
  clear Hb11 BA011 BW11 BX011 BG11 FW11 FX011 FX111 FG11 FY111
  clear A00 A01 A02 W0 W1 W2 X00 X01 X02 G0 G1 G2
  obtain ⟨A00, A01, A02, _⟩ := BA012.out
  obtain ⟨W0, W1, W2, _⟩ := BW12.out
  obtain ⟨X00, X01, X02, _⟩ := BX012.out
  obtain ⟨G0, G1, G2, _⟩ := BG12.out
  go_wp2_with fail
  refine (markHill_any (w4.heap.size + 1) (w5.heap.size) 1 wd0 hg0 aX0 capX0 zs0 _ (by exact FX012.out) hl0 (by omega)).mono ?_
  rintro e w13 ⟨rfl, hf, hk⟩
  have hs13 : w12.heap.size + 0 ≤ w13.heap.size := (by have := hk.size; simpa using this)
  have hkst : Kept (w4.heap.size + 1) (w5.heap.size) w12 w13 := (Kept.of_below (Below.refl _ _) (Nat.le_refl _)).trans hk
  have Hb13 := Lib.hid (Hb12.out.trans (hkst.below (by omega) (by omega)) : Below w.heap.size w w13)
  have BA013 := Lib.hid (BA012.out.kept hkst (by omega))
  have BW13 := Lib.hid (BW12.out.kept hkst (by omega))
  have BX013 := Lib.hid (BX012.out.kept hkst (by omega))
  have BG13 := Lib.hid (BG12.out.kept hkst (by omega))
  have FW13 := Lib.hid (FW12.out.kept hkst (by omega))
  have FX013 := Lib.hid hf
  have FX113 := Lib.hid (FX112.out.kept hkst (by omega))
  have FG13 := Lib.hid (FG12.out.kept hkst (by omega))
  clear hk hkst hf
  clear Hb12 BA012 BW12 BX012 BG12 FW12 FX012 FX112 FG12
  clear A00 A01 A02 W0 W1 W2 X00 X01 X02 G0 G1 G2
  obtain ⟨A00, A01, A02, _⟩ := BA013.out
  obtain ⟨W0, W1, W2, _⟩ := BW13.out
  obtain ⟨X00, X01, X02, _⟩ := BX013.out
  obtain ⟨G0, G1, G2, _⟩ := BG13.out
  go_wp2_with fail
  refine (markI_any (w5.heap.size + 1) (w6.heap.size) (1 + zs0.length) aX1 capX1 ls1 _ (by exact FX113.out) hl1 (by omega)).mono ?_
  rintro e w14 ⟨rfl, hf, hk⟩
  have hs14 : w13.heap.size + 0 ≤ w14.heap.size := (by have := hk.size; simpa using this)
  have hkst : Kept (w5.heap.size + 1) (w6.heap.size) w13 w14 := (Kept.of_below (Below.refl _ _) (Nat.le_refl _)).trans hk
  have Hb14 := Lib.hid (Hb13.out.trans (hkst.below (by omega) (by omega)) : Below w.heap.size w w14)
  have BA014 := Lib.hid (BA013.out.kept hkst (by omega))
  have BW14 := Lib.hid (BW13.out.kept hkst (by omega))
  have BX014 := Lib.hid (BX013.out.kept hkst (by omega))
  have BG14 := Lib.hid (BG13.out.kept hkst (by omega))
  have FW14 := Lib.hid (FW13.out.kept hkst (by omega))
  have FX114 := Lib.hid hf
  have FG14 := Lib.hid (FG13.out.kept hkst (by omega))
  clear hk hkst hf
  clear Hb13 BA013 BW13 BX013 BG13 FW13 FX113 FG13
  clear A00 A01 A02 W0 W1 W2 X00 X01 X02 G0 G1 G2
  obtain ⟨A00, A01, A02, _⟩ := BA014.out
  obtain ⟨W0, W1, W2, _⟩ := BW14.out
  obtain ⟨X00, X01, X02, _⟩ := BX014.out
  obtain ⟨G0, G1, G2, _⟩ := BG14.out
  go_wp2_with fail
  refine (eqHill_any rw rh aG aW capG capW rz _ (by exact FG14.out.row) (by exact FW14.out.row) hrl).mono ?_
  rintro e w15 ⟨rfl, hb⟩
  have hs15 : w14.heap.size + 0 ≤ w15.heap.size := (by have := hb.size; simpa using this)
  have hst : Below w14.heap.size w14 w15 := (Below.refl _ _).trans (hb.mono (by first | (simp; done) | (simp; omega)))
  have Hb15 := Lib.hid (Hb14.out.trans (hst.mono (by omega)) : Below w.heap.size w w15)
  have BA015 := Lib.hid (BA014.out.below hst (by omega))
  have BW15 := Lib.hid (BW14.out.below hst (by omega))
  have BX015 := Lib.hid (BX014.out.below hst (by omega))
  have BG15 := Lib.hid (BG14.out.below hst (by omega))
  have FW15 := Lib.hid (FW14.out.below hst (by omega))
  have FG15 := Lib.hid (FG14.out.below hst (by omega))
  clear hb hst
  clear Hb14 BA014 BW14 BX014 BG14 FW14 FG14
  clear A00 A01 A02 W0 W1 W2 X00 X01 X02 G0 G1 G2
  obtain ⟨A00, A01, A02, _⟩ := BA015.out
  obtain ⟨W0, W1, W2, _⟩ := BW15.out
  obtain ⟨X00, X01, X02, _⟩ := BX015.out
  obtain ⟨G0, G1, G2, _⟩ := BG15.out
  go_wp2_with fail
  refine (markHill_any (w6.heap.size) (w7.heap.size) 1 rw rh aG capG rz _ (by exact FG15.out) hrl (by omega)).mono ?_
  rintro e w16 ⟨rfl, hf, hk⟩
  have hs16 : w15.heap.size + 0 ≤ w16.heap.size := (by have := hk.size; simpa using this)
  have hkst : Kept (w6.heap.size) (w7.heap.size) w15 w16 := (Kept.of_below (Below.refl _ _) (Nat.le_refl _)).trans hk
  have Hb16 := Lib.hid (Hb15.out.trans (hkst.below (by omega) (by omega)) : Below w.heap.size w w16)
  have BA016 := Lib.hid (BA015.out.kept hkst (by omega))
  have BW16 := Lib.hid (BW15.out.kept hkst (by omega))
  have BX016 := Lib.hid (BX015.out.kept hkst (by omega))
  have BG16 := Lib.hid (BG15.out.kept hkst (by omega))
  have FW16 := Lib.hid (FW15.out.kept hkst (by omega))
  have FG16 := Lib.hid hf
  clear hk hkst hf
  clear Hb15 BA015 BW15 BX015 BG15 FW15 FG15
  clear A00 A01 A02 W0 W1 W2 X00 X01 X02 G0 G1 G2
  obtain ⟨A00, A01, A02, _⟩ := BA016.out
  obtain ⟨W0, W1, W2, _⟩ := BW16.out
  obtain ⟨X00, X01, X02, _⟩ := BX016.out
  obtain ⟨G0, G1, G2, _⟩ := BG16.out
  go_wp2_with fail
  refine (heldHill_any (w6.heap.size) (w7.heap.size) 1 rz.length rw rh aG capG _ (by exact FG16.out) hrl (by omega)).mono ?_
  rintro e w17 ⟨rfl, hb⟩
  have hs17 : w16.heap.size + 0 ≤ w17.heap.size := (by have := hb.size; simpa using this)
  have hst : Below w16.heap.size w16 w17 := (Below.refl _ _).trans (hb.mono (by first | (simp; done) | (simp; omega)))
  have Hb17 := Lib.hid (Hb16.out.trans (hst.mono (by omega)) : Below w.heap.size w w17)
  have BA017 := Lib.hid (BA016.out.below hst (by omega))
  have BW17 := Lib.hid (BW16.out.below hst (by omega))
  have BX017 := Lib.hid (BX016.out.below hst (by omega))
  have BG17 := Lib.hid (BG16.out.below hst (by omega))
  have FW17 := Lib.hid (FW16.out.below hst (by omega))
  have FG17 := Lib.hid (FG16.out.below hst (by omega))
  clear hb hst
  clear Hb16 BA016 BW16 BX016 BG16 FW16 FG16
  clear A00 A01 A02 W0 W1 W2 X00 X01 X02 G0 G1 G2
  obtain ⟨A00, A01, A02, _⟩ := BA017.out
  obtain ⟨W0, W1, W2, _⟩ := BW17.out
  obtain ⟨X00, X01, X02, _⟩ := BX017.out
  obtain ⟨G0, G1, G2, _⟩ := BG17.out
  go_wp2_with fail
  refine (toHill_any wd0 hg0 a0 cap0 zs0 _ (by exact (H0.out.below Hb17.out (Nat.le_refl _))) hl0).mono ?_
  rintro e w18 ⟨aHc0, capHc0, rfl, hb, hf⟩
  have hs18 : w17.heap.size + 0 ≤ w18.heap.size := (by have := hb.size; simpa using this)
  have hst : Below w17.heap.size w17 w18 := (Below.refl _ _).trans (hb.mono (by first | (simp; done) | (simp; omega)))
  have Hb18 := Lib.hid (Hb17.out.trans (hst.mono (by omega)) : Below w.heap.size w w18)
  have BA018 := Lib.hid (BA017.out.below hst (by omega))
  have BW18 := Lib.hid (BW17.out.below hst (by omega))
  have BX018 := Lib.hid (BX017.out.below hst (by omega))
  have BG18 := Lib.hid (BG17.out.below hst (by omega))
  have FW18 := Lib.hid (FW17.out.below hst (by omega))
  have FG18 := Lib.hid (FG17.out.below hst (by omega))
  have FHc018 := Lib.hid (hf.mono (lo' := w17.heap.size + 0) (by first | (simp; done) | (simp; omega)) (Nat.le_refl _) (Nat.le_refl _))
  clear hb hst hf
  clear Hb17 BA017 BW17 BX017 BG17 FW17 FG17
  clear A00 A01 A02 W0 W1 W2 X00 X01 X02 G0 G1 G2
  obtain ⟨A00, A01, A02, _⟩ := BA018.out
  obtain ⟨W0, W1, W2, _⟩ := BW18.out
  obtain ⟨X00, X01, X02, _⟩ := BX018.out
  obtain ⟨G0, G1, G2, _⟩ := BG18.out
  go_wp2_with fail
  refine (copyI_any a1 cap1 ls1 _ (by exact (H1.out.below Hb18.out (Nat.le_refl _))) hl1).mono ?_
  rintro e w19 ⟨aHc1, capHc1, rfl, hb, hf⟩
  have hs19 : w18.heap.size + 0 ≤ w19.heap.size := (by have := hb.size; simpa using this)
  have hst : Below w18.heap.size w18 w19 := (Below.refl _ _).trans (hb.mono (by first | (simp; done) | (simp; omega)))
  have Hb19 := Lib.hid (Hb18.out.trans (hst.mono (by omega)) : Below w.heap.size w w19)
  have BA019 := Lib.hid (BA018.out.below hst (by omega))
  have BW19 := Lib.hid (BW18.out.below hst (by omega))
  have BX019 := Lib.hid (BX018.out.below hst (by omega))
  have BG19 := Lib.hid (BG18.out.below hst (by omega))
  have FW19 := Lib.hid (FW18.out.below hst (by omega))
  have FG19 := Lib.hid (FG18.out.below hst (by omega))
  have FHc019 := Lib.hid (FHc018.out.below hst (by omega))
  have FHc119 := Lib.hid (hf.mono (lo' := w18.heap.size + 0) (by first | (simp; done) | (simp; omega)) (Nat.le_refl _) (Nat.le_refl _))
  clear hb hst hf
  clear Hb18 BA018 BW18 BX018 BG18 FW18 FG18 FHc018
  clear A00 A01 A02 W0 W1 W2 X00 X01 X02 G0 G1 G2
  obtain ⟨A00, A01, A02, _⟩ := BA019.out
  obtain ⟨W0, W1, W2, _⟩ := BW19.out
  obtain ⟨X00, X01, X02, _⟩ := BX019.out
  obtain ⟨G0, G1, G2, _⟩ := BG19.out
  go_wp2_with fail
  refine (HI.out aHc0 capHc0 aHc1 capHc1 _ (by exact FHc019.out.row) (by exact FHc119.out.row)).mono ?_
  rintro e w20 ⟨aH, capH, rfl, hb, hf⟩
  have hs20 : w19.heap.size + 0 ≤ w20.heap.size := (by have := hb.size; simpa using this)
  have hst : Below w19.heap.size w19 w20 := (Below.refl _ _).trans (hb.mono (by first | (simp; done) | (simp; omega)))
  have Hb20 := Lib.hid (Hb19.out.trans (hst.mono (by omega)) : Below w.heap.size w w20)
  have BA020 := Lib.hid (BA019.out.below hst (by omega))
  have BW20 := Lib.hid (BW19.out.below hst (by omega))
  have BX020 := Lib.hid (BX019.out.below hst (by omega))
  have BG20 := Lib.hid (BG19.out.below hst (by omega))
  have FW20 := Lib.hid (FW19.out.below hst (by omega))
  have FG20 := Lib.hid (FG19.out.below hst (by omega))
  have FHc020 := Lib.hid (FHc019.out.below hst (by omega))
  have FHc120 := Lib.hid (FHc119.out.below hst (by omega))
  have FH20 := Lib.hid (hf.mono (lo' := w19.heap.size + 0) (by first | (simp; done) | (simp; omega)) (Nat.le_refl _) (Nat.le_refl _))
  clear hb hst hf
  clear Hb19 BA019 BW19 BX019 BG19 FW19 FG19 FHc019 FHc119
  clear A00 A01 A02 W0 W1 W2 X00 X01 X02 G0 G1 G2
  obtain ⟨A00, A01, A02, _⟩ := BA020.out
  obtain ⟨W0, W1, W2, _⟩ := BW20.out
  obtain ⟨X00, X01, X02, _⟩ := BX020.out
  obtain ⟨G0, G1, G2, _⟩ := BG20.out
  go_wp2_with fail
  refine (eqHill_any rw rh aH aW capH capW rz _ (by exact (FH20.out.alloc _).row) (by exact (FW20.out.alloc _).row) hrl).mono ?_
  rintro e w21 ⟨rfl, hb⟩
  have hs21 : w20.heap.size + 1 ≤ w21.heap.size := (by have := hb.size; simpa using this)
  have hst : Below w20.heap.size w20 w21 := (below1 _ _).trans (hb.mono (by first | (simp; done) | (simp; omega)))
  have Hb21 := Lib.hid (Hb20.out.trans (hst.mono (by omega)) : Below w.heap.size w w21)
  have BA021 := Lib.hid (BA020.out.below hst (by omega))
  have BW21 := Lib.hid (BW20.out.below hst (by omega))
  have BX021 := Lib.hid (BX020.out.below hst (by omega))
  have BG21 := Lib.hid (BG20.out.below hst (by omega))
  have FW21 := Lib.hid (FW20.out.below hst (by omega))
  have FG21 := Lib.hid (FG20.out.below hst (by omega))
  have FH21 := Lib.hid (FH20.out.below hst (by omega))
  have BHh21 := Lib.hid (BoxH.below (BoxH.new w20 rw rh (.slice aH rz.length capH) 25) hb (by first | (simp; done) | (simp; omega)))
  clear hb hst
  clear Hb20 BA020 BW20 BX020 BG20 FW20 FG20 FH20
  clear A00 A01 A02 W0 W1 W2 X00 X01 X02 G0 G1 G2
  obtain ⟨A00, A01, A02, _⟩ := BA021.out
  obtain ⟨W0, W1, W2, _⟩ := BW21.out
  obtain ⟨X00, X01, X02, _⟩ := BX021.out
  obtain ⟨G0, G1, G2, _⟩ := BG21.out
  obtain ⟨Hh0, Hh1, Hh2, _⟩ := BHh21.out
  go_wp2_with fail
  refine (heldHill_any (w6.heap.size) (w7.heap.size) 1 rz.length rw rh aG capG _ (by exact FG21.out) hrl (by omega)).mono ?_
  rintro e w22 ⟨rfl, hb⟩
  have hs22 : w21.heap.size + 0 ≤ w22.heap.size := (by have := hb.size; simpa using this)
  have hst : Below w21.heap.size w21 w22 := (Below.refl _ _).trans (hb.mono (by first | (simp; done) | (simp; omega)))
  have Hb22 := Lib.hid (Hb21.out.trans (hst.mono (by omega)) : Below w.heap.size w w22)
  have BA022 := Lib.hid (BA021.out.below hst (by omega))
  have BW22 := Lib.hid (BW21.out.below hst (by omega))
  have BX022 := Lib.hid (BX021.out.below hst (by omega))
  have BG22 := Lib.hid (BG21.out.below hst (by omega))
  have BHh22 := Lib.hid (BHh21.out.below hst (by omega))
  have FW22 := Lib.hid (FW21.out.below hst (by omega))
  have FG22 := Lib.hid (FG21.out.below hst (by omega))
  have FH22 := Lib.hid (FH21.out.below hst (by omega))
  clear hb hst
  clear Hb21 BA021 BW21 BX021 BG21 BHh21 FW21 FG21 FH21
  clear A00 A01 A02 W0 W1 W2 X00 X01 X02 G0 G1 G2 Hh0 Hh1 Hh2
  obtain ⟨A00, A01, A02, _⟩ := BA022.out
  obtain ⟨W0, W1, W2, _⟩ := BW22.out
  obtain ⟨X00, X01, X02, _⟩ := BX022.out
  obtain ⟨G0, G1, G2, _⟩ := BG22.out
  obtain ⟨Hh0, Hh1, Hh2, _⟩ := BHh22.out
  go_wp2_with fail
  go_ret
  exact ⟨rfl, Hb22.out⟩

set_option maxHeartbeats 1000000 in
theorem walk_FnExactDigHill (wd0 hg0 : Int) (a0 : Option Addr) (len0 cap0 : Nat) (zs0 : List Nat) (a1 : Option Addr) (len1 cap1 : Nat) (ls1 : List Int) (x2 : Nat) (w : World) (_hw0 : (Lit.int .i64 wd0).wf = true) (_hh0 : (Lit.int .i64 hg0).wf = true) (h0 : IsRowF .f32 w a0 len0 cap0 zs0) (h1 : IsRowI w a1 len1 cap1 ls1) (hx2 : x2 < 4294967296) :
    Calls Try.prog 6 #[.agg #[.int .i64 wd0, .int .i64 hg0, .slice a0 len0 cap0], .slice a1 len1 cap1, .float .f32 x2] w fun e w' => e = .returned (.bool true) ∧ Below w.heap.size w w' := by
  obtain ⟨rfl, hcap0, hmax0, hr0, hz0⟩ := h0
  obtain ⟨rfl, hcap1, hmax1, hr1, hz1⟩ := h1
  by_cases hl1 : ls1.length ≤ 1048576
  case neg =>
    unfold maxLen at hmax1
    have hli : (1048576 : Int) < (ls1.length : Int) := by omega
    clear hr0 hz0 hr1 hz1 hx2
    go_enter Try.func6, Try.ntmps6
    go_wp2_with fail
    go_ret
    exact ⟨rfl, below1 _ _⟩
  by_cases hl0 : zs0.length ≤ 1048576
  · exact digHillLaw_fits wd0 hg0 a0 cap0 zs0 a1 cap1 ls1 x2 w hr0 hl0 hz0 hr1 hl1 hx2
  · unfold maxLen at hmax0
    clear hr0 hz0 hr1 hz1 hx2
    go_enter Try.func6, Try.ntmps6
    go_wp2_with fail
    refine (szHill_not wd0 hg0 a0 zs0.length cap0 _ (by omega) (by omega) (by omega) _).mono ?_
    rintro e w1 ⟨rfl, hb1⟩
    have Hb1 := Lib.hid ((below1 _ _).trans (hb1.mono (by simp)) : Below w.heap.size w w1)
    clear hb1
    go_wp2_with fail
    go_ret
    exact ⟨rfl, Hb1.out⟩
end Go.Proofs.Ytgnkpppbhibfoab
