/- The walk of the law on CutRecord. -/
import Derived.Test.YtdmcjloaommnpaaCutRS
import Derived.Test.YtdmcjloaommnpaaRcO
import Derived.Deep.RegionHeld3
import Derived.Deep.DeepCutAuto
import Derived.DataShut
namespace Go.Proofs.Ytdmcjloaommnpaa
open Go.RowKit

set_option maxRecDepth 100000 in
set_option maxHeartbeats 40000000 in
theorem cutRecordLaw_fits (s0 : ByteArray) (wd0 hg0 : Int) (a0 : Option Addr) (cap0 : Nat) (zs0 : List Nat) (n1 : Int) (n2 : Int) (w : World) (hr0 : RowF .f32 w a0 zs0) (hl0 : zs0.length ≤ 1048576) (hq0 : s0.size + zs0.length ≤ 1048576) (hz0 : ∀ z ∈ zs0, z < 4294967296) (hn1 : -9223372036854775808 ≤ n1) (hm1 : n1 ≤ 9223372036854775807) (hn2 : -9223372036854775808 ≤ n2) (hm2 : n2 ≤ 9223372036854775807) :
    Calls Try.prog 12 #[.agg #[.string s0, .int .i64 wd0, .int .i64 hg0, .slice a0 zs0.length cap0], .int .i64 n1, .int .i64 n2] w fun e w' => e = .returned (.bool true) ∧ Below w.heap.size w w' := by
  obtain ⟨⟨rs, rw, rh, rz, rok⟩, hR⟩ : ∃ R, resCutRecord s0 wd0 hg0 zs0 n1 n2 = R := ⟨_, rfl⟩
  have cS : ∀ (a0 : Option Addr) (cap0 : Nat) (W : World), RowF .f32 W a0 zs0 → zs0.length ≤ cap0 → Calls Try.prog 41 #[.agg #[.string s0, .int .i64 wd0, .int .i64 hg0, .slice a0 zs0.length cap0], .int .i64 n1, .int .i64 n2] W (RetHB rs rw rh rz rok W) := by
    intro a0 cap0 W h0' k0'
    have := cutRecord_spec s0 wd0 hg0 a0 cap0 zs0 n1 n2 W h0' hl0 hz0 (by omega) k0' hn1 hm1 hn2 hm2
    rw [hR] at this
    exact this
  have cI : ∀ (a0 : Option Addr) (cap0 : Nat) (W : World), RowF .f32 W a0 zs0 → zs0.length ≤ cap0 → Calls Try.prog 42 #[.agg #[.string s0, .int .i64 wd0, .int .i64 hg0, .slice a0 zs0.length cap0], .int .i64 n1, .int .i64 n2] W (RetHB rs rw rh rz rok W) := by
    intro a0 cap0 W h0' k0'
    have := cutRecord_impl s0 wd0 hg0 a0 cap0 zs0 n1 n2 W h0' hl0 hz0 (by omega) k0' hn1 hm1 hn2 hm2
    rw [hR] at this
    exact this
  have hrl : rz.length ≤ 1048576 := by have := resCutRecord_len s0 wd0 hg0 zs0 n1 n2; rw [hR] at this; exact this
  have HS := Lib.hid cS; have HI := Lib.hid cI
  clear cS cI hR
  have H0 := Lib.hid hr0
  clear hr0 hz0
  clear hn1 hm1
  clear hn2 hm2
  have Hb0 := Lib.hid (Below.refl w.heap.size w)
  go_enter Try.func12, Try.ntmps12
  go_wp2_with fail
  refine (szHill_fits s0 wd0 hg0 a0 zs0.length cap0 _ (by omega) (by omega) _).mono ?_
  rintro e w1 ⟨rfl, hb⟩
  have hs1 : w.heap.size + 1 ≤ w1.heap.size := (by have := hb.size; simpa using this)
  have hst : Below w.heap.size w w1 := (below1 _ _).trans (hb.mono (by first | (simp; done) | (simp; omega)))
  have Hb1 := Lib.hid (Hb0.out.trans (hst.mono (by omega)) : Below w.heap.size w w1)
  have BA01 := Lib.hid (BoxH.below (BoxH.new w s0 wd0 hg0 (.slice a0 zs0.length cap0) 46) hb (by first | (simp; done) | (simp; omega)))
  clear hb hst
  clear Hb0
  obtain ⟨A00, A01, A02, A03, _⟩ := BA01.out
  go_wp2_with fail
  refine (toHill_any s0 wd0 hg0 a0 cap0 zs0 _ (by exact (H0.out.below Hb1.out (Nat.le_refl _))) hl0).mono ?_
  rintro e w2 ⟨aWc0, capWc0, rfl, hb, hf⟩
  have hs2 : w1.heap.size + 0 ≤ w2.heap.size := (by have := hb.size; simpa using this)
  have hst : Below w1.heap.size w1 w2 := (Below.refl _ _).trans (hb.mono (by first | (simp; done) | (simp; omega)))
  have Hb2 := Lib.hid (Hb1.out.trans (hst.mono (by omega)) : Below w.heap.size w w2)
  have BA02 := Lib.hid (BA01.out.below hst (by omega))
  have FWc02 := Lib.hid (hf.mono (lo' := w1.heap.size + 0) (by first | (simp; done) | (simp; omega)) (Nat.le_refl _) (Nat.le_refl _))
  clear hb hst hf
  clear Hb1 BA01
  clear A00 A01 A02 A03
  obtain ⟨A00, A01, A02, A03, _⟩ := BA02.out
  go_wp2_with fail
  refine (HS.out aWc0 capWc0 _ (by exact FWc02.out.row) (FRowCap FWc02.out)).mono ?_
  rintro e w3 ⟨aW, capW, rfl, hb, hf⟩
  have hs3 : w2.heap.size + 0 ≤ w3.heap.size := (by have := hb.size; simpa using this)
  have hst : Below w2.heap.size w2 w3 := (Below.refl _ _).trans (hb.mono (by first | (simp; done) | (simp; omega)))
  have Hb3 := Lib.hid (Hb2.out.trans (hst.mono (by omega)) : Below w.heap.size w w3)
  have BA03 := Lib.hid (BA02.out.below hst (by omega))
  have FWc03 := Lib.hid (FWc02.out.below hst (by omega))
  have FW3 := Lib.hid (hf.mono (lo' := w2.heap.size + 0) (by first | (simp; done) | (simp; omega)) (Nat.le_refl _) (Nat.le_refl _))
  clear hb hst hf
  clear Hb2 BA02 FWc02
  clear A00 A01 A02 A03
  obtain ⟨A00, A01, A02, A03, _⟩ := BA03.out
  go_wp2_with fail
  refine (toHill_any s0 wd0 hg0 a0 cap0 zs0 _ (by exact ((H0.out.below Hb3.out (Nat.le_refl _)).below (below1 _ _) (Nat.le_refl _))) hl0).mono ?_
  rintro e w4 ⟨aX0, capX0, rfl, hb, hf⟩
  have hs4 : w3.heap.size + 1 ≤ w4.heap.size := (by have := hb.size; simpa using this)
  have hst : Below w3.heap.size w3 w4 := (below1 _ _).trans (hb.mono (by first | (simp; done) | (simp; omega)))
  have Hb4 := Lib.hid (Hb3.out.trans (hst.mono (by omega)) : Below w.heap.size w w4)
  have BA04 := Lib.hid (BA03.out.below hst (by omega))
  have FW4 := Lib.hid (FW3.out.below hst (by omega))
  have BW4 := Lib.hid (BoxH.below (BoxH.new w3 rs rw rh (.slice aW rz.length capW) 49) hb (by first | (simp; done) | (simp; omega)))
  have FX04 := Lib.hid (hf.mono (lo' := w3.heap.size + 1) (by first | (simp; done) | (simp; omega)) (Nat.le_refl _) (Nat.le_refl _))
  clear hb hst hf
  clear Hb3 BA03 FW3
  clear A00 A01 A02 A03
  obtain ⟨A00, A01, A02, A03, _⟩ := BA04.out
  obtain ⟨W0, W1, W2, W3, _⟩ := BW4.out
  go_wp2_with fail
  refine (HI.out aX0 capX0 _ (by exact (FX04.out.alloc _).row) (FRowCap FX04.out)).mono ?_
  rintro e w5 ⟨aG, capG, rfl, hb, hf⟩
  have hs5 : w4.heap.size + 1 ≤ w5.heap.size := (by have := hb.size; simpa using this)
  have hst : Below w4.heap.size w4 w5 := (below1 _ _).trans (hb.mono (by first | (simp; done) | (simp; omega)))
  have Hb5 := Lib.hid (Hb4.out.trans (hst.mono (by omega)) : Below w.heap.size w w5)
  have BA05 := Lib.hid (BA04.out.below hst (by omega))
  have BW5 := Lib.hid (BW4.out.below hst (by omega))
  have FW5 := Lib.hid (FW4.out.below hst (by omega))
  have FX05 := Lib.hid (FX04.out.below hst (by omega))
  have BX05 := Lib.hid (BoxH.below (BoxH.new w4 s0 wd0 hg0 (.slice aX0 zs0.length capX0) 49) hb (by first | (simp; done) | (simp; omega)))
  have FG5 := Lib.hid (hf.mono (lo' := w4.heap.size + 1) (by first | (simp; done) | (simp; omega)) (Nat.le_refl _) (Nat.le_refl _))
  clear hb hst hf
  clear Hb4 BA04 BW4 FW4 FX04
  clear A00 A01 A02 A03 W0 W1 W2 W3
  obtain ⟨A00, A01, A02, A03, _⟩ := BA05.out
  obtain ⟨W0, W1, W2, W3, _⟩ := BW5.out
  obtain ⟨X00, X01, X02, X03, _⟩ := BX05.out
  go_wp2_with fail
  refine (eqHill_any rs rw rh aG aW capG capW rz _ (by exact (FG5.out.alloc _).row) (by exact (FW5.out.alloc _).row) hrl).mono ?_
  rintro e w6 ⟨rfl, hb⟩
  have hs6 : w5.heap.size + 1 ≤ w6.heap.size := (by have := hb.size; simpa using this)
  have hst : Below w5.heap.size w5 w6 := (below1 _ _).trans (hb.mono (by first | (simp; done) | (simp; omega)))
  have Hb6 := Lib.hid (Hb5.out.trans (hst.mono (by omega)) : Below w.heap.size w w6)
  have BA06 := Lib.hid (BA05.out.below hst (by omega))
  have BW6 := Lib.hid (BW5.out.below hst (by omega))
  have BX06 := Lib.hid (BX05.out.below hst (by omega))
  have FW6 := Lib.hid (FW5.out.below hst (by omega))
  have FX06 := Lib.hid (FX05.out.below hst (by omega))
  have FG6 := Lib.hid (FG5.out.below hst (by omega))
  have BG6 := Lib.hid (BoxH.below (BoxH.new w5 rs rw rh (.slice aG rz.length capG) 49) hb (by first | (simp; done) | (simp; omega)))
  clear hb hst
  clear Hb5 BA05 BW5 BX05 FW5 FX05 FG5
  clear A00 A01 A02 A03 W0 W1 W2 W3 X00 X01 X02 X03
  obtain ⟨A00, A01, A02, A03, _⟩ := BA06.out
  obtain ⟨W0, W1, W2, W3, _⟩ := BW6.out
  obtain ⟨X00, X01, X02, X03, _⟩ := BX06.out
  obtain ⟨G0, G1, G2, G3, _⟩ := BG6.out
  go_wp2_with fail
  go_region_held3 (fun w' => w'.cell? ⟨w4.heap.size, 0, none⟩ = some (.string s0) ∧ w'.cell? ⟨w4.heap.size, 1, none⟩ = some (.int .i64 wd0) ∧ w'.cell? ⟨w4.heap.size, 2, none⟩ = some (.int .i64 hg0) ∧ w'.cell? ⟨w4.heap.size, 3, none⟩ = some (.slice aX0 zs0.length capX0) ∧ w'.cell? ⟨w.heap.size, 0, none⟩ = some (.string s0) ∧ w'.cell? ⟨w.heap.size, 1, none⟩ = some (.int .i64 wd0) ∧ w'.cell? ⟨w.heap.size, 2, none⟩ = some (.int .i64 hg0) ∧ w'.cell? ⟨w.heap.size, 3, none⟩ = some (.slice a0 zs0.length cap0))
    (first | with_reducible exact ⟨BoxH.c0 (BX08.out), BoxH.c1 (BX08.out), BoxH.c2 (BX08.out), BoxH.c3 (BX08.out), BoxH.c0 (BA08.out), BoxH.c1 (BA08.out), BoxH.c2 (BA08.out), BoxH.c3 (BA08.out)⟩ | with_reducible exact ⟨BoxH.c0 (BX07.out), BoxH.c1 (BX07.out), BoxH.c2 (BX07.out), BoxH.c3 (BX07.out), BoxH.c0 (BA07.out), BoxH.c1 (BA07.out), BoxH.c2 (BA07.out), BoxH.c3 (BA07.out)⟩ | with_reducible exact ⟨BoxH.c0 (BX06.out), BoxH.c1 (BX06.out), BoxH.c2 (BX06.out), BoxH.c3 (BX06.out), BoxH.c0 (BA06.out), BoxH.c1 (BA06.out), BoxH.c2 (BA06.out), BoxH.c3 (BA06.out)⟩ | with_reducible exact ⟨BoxH.c0 (BoxH.drew BX06.out), BoxH.c1 (BoxH.drew BX06.out), BoxH.c2 (BoxH.drew BX06.out), BoxH.c3 (BoxH.drew BX06.out), BoxH.c0 (BoxH.drew BA06.out), BoxH.c1 (BoxH.drew BA06.out), BoxH.c2 (BoxH.drew BA06.out), BoxH.c3 (BoxH.drew BA06.out)⟩)
    (first | (go_at_call 38; refine (toHill_any s0 wd0 hg0 a0 cap0 zs0 _ (by exact (H0.out.below Hb6.out.drew (Nat.le_refl _))) hl0).mono ?_; rintro e w7 ⟨aX0c, capX0c, rfl, hb, hf⟩; have hs7 : w6.heap.size ≤ w7.heap.size := hb.size; have hst : Below w6.heap.size w6 w7 := ((below_drewN (Below.refl _ _) 1).trans (by exact hb)); have Hb7 := Lib.hid (Hb6.out.trans (hst.mono (by omega)) : Below w.heap.size w w7); have BA07 := Lib.hid (BA06.out.below hst (by omega)); have BW7 := Lib.hid (BW6.out.below hst (by omega)); have BX07 := Lib.hid (BX06.out.below hst (by omega)); have BG7 := Lib.hid (BG6.out.below hst (by omega)); have FW7 := Lib.hid (FW6.out.below hst (by omega)); have FX07 := Lib.hid (FX06.out.below hst (by omega)); have FG7 := Lib.hid (FG6.out.below hst (by omega)); have FX0c7 := Lib.hid hf; clear hb hst hf) | (go_at_call 40; refine (eqHill_any s0 wd0 hg0 aX0 aX0c capX0 capX0c zs0 _ (by exact FX07.out.row) (by exact FX0c7.out.row) hl0).mono ?_; rintro e w8 ⟨rfl, hb⟩; have hs8 : w7.heap.size + 0 ≤ w8.heap.size := (by have := hb.size; simpa using this); have hst : Below w7.heap.size w7 w8 := (Below.refl _ _).trans (hb.mono (by first | (simp; done) | (simp; omega))); have Hb8 := Lib.hid (Hb7.out.trans (hst.mono (by omega)) : Below w.heap.size w w8); have BA08 := Lib.hid (BA07.out.below hst (by omega)); have BW8 := Lib.hid (BW7.out.below hst (by omega)); have BX08 := Lib.hid (BX07.out.below hst (by omega)); have BG8 := Lib.hid (BG7.out.below hst (by omega)); have FW8 := Lib.hid (FW7.out.below hst (by omega)); have FX08 := Lib.hid (FX07.out.below hst (by omega)); have FG8 := Lib.hid (FG7.out.below hst (by omega)); have FX0c8 := Lib.hid (FX0c7.out.below hst (by omega)); clear hb hst))
  clear A00 A01 A02 A03 W0 W1 W2 W3 X00 X01 X02 X03 G0 G1 G2 G3
  obtain ⟨A00, A01, A02, A03, _⟩ := BA08.out
  obtain ⟨W0, W1, W2, W3, _⟩ := BW8.out
  obtain ⟨X00, X01, X02, X03, _⟩ := BX08.out
  obtain ⟨G0, G1, G2, G3, _⟩ := BG8.out
  go_wp2_with fail
  refine (markHill_any (w3.heap.size + 1) (w4.heap.size) 1 s0 wd0 hg0 aX0 capX0 zs0 _ (by exact FX08.out) hl0 (by omega)).mono ?_
  rintro e w9 ⟨rfl, hf, hk⟩
  have hs9 : w8.heap.size + 0 ≤ w9.heap.size := (by have := hk.size; simpa using this)
  have hkst : Kept (w3.heap.size + 1) (w4.heap.size) w8 w9 := (Kept.of_below (Below.refl _ _) (Nat.le_refl _)).trans hk
  have Hb9 := Lib.hid (Hb8.out.trans (hkst.below (by omega) (by omega)) : Below w.heap.size w w9)
  have BA09 := Lib.hid (BA08.out.kept hkst (by omega))
  have BW9 := Lib.hid (BW8.out.kept hkst (by omega))
  have BX09 := Lib.hid (BX08.out.kept hkst (by omega))
  have BG9 := Lib.hid (BG8.out.kept hkst (by omega))
  have FW9 := Lib.hid (FW8.out.kept hkst (by omega))
  have FX09 := Lib.hid hf
  have FG9 := Lib.hid (FG8.out.kept hkst (by omega))
  clear hk hkst hf
  clear Hb8 BA08 BW8 BX08 BG8 FW8 FX08 FG8
  clear A00 A01 A02 A03 W0 W1 W2 W3 X00 X01 X02 X03 G0 G1 G2 G3
  obtain ⟨A00, A01, A02, A03, _⟩ := BA09.out
  obtain ⟨W0, W1, W2, W3, _⟩ := BW9.out
  obtain ⟨X00, X01, X02, X03, _⟩ := BX09.out
  obtain ⟨G0, G1, G2, G3, _⟩ := BG9.out
  go_wp2_with fail
  refine (eqHill_any rs rw rh aG aW capG capW rz _ (by exact FG9.out.row) (by exact FW9.out.row) hrl).mono ?_
  rintro e w10 ⟨rfl, hb⟩
  have hs10 : w9.heap.size + 0 ≤ w10.heap.size := (by have := hb.size; simpa using this)
  have hst : Below w9.heap.size w9 w10 := (Below.refl _ _).trans (hb.mono (by first | (simp; done) | (simp; omega)))
  have Hb10 := Lib.hid (Hb9.out.trans (hst.mono (by omega)) : Below w.heap.size w w10)
  have BA010 := Lib.hid (BA09.out.below hst (by omega))
  have BW10 := Lib.hid (BW9.out.below hst (by omega))
  have BX010 := Lib.hid (BX09.out.below hst (by omega))
  have BG10 := Lib.hid (BG9.out.below hst (by omega))
  have FW10 := Lib.hid (FW9.out.below hst (by omega))
  have FG10 := Lib.hid (FG9.out.below hst (by omega))
  clear hb hst
  clear Hb9 BA09 BW9 BX09 BG9 FW9 FG9
  clear A00 A01 A02 A03 W0 W1 W2 W3 X00 X01 X02 X03 G0 G1 G2 G3
  obtain ⟨A00, A01, A02, A03, _⟩ := BA010.out
  obtain ⟨W0, W1, W2, W3, _⟩ := BW10.out
  obtain ⟨X00, X01, X02, X03, _⟩ := BX010.out
  obtain ⟨G0, G1, G2, G3, _⟩ := BG10.out
  go_wp2_with fail
  refine (markHill_any (w4.heap.size + 1) (w5.heap.size) 1 rs rw rh aG capG rz _ (by exact FG10.out) hrl (by omega)).mono ?_
  rintro e w11 ⟨rfl, hf, hk⟩
  have hs11 : w10.heap.size + 0 ≤ w11.heap.size := (by have := hk.size; simpa using this)
  have hkst : Kept (w4.heap.size + 1) (w5.heap.size) w10 w11 := (Kept.of_below (Below.refl _ _) (Nat.le_refl _)).trans hk
  have Hb11 := Lib.hid (Hb10.out.trans (hkst.below (by omega) (by omega)) : Below w.heap.size w w11)
  have BA011 := Lib.hid (BA010.out.kept hkst (by omega))
  have BW11 := Lib.hid (BW10.out.kept hkst (by omega))
  have BX011 := Lib.hid (BX010.out.kept hkst (by omega))
  have BG11 := Lib.hid (BG10.out.kept hkst (by omega))
  have FW11 := Lib.hid (FW10.out.kept hkst (by omega))
  have FG11 := Lib.hid hf
  clear hk hkst hf
  clear Hb10 BA010 BW10 BX010 BG10 FW10 FG10
  clear A00 A01 A02 A03 W0 W1 W2 W3 X00 X01 X02 X03 G0 G1 G2 G3
  obtain ⟨A00, A01, A02, A03, _⟩ := BA011.out
  obtain ⟨W0, W1, W2, W3, _⟩ := BW11.out
  obtain ⟨X00, X01, X02, X03, _⟩ := BX011.out
  obtain ⟨G0, G1, G2, G3, _⟩ := BG11.out
  go_wp2_with fail
  refine (heldHill_any (w4.heap.size + 1) (w5.heap.size) 1 rz.length rs rw rh aG capG _ (by exact FG11.out) hrl (by omega)).mono ?_
  rintro e w12 ⟨rfl, hb⟩
  have hs12 : w11.heap.size + 0 ≤ w12.heap.size := (by have := hb.size; simpa using this)
  have hst : Below w11.heap.size w11 w12 := (Below.refl _ _).trans (hb.mono (by first | (simp; done) | (simp; omega)))
  have Hb12 := Lib.hid (Hb11.out.trans (hst.mono (by omega)) : Below w.heap.size w w12)
  have BA012 := Lib.hid (BA011.out.below hst (by omega))
  have BW12 := Lib.hid (BW11.out.below hst (by omega))
  have BX012 := Lib.hid (BX011.out.below hst (by omega))
  have BG12 := Lib.hid (BG11.out.below hst (by omega))
  have FW12 := Lib.hid (FW11.out.below hst (by omega))
  have FG12 := Lib.hid (FG11.out.below hst (by omega))
  clear hb hst
  clear Hb11 BA011 BW11 BX011 BG11 FW11 FG11
  clear A00 A01 A02 A03 W0 W1 W2 W3 X00 X01 X02 X03 G0 G1 G2 G3
  obtain ⟨A00, A01, A02, A03, _⟩ := BA012.out
  obtain ⟨W0, W1, W2, W3, _⟩ := BW12.out
  obtain ⟨X00, X01, X02, X03, _⟩ := BX012.out
  obtain ⟨G0, G1, G2, G3, _⟩ := BG12.out
  go_wp2_with fail
  refine (toHill_any s0 wd0 hg0 a0 cap0 zs0 _ (by exact (H0.out.below Hb12.out (Nat.le_refl _))) hl0).mono ?_
  rintro e w13 ⟨aHc0, capHc0, rfl, hb, hf⟩
  have hs13 : w12.heap.size + 0 ≤ w13.heap.size := (by have := hb.size; simpa using this)
  have hst : Below w12.heap.size w12 w13 := (Below.refl _ _).trans (hb.mono (by first | (simp; done) | (simp; omega)))
  have Hb13 := Lib.hid (Hb12.out.trans (hst.mono (by omega)) : Below w.heap.size w w13)
  have BA013 := Lib.hid (BA012.out.below hst (by omega))
  have BW13 := Lib.hid (BW12.out.below hst (by omega))
  have BX013 := Lib.hid (BX012.out.below hst (by omega))
  have BG13 := Lib.hid (BG12.out.below hst (by omega))
  have FW13 := Lib.hid (FW12.out.below hst (by omega))
  have FG13 := Lib.hid (FG12.out.below hst (by omega))
  have FHc013 := Lib.hid (hf.mono (lo' := w12.heap.size + 0) (by first | (simp; done) | (simp; omega)) (Nat.le_refl _) (Nat.le_refl _))
  clear hb hst hf
  clear Hb12 BA012 BW12 BX012 BG12 FW12 FG12
  clear A00 A01 A02 A03 W0 W1 W2 W3 X00 X01 X02 X03 G0 G1 G2 G3
  obtain ⟨A00, A01, A02, A03, _⟩ := BA013.out
  obtain ⟨W0, W1, W2, W3, _⟩ := BW13.out
  obtain ⟨X00, X01, X02, X03, _⟩ := BX013.out
  obtain ⟨G0, G1, G2, G3, _⟩ := BG13.out
  go_wp2_with fail
  refine (HI.out aHc0 capHc0 _ (by exact FHc013.out.row) (FRowCap FHc013.out)).mono ?_
  rintro e w14 ⟨aH, capH, rfl, hb, hf⟩
  have hs14 : w13.heap.size + 0 ≤ w14.heap.size := (by have := hb.size; simpa using this)
  have hst : Below w13.heap.size w13 w14 := (Below.refl _ _).trans (hb.mono (by first | (simp; done) | (simp; omega)))
  have Hb14 := Lib.hid (Hb13.out.trans (hst.mono (by omega)) : Below w.heap.size w w14)
  have BA014 := Lib.hid (BA013.out.below hst (by omega))
  have BW14 := Lib.hid (BW13.out.below hst (by omega))
  have BX014 := Lib.hid (BX013.out.below hst (by omega))
  have BG14 := Lib.hid (BG13.out.below hst (by omega))
  have FW14 := Lib.hid (FW13.out.below hst (by omega))
  have FG14 := Lib.hid (FG13.out.below hst (by omega))
  have FHc014 := Lib.hid (FHc013.out.below hst (by omega))
  have FH14 := Lib.hid (hf.mono (lo' := w13.heap.size + 0) (by first | (simp; done) | (simp; omega)) (Nat.le_refl _) (Nat.le_refl _))
  clear hb hst hf
  clear Hb13 BA013 BW13 BX013 BG13 FW13 FG13 FHc013
  clear A00 A01 A02 A03 W0 W1 W2 W3 X00 X01 X02 X03 G0 G1 G2 G3
  obtain ⟨A00, A01, A02, A03, _⟩ := BA014.out
  obtain ⟨W0, W1, W2, W3, _⟩ := BW14.out
  obtain ⟨X00, X01, X02, X03, _⟩ := BX014.out
  obtain ⟨G0, G1, G2, G3, _⟩ := BG14.out
  go_wp2_with fail
  refine (eqHill_any rs rw rh aH aW capH capW rz _ (by exact (FH14.out.alloc _).row) (by exact (FW14.out.alloc _).row) hrl).mono ?_
  rintro e w15 ⟨rfl, hb⟩
  have hs15 : w14.heap.size + 1 ≤ w15.heap.size := (by have := hb.size; simpa using this)
  have hst : Below w14.heap.size w14 w15 := (below1 _ _).trans (hb.mono (by first | (simp; done) | (simp; omega)))
  have Hb15 := Lib.hid (Hb14.out.trans (hst.mono (by omega)) : Below w.heap.size w w15)
  have BA015 := Lib.hid (BA014.out.below hst (by omega))
  have BW15 := Lib.hid (BW14.out.below hst (by omega))
  have BX015 := Lib.hid (BX014.out.below hst (by omega))
  have BG15 := Lib.hid (BG14.out.below hst (by omega))
  have FW15 := Lib.hid (FW14.out.below hst (by omega))
  have FG15 := Lib.hid (FG14.out.below hst (by omega))
  have FH15 := Lib.hid (FH14.out.below hst (by omega))
  have BHh15 := Lib.hid (BoxH.below (BoxH.new w14 rs rw rh (.slice aH rz.length capH) 49) hb (by first | (simp; done) | (simp; omega)))
  clear hb hst
  clear Hb14 BA014 BW14 BX014 BG14 FW14 FG14 FH14
  clear A00 A01 A02 A03 W0 W1 W2 W3 X00 X01 X02 X03 G0 G1 G2 G3
  obtain ⟨A00, A01, A02, A03, _⟩ := BA015.out
  obtain ⟨W0, W1, W2, W3, _⟩ := BW15.out
  obtain ⟨X00, X01, X02, X03, _⟩ := BX015.out
  obtain ⟨G0, G1, G2, G3, _⟩ := BG15.out
  obtain ⟨Hh0, Hh1, Hh2, Hh3, _⟩ := BHh15.out
  go_wp2_with fail
  refine (heldHill_any (w4.heap.size + 1) (w5.heap.size) 1 rz.length rs rw rh aG capG _ (by exact FG15.out) hrl (by omega)).mono ?_
  rintro e w16 ⟨rfl, hb⟩
  have hs16 : w15.heap.size + 0 ≤ w16.heap.size := (by have := hb.size; simpa using this)
  have hst : Below w15.heap.size w15 w16 := (Below.refl _ _).trans (hb.mono (by first | (simp; done) | (simp; omega)))
  have Hb16 := Lib.hid (Hb15.out.trans (hst.mono (by omega)) : Below w.heap.size w w16)
  have BA016 := Lib.hid (BA015.out.below hst (by omega))
  have BW16 := Lib.hid (BW15.out.below hst (by omega))
  have BX016 := Lib.hid (BX015.out.below hst (by omega))
  have BG16 := Lib.hid (BG15.out.below hst (by omega))
  have BHh16 := Lib.hid (BHh15.out.below hst (by omega))
  have FW16 := Lib.hid (FW15.out.below hst (by omega))
  have FG16 := Lib.hid (FG15.out.below hst (by omega))
  have FH16 := Lib.hid (FH15.out.below hst (by omega))
  clear hb hst
  clear Hb15 BA015 BW15 BX015 BG15 BHh15 FW15 FG15 FH15
  clear A00 A01 A02 A03 W0 W1 W2 W3 X00 X01 X02 X03 G0 G1 G2 G3 Hh0 Hh1 Hh2 Hh3
  obtain ⟨A00, A01, A02, A03, _⟩ := BA016.out
  obtain ⟨W0, W1, W2, W3, _⟩ := BW16.out
  obtain ⟨X00, X01, X02, X03, _⟩ := BX016.out
  obtain ⟨G0, G1, G2, G3, _⟩ := BG16.out
  obtain ⟨Hh0, Hh1, Hh2, Hh3, _⟩ := BHh16.out
  go_wp2_with fail
  go_ret
  exact ⟨rfl, Hb16.out⟩

set_option maxHeartbeats 1000000 in
theorem walk_FnExactCutRecord (s0 : ByteArray) (wd0 hg0 : Int) (a0 : Option Addr) (len0 cap0 : Nat) (zs0 : List Nat) (n1 : Int) (n2 : Int) (w : World) (_hn0 : s0.size ≤ maxLen) (_hw0 : (Lit.int .i64 wd0).wf = true) (_hh0 : (Lit.int .i64 hg0).wf = true) (h0 : IsRowF .f32 w a0 len0 cap0 zs0) (hwn1 : (Lit.int .i64 n1).wf = true) (hwn2 : (Lit.int .i64 n2).wf = true) :
    Calls Try.prog 12 #[.agg #[.string s0, .int .i64 wd0, .int .i64 hg0, .slice a0 len0 cap0], .int .i64 n1, .int .i64 n2] w fun e w' => e = .returned (.bool true) ∧ Below w.heap.size w w' := by
  obtain ⟨rfl, hcap0, hmax0, hr0, hz0⟩ := h0
  have hn1 : -9223372036854775808 ≤ n1 ∧ n1 ≤ 9223372036854775807 := by have h9 := (Lit.wf_int_iff .i64 _).1 hwn1; have e1 : IntKind.min .i64 = -9223372036854775808 := (by decide +kernel); have e2 : IntKind.max .i64 = 9223372036854775807 := (by decide +kernel); omega
  have hn2 : -9223372036854775808 ≤ n2 ∧ n2 ≤ 9223372036854775807 := by have h9 := (Lit.wf_int_iff .i64 _).1 hwn2; have e1 : IntKind.min .i64 = -9223372036854775808 := (by decide +kernel); have e2 : IntKind.max .i64 = 9223372036854775807 := (by decide +kernel); omega
  by_cases hq0 : s0.size + zs0.length ≤ 1048576
  · have hl0 : zs0.length ≤ 1048576 := by omega
    exact cutRecordLaw_fits s0 wd0 hg0 a0 cap0 zs0 n1 n2 w hr0 hl0 hq0 hz0 hn1.1 hn1.2 hn2.1 hn2.2
  · unfold maxLen at hmax0 _hn0
    clear hr0 hz0 hn1 hwn1 hn2 hwn2
    go_enter Try.func12, Try.ntmps12
    go_wp2_with fail
    refine (szHill_not s0 wd0 hg0 a0 zs0.length cap0 _ (by omega) (by omega) (by omega) (by omega) (by omega) _).mono ?_
    rintro e w1 ⟨rfl, hb1⟩
    have Hb1 := Lib.hid ((below1 _ _).trans (hb1.mono (by simp)) : Below w.heap.size w w1)
    clear hb1
    go_wp2_with fail
    go_ret
    exact ⟨rfl, Hb1.out⟩
end Go.Proofs.Ytdmcjloaommnpaa

