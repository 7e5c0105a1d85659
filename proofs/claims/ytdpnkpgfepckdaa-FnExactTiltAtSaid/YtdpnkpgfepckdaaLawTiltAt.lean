/- The walk of the law on TiltAt. -/
import Derived.Test.YtdpnkpgfepckdaaTiltI
import Derived.Test.YtdpnkpgfepckdaaTiltT
import Derived.Test.YtdpnkpgfepckdaaNarrow
import Derived.Deep.RegionHeld3
import Derived.Deep.DeepCutAuto
import Derived.DataShut
namespace Go.Proofs.Ytdpnkpgfepckdaa
open Go.RowKit

theorem FRowCap {w : World} {lo hi cap : Nat} {a : Option Addr} {zs : List Nat} (h : FRow w lo hi (.slice a zs.length cap) zs) : zs.length ≤ cap := by
  rcases h.1.2 with ⟨h1, h2⟩ | ⟨g, c, cur, h1, _, _, h2, _⟩
  · rw [h2]; exact Nat.zero_le _
  · injection h1 with _ _ h3; rw [h3]; exact h2
set_option maxRecDepth 100000 in
set_option maxHeartbeats 40000000 in
theorem tiltAtLaw_fits (wd0 hg0 : Int) (a0 : Option Addr) (cap0 : Nat) (zs0 : List Nat) (n1 : Int) (w : World) (hr0 : RowF .f32 w a0 zs0) (hl0 : zs0.length ≤ 1048576) (hz0 : ∀ z ∈ zs0, z < 4294967296) (hn1 : -9223372036854775808 ≤ n1) (hm1 : n1 ≤ 9223372036854775807) :
    Calls Try.prog 5 #[.agg #[.int .i64 wd0, .int .i64 hg0, .slice a0 zs0.length cap0], .int .i64 n1] w fun e w' => e = .returned (.bool true) ∧ Below w.heap.size w w' := by
  obtain ⟨⟨RX, RY, rok⟩, hR⟩ : ∃ r, resTiltAt wd0 hg0 zs0 n1 = r := ⟨_, rfl⟩
  have cS : ∀ (a0 : Option Addr) (cap0 : Nat) (W : World), RowF .f32 W a0 zs0 → zs0.length ≤ cap0 → Calls Try.prog 21 #[.agg #[.int .i64 wd0, .int .i64 hg0, .slice a0 zs0.length cap0], .int .i64 n1] W ((fun W => fun e w' => ∃ r1 r2, e = .returned (.tuple #[.complex .f32 r1 r2, .bool rok]) ∧ Is32 RX r1 ∧ Is32 RY r2 ∧ Below W.heap.size W w') W) := by
    intro a0 cap0 W h0' k0'
    have := tiltAt_spec wd0 hg0 a0 cap0 zs0 n1 W h0' hl0 hz0 hn1 hm1
    rw [hR] at this
    exact this
  have cI : ∀ (a0 : Option Addr) (cap0 : Nat) (W : World), RowF .f32 W a0 zs0 → zs0.length ≤ cap0 → Calls Try.prog 23 #[.agg #[.int .i64 wd0, .int .i64 hg0, .slice a0 zs0.length cap0], .int .i64 n1] W ((fun W => fun e w' => ∃ r1 r2, e = .returned (.tuple #[.complex .f32 r1 r2, .bool rok]) ∧ Is32 RX r1 ∧ Is32 RY r2 ∧ Below W.heap.size W w') W) := by
    intro a0 cap0 W h0' k0'
    have := tiltAt_impl wd0 hg0 a0 cap0 zs0 n1 W h0' hl0 k0' hz0 hn1 hm1
    rw [hR] at this
    exact this
  have HS := Lib.hid cS; have HI := Lib.hid cI
  clear cS cI hR
  have H0 := Lib.hid hr0
  clear hr0 hz0
  clear hn1 hm1
  have Hb0 := Lib.hid (Below.refl w.heap.size w)
  go_enter Try.func5, Try.ntmps5
  go_wp2_with fail
  refine (szHill_fits wd0 hg0 a0 zs0.length cap0 _ (by omega) (by omega) _).mono ?_
  rintro e w1 ⟨rfl, hb⟩
  have hs1 : w.heap.size + 1 ≤ w1.heap.size := (by have := hb.size; simpa using this)
  have hst : Below w.heap.size w w1 := (below1 _ _).trans (hb.mono (by first | (simp; done) | (simp; omega)))
  have Hb1 := Lib.hid (Hb0.out.trans (hst.mono (by omega)) : Below w.heap.size w w1)
  have BA01 := Lib.hid (BoxH.below (BoxH.new w wd0 hg0 (.slice a0 zs0.length cap0) 39) hb (by first | (simp; done) | (simp; omega)))
  clear hb hst
  clear Hb0
  obtain ⟨A00, A01, A02, _⟩ := BA01.out
  go_wp2_with fail
  refine (toHill_any wd0 hg0 a0 cap0 zs0 _ (by exact (H0.out.below Hb1.out (Nat.le_refl _))) hl0).mono ?_
  rintro e w2 ⟨aWc0, capWc0, rfl, hb, hf⟩
  have hs2 : w1.heap.size + 0 ≤ w2.heap.size := (by have := hb.size; simpa using this)
  have hst : Below w1.heap.size w1 w2 := (Below.refl _ _).trans (hb.mono (by first | (simp; done) | (simp; omega)))
  have Hb2 := Lib.hid (Hb1.out.trans (hst.mono (by omega)) : Below w.heap.size w w2)
  have BA02 := Lib.hid (BA01.out.below hst (by omega))
  have FWc02 := Lib.hid (hf.mono (lo' := w1.heap.size + 0) (by first | (simp; done) | (simp; omega)) (Nat.le_refl _) (Nat.le_refl _))
  clear hb hst hf
  clear Hb1 BA01
  clear A00 A01 A02
  obtain ⟨A00, A01, A02, _⟩ := BA02.out
  go_wp2_with fail
  refine (HS.out aWc0 capWc0 _ (by exact FWc02.out.row) (FRowCap FWc02.out)).mono ?_
  rintro e w3 ⟨W1, W2, rfl, h1W, h2W, hb⟩
  have H1W := Lib.hid h1W
  have H2W := Lib.hid h2W
  clear h1W h2W
  have hs3 : w2.heap.size + 0 ≤ w3.heap.size := (by have := hb.size; simpa using this)
  have hst : Below w2.heap.size w2 w3 := (Below.refl _ _).trans (hb.mono (by first | (simp; done) | (simp; omega)))
  have Hb3 := Lib.hid (Hb2.out.trans (hst.mono (by omega)) : Below w.heap.size w w3)
  have BA03 := Lib.hid (BA02.out.below hst (by omega))
  have FWc03 := Lib.hid (FWc02.out.below hst (by omega))
  clear hb hst
  clear Hb2 BA02 FWc02
  clear A00 A01 A02
  obtain ⟨A00, A01, A02, _⟩ := BA03.out
  go_wp2_with fail
  refine (toHill_any wd0 hg0 a0 cap0 zs0 _ (by exact (H0.out.below Hb3.out (Nat.le_refl _))) hl0).mono ?_
  rintro e w4 ⟨aX0, capX0, rfl, hb, hf⟩
  have hs4 : w3.heap.size + 0 ≤ w4.heap.size := (by have := hb.size; simpa using this)
  have hst : Below w3.heap.size w3 w4 := (Below.refl _ _).trans (hb.mono (by first | (simp; done) | (simp; omega)))
  have Hb4 := Lib.hid (Hb3.out.trans (hst.mono (by omega)) : Below w.heap.size w w4)
  have BA04 := Lib.hid (BA03.out.below hst (by omega))
  have FX04 := Lib.hid (hf.mono (lo' := w3.heap.size + 0) (by first | (simp; done) | (simp; omega)) (Nat.le_refl _) (Nat.le_refl _))
  clear hb hst hf
  clear Hb3 BA03
  clear A00 A01 A02
  obtain ⟨A00, A01, A02, _⟩ := BA04.out
  go_wp2_with fail
  refine (HI.out aX0 capX0 _ (by exact (FX04.out.alloc _).row) (FRowCap FX04.out)).mono ?_
  rintro e w5 ⟨G1, G2, rfl, h1G, h2G, hb⟩
  have H1G := Lib.hid h1G
  have H2G := Lib.hid h2G
  clear h1G h2G
  have hs5 : w4.heap.size + 1 ≤ w5.heap.size := (by have := hb.size; simpa using this)
  have hst : Below w4.heap.size w4 w5 := (below1 _ _).trans (hb.mono (by first | (simp; done) | (simp; omega)))
  have Hb5 := Lib.hid (Hb4.out.trans (hst.mono (by omega)) : Below w.heap.size w w5)
  have BA05 := Lib.hid (BA04.out.below hst (by omega))
  have FX05 := Lib.hid (FX04.out.below hst (by omega))
  have BX05 := Lib.hid (BoxH.below (BoxH.new w4 wd0 hg0 (.slice aX0 zs0.length capX0) 44) hb (by first | (simp; done) | (simp; omega)))
  clear hb hst
  clear Hb4 BA04 FX04
  clear A00 A01 A02
  obtain ⟨A00, A01, A02, _⟩ := BA05.out
  obtain ⟨X00, X01, X02, _⟩ := BX05.out
  go_wp2_with (refine wpList_cvtc rfl _ _ _ rfl .f32 .f64 _ _ rfl (by kernel_rfl) Try.underlying47 (widen_ok _) (widen_ok _) ?_; intro r1 r2 n h1 h2)
  refine (Calls.mono (sameComplex_true (cvtF .f32 .f64 RX) (cvtF .f32 .f64 RY) _ _ _ _ (Rp.cvtF (by decide) H1G.out.1 (by assumption)) (Rp.cvtF (by decide) H1W.out.1 (by assumption)) (Rp.cvtF (by decide) H2G.out.1 (by assumption)) (Rp.cvtF (by decide) H2W.out.1 (by assumption)) _) (R' := fun e w' => e = .returned (.bool true) ∧ Below w5.heap.size w5 w') (fun e w' h => ⟨h.1, by obtain ⟨_, n3, rfl⟩ := h; first | exact below_drewN (below_drewN (below_drewN (Below.refl _ _) _) _) _ | exact below_drewN (below_drewN (Below.refl _ _) _) _ | exact below_drewN (Below.refl _ _) _⟩)).mono ?_
  rintro e w6 ⟨rfl, hb⟩
  have hs6 : w5.heap.size + 0 ≤ w6.heap.size := (by have := hb.size; simpa using this)
  have hst : Below w5.heap.size w5 w6 := (Below.refl _ _).trans (hb.mono (by first | (simp; done) | (simp; omega)))
  have Hb6 := Lib.hid (Hb5.out.trans (hst.mono (by omega)) : Below w.heap.size w w6)
  have BA06 := Lib.hid (BA05.out.below hst (by omega))
  have BX06 := Lib.hid (BX05.out.below hst (by omega))
  have FX06 := Lib.hid (FX05.out.below hst (by omega))
  clear hb hst
  clear Hb5 BA05 BX05 FX05
  clear A00 A01 A02 X00 X01 X02
  obtain ⟨A00, A01, A02, _⟩ := BA06.out
  obtain ⟨X00, X01, X02, _⟩ := BX06.out
  go_wp2_with fail
  go_region_held3 (fun w' => w'.cell? ⟨w4.heap.size, 0, none⟩ = some (.int .i64 wd0) ∧ w'.cell? ⟨w4.heap.size, 1, none⟩ = some (.int .i64 hg0) ∧ w'.cell? ⟨w4.heap.size, 2, none⟩ = some (.slice aX0 zs0.length capX0) ∧ w'.cell? ⟨w.heap.size, 0, none⟩ = some (.int .i64 wd0) ∧ w'.cell? ⟨w.heap.size, 1, none⟩ = some (.int .i64 hg0) ∧ w'.cell? ⟨w.heap.size, 2, none⟩ = some (.slice a0 zs0.length cap0))
    (first | with_reducible exact ⟨BoxH.c0 (BX08.out), BoxH.c1 (BX08.out), BoxH.c2 (BX08.out), BoxH.c0 (BA08.out), BoxH.c1 (BA08.out), BoxH.c2 (BA08.out)⟩ | with_reducible exact ⟨BoxH.c0 (BX07.out), BoxH.c1 (BX07.out), BoxH.c2 (BX07.out), BoxH.c0 (BA07.out), BoxH.c1 (BA07.out), BoxH.c2 (BA07.out)⟩ | with_reducible exact ⟨BoxH.c0 (BX06.out), BoxH.c1 (BX06.out), BoxH.c2 (BX06.out), BoxH.c0 (BA06.out), BoxH.c1 (BA06.out), BoxH.c2 (BA06.out)⟩ | with_reducible exact ⟨BoxH.c0 (BoxH.drew BX06.out), BoxH.c1 (BoxH.drew BX06.out), BoxH.c2 (BoxH.drew BX06.out), BoxH.c0 (BoxH.drew BA06.out), BoxH.c1 (BoxH.drew BA06.out), BoxH.c2 (BoxH.drew BA06.out)⟩)
    (first | (go_at_call 22; refine (toHill_any wd0 hg0 a0 cap0 zs0 _ (by exact (H0.out.below Hb6.out.drew (Nat.le_refl _))) hl0).mono ?_; rintro e w7 ⟨aX0c, capX0c, rfl, hb, hf⟩; have hs7 : w6.heap.size ≤ w7.heap.size := hb.size; have hst : Below w6.heap.size w6 w7 := ((below_drewN (Below.refl _ _) 1).trans (by exact hb)); have Hb7 := Lib.hid (Hb6.out.trans (hst.mono (by omega)) : Below w.heap.size w w7); have BA07 := Lib.hid (BA06.out.below hst (by omega)); have BX07 := Lib.hid (BX06.out.below hst (by omega)); have FX07 := Lib.hid (FX06.out.below hst (by omega)); have FX0c7 := Lib.hid hf; clear hb hst hf) | (go_at_call 25; refine (eqHill_any wd0 hg0 aX0 aX0c capX0 capX0c zs0 _ (by exact FX07.out.row) (by exact FX0c7.out.row) hl0).mono ?_; rintro e w8 ⟨rfl, hb⟩; have hs8 : w7.heap.size + 0 ≤ w8.heap.size := (by have := hb.size; simpa using this); have hst : Below w7.heap.size w7 w8 := (Below.refl _ _).trans (hb.mono (by first | (simp; done) | (simp; omega))); have Hb8 := Lib.hid (Hb7.out.trans (hst.mono (by omega)) : Below w.heap.size w w8); have BA08 := Lib.hid (BA07.out.below hst (by omega)); have BX08 := Lib.hid (BX07.out.below hst (by omega)); have FX08 := Lib.hid (FX07.out.below hst (by omega)); have FX0c8 := Lib.hid (FX0c7.out.below hst (by omega)); clear hb hst))
  clear A00 A01 A02 X00 X01 X02
  obtain ⟨A00, A01, A02, _⟩ := BA08.out
  obtain ⟨X00, X01, X02, _⟩ := BX08.out
  go_wp2_with fail
  go_ret
  exact ⟨rfl, Hb8.out⟩

set_option maxHeartbeats 1000000 in
theorem walk_FnExactTiltAt (wd0 hg0 : Int) (a0 : Option Addr) (len0 cap0 : Nat) (zs0 : List Nat) (n1 : Int) (w : World) (_hw0 : (Lit.int .i64 wd0).wf = true) (_hh0 : (Lit.int .i64 hg0).wf = true) (h0 : IsRowF .f32 w a0 len0 cap0 zs0) (hwn1 : (Lit.int .i64 n1).wf = true) :
    Calls Try.prog 5 #[.agg #[.int .i64 wd0, .int .i64 hg0, .slice a0 len0 cap0], .int .i64 n1] w fun e w' => e = .returned (.bool true) ∧ Below w.heap.size w w' := by
  obtain ⟨rfl, hcap0, hmax0, hr0, hz0⟩ := h0
  have hn1 : -9223372036854775808 ≤ n1 ∧ n1 ≤ 9223372036854775807 := by have h9 := (Lit.wf_int_iff .i64 _).1 hwn1; have e1 : IntKind.min .i64 = -9223372036854775808 := (by decide +kernel); have e2 : IntKind.max .i64 = 9223372036854775807 := (by decide +kernel); omega
  by_cases hl0 : zs0.length ≤ 1048576
  · exact tiltAtLaw_fits wd0 hg0 a0 cap0 zs0 n1 w hr0 hl0 hz0 hn1.1 hn1.2
  · unfold maxLen at hmax0
    clear hr0 hz0 hn1 hwn1
    go_enter Try.func5, Try.ntmps5
    go_wp2_with fail
    refine (szHill_not wd0 hg0 a0 zs0.length cap0 _ (by omega) (by omega) (by omega) _).mono ?_
    rintro e w1 ⟨rfl, hb1⟩
    have Hb1 := Lib.hid ((below1 _ _).trans (hb1.mono (by simp)) : Below w.heap.size w w1)
    clear hb1
    go_wp2_with fail
    go_ret
    exact ⟨rfl, Hb1.out⟩
end Go.Proofs.Ytdpnkpgfepckdaa
