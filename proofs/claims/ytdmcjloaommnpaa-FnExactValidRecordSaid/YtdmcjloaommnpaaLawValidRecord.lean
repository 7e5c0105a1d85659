/- The walk of the law on ValidRecord. -/
import Derived.Test.YtdmcjloaommnpaaRcL
import Derived.Deep.RegionHeld3
import Derived.Deep.DeepCutAuto
import Derived.DataShut
namespace Go.Proofs.Ytdmcjloaommnpaa
open Go.RowKit

set_option maxRecDepth 100000 in
set_option maxHeartbeats 40000000 in
theorem validRecordLaw_fits (s0 : ByteArray) (wd0 hg0 : Int) (a0 : Option Addr) (cap0 : Nat) (zs0 : List Nat) (w : World) (hr0 : RowF .f32 w a0 zs0) (hl0 : zs0.length ≤ 1048576) (hq0 : s0.size + zs0.length ≤ 1048576) (hz0 : ∀ z ∈ zs0, z < 4294967296) :
    Calls Try.prog 11 #[.agg #[.string s0, .int .i64 wd0, .int .i64 hg0, .slice a0 zs0.length cap0]] w fun e w' => e = .returned (.bool true) ∧ Below w.heap.size w w' := by
  obtain ⟨rok, hR⟩ : ∃ r, resValidRecord s0 wd0 hg0 zs0 = r := ⟨_, rfl⟩
  have cS : ∀ (a0 : Option Addr) (cap0 : Nat) (W : World), RowF .f32 W a0 zs0 → Calls Try.prog 37 #[.agg #[.string s0, .int .i64 wd0, .int .i64 hg0, .slice a0 zs0.length cap0]] W (Says rok W) := by
    intro a0 cap0 W h0'
    have := validRecord_spec s0 wd0 hg0 a0 cap0 zs0 W h0' hl0 hz0 (by omega)
    rw [hR] at this
    exact this
  have cI : ∀ (a0 : Option Addr) (cap0 : Nat) (W : World), RowF .f32 W a0 zs0 → Calls Try.prog 39 #[.agg #[.string s0, .int .i64 wd0, .int .i64 hg0, .slice a0 zs0.length cap0]] W (Says rok W) := by
    intro a0 cap0 W h0'
    have := validRecord_impl s0 wd0 hg0 a0 cap0 zs0 W h0' hl0 hz0 (by omega)
    rw [hR] at this
    exact this
  have HS := Lib.hid cS; have HI := Lib.hid cI
  clear cS cI hR
  have H0 := Lib.hid hr0
  clear hr0 hz0
  have Hb0 := Lib.hid (Below.refl w.heap.size w)
  go_enter Try.func11, Try.ntmps11
  go_wp2_with fail
  refine (szHill_fits s0 wd0 hg0 a0 zs0.length cap0 _ (by omega) (by omega) _).mono ?_
  rintro e w1 ⟨rfl, hb⟩
  have hs1 : w.heap.size + 1 ≤ w1.heap.size := (by have := hb.size; simpa using this)
  have hst : Below w.heap.size w w1 := (below1 _ _).trans (hb.mono (by first | (simp; done) | (simp; omega)))
  have Hb1 := Lib.hid (Hb0.out.trans (hst.mono (by omega)) : Below w.heap.size w w1)
  have BA01 := Lib.hid (BoxH.below (BoxH.new w s0 wd0 hg0 (.slice a0 zs0.length cap0) 46) hb (by first | (simp; done) | (simp; omega)))
  clear hb hst
  clear Hb0
  obtain ⟨A00, A01, A02, A03, _⟩ := BA01.out
  go_wp2_with fail
  refine (toHill_any s0 wd0 hg0 a0 cap0 zs0 _ (by exact (H0.out.below Hb1.out (Nat.le_refl _))) hl0).mono ?_
  rintro e w2 ⟨aWc0, capWc0, rfl, hb, hf⟩
  have hs2 : w1.heap.size + 0 ≤ w2.heap.size := (by have := hb.size; simpa using this)
  have hst : Below w1.heap.size w1 w2 := (Below.refl _ _).trans (hb.mono (by first | (simp; done) | (simp; omega)))
  have Hb2 := Lib.hid (Hb1.out.trans (hst.mono (by omega)) : Below w.heap.size w w2)
  have BA02 := Lib.hid (BA01.out.below hst (by omega))
  have FWc02 := Lib.hid (hf.mono (lo' := w1.heap.size + 0) (by first | (simp; done) | (simp; omega)) (Nat.le_refl _) (Nat.le_refl _))
  clear hb hst hf
  clear Hb1 BA01
  clear A00 A01 A02 A03
  obtain ⟨A00, A01, A02, A03, _⟩ := BA02.out
  go_wp2_with fail
  refine (HS.out aWc0 capWc0 _ (by exact FWc02.out.row)).mono ?_
  rintro e w3 ⟨rfl, hb⟩
  have hs3 : w2.heap.size + 0 ≤ w3.heap.size := (by have := hb.size; simpa using this)
  have hst : Below w2.heap.size w2 w3 := (Below.refl _ _).trans (hb.mono (by first | (simp; done) | (simp; omega)))
  have Hb3 := Lib.hid (Hb2.out.trans (hst.mono (by omega)) : Below w.heap.size w w3)
  have BA03 := Lib.hid (BA02.out.below hst (by omega))
  have FWc03 := Lib.hid (FWc02.out.below hst (by omega))
  clear hb hst
  clear Hb2 BA02 FWc02
  clear A00 A01 A02 A03
  obtain ⟨A00, A01, A02, A03, _⟩ := BA03.out
  go_wp2_with fail
  refine (toHill_any s0 wd0 hg0 a0 cap0 zs0 _ (by exact (H0.out.below Hb3.out (Nat.le_refl _))) hl0).mono ?_
  rintro e w4 ⟨aX0, capX0, rfl, hb, hf⟩
  have hs4 : w3.heap.size + 0 ≤ w4.heap.size := (by have := hb.size; simpa using this)
  have hst : Below w3.heap.size w3 w4 := (Below.refl _ _).trans (hb.mono (by first | (simp; done) | (simp; omega)))
  have Hb4 := Lib.hid (Hb3.out.trans (hst.mono (by omega)) : Below w.heap.size w w4)
  have BA04 := Lib.hid (BA03.out.below hst (by omega))
  have FX04 := Lib.hid (hf.mono (lo' := w3.heap.size + 0) (by first | (simp; done) | (simp; omega)) (Nat.le_refl _) (Nat.le_refl _))
  clear hb hst hf
  clear Hb3 BA03
  clear A00 A01 A02 A03
  obtain ⟨A00, A01, A02, A03, _⟩ := BA04.out
  go_wp2_with fail
  refine (HI.out aX0 capX0 _ (by exact (FX04.out.alloc _).row)).mono ?_
  rintro e w5 ⟨rfl, hb⟩
  have hs5 : w4.heap.size + 1 ≤ w5.heap.size := (by have := hb.size; simpa using this)
  have hst : Below w4.heap.size w4 w5 := (below1 _ _).trans (hb.mono (by first | (simp; done) | (simp; omega)))
  have Hb5 := Lib.hid (Hb4.out.trans (hst.mono (by omega)) : Below w.heap.size w w5)
  have BA05 := Lib.hid (BA04.out.below hst (by omega))
  have FX05 := Lib.hid (FX04.out.below hst (by omega))
  have BX05 := Lib.hid (BoxH.below (BoxH.new w4 s0 wd0 hg0 (.slice aX0 zs0.length capX0) 49) hb (by first | (simp; done) | (simp; omega)))
  clear hb hst
  clear Hb4 BA04 FX04
  clear A00 A01 A02 A03
  obtain ⟨A00, A01, A02, A03, _⟩ := BA05.out
  obtain ⟨X00, X01, X02, X03, _⟩ := BX05.out
  go_wp2_with fail
  go_region_held3 (fun w' => w'.cell? ⟨w4.heap.size, 0, none⟩ = some (.string s0) ∧ w'.cell? ⟨w4.heap.size, 1, none⟩ = some (.int .i64 wd0) ∧ w'.cell? ⟨w4.heap.size, 2, none⟩ = some (.int .i64 hg0) ∧ w'.cell? ⟨w4.heap.size, 3, none⟩ = some (.slice aX0 zs0.length capX0) ∧ w'.cell? ⟨w.heap.size, 0, none⟩ = some (.string s0) ∧ w'.cell? ⟨w.heap.size, 1, none⟩ = some (.int .i64 wd0) ∧ w'.cell? ⟨w.heap.size, 2, none⟩ = some (.int .i64 hg0) ∧ w'.cell? ⟨w.heap.size, 3, none⟩ = some (.slice a0 zs0.length cap0))
    (first | with_reducible exact ⟨BoxH.c0 (BX07.out), BoxH.c1 (BX07.out), BoxH.c2 (BX07.out), BoxH.c3 (BX07.out), BoxH.c0 (BA07.out), BoxH.c1 (BA07.out), BoxH.c2 (BA07.out), BoxH.c3 (BA07.out)⟩ | with_reducible exact ⟨BoxH.c0 (BX06.out), BoxH.c1 (BX06.out), BoxH.c2 (BX06.out), BoxH.c3 (BX06.out), BoxH.c0 (BA06.out), BoxH.c1 (BA06.out), BoxH.c2 (BA06.out), BoxH.c3 (BA06.out)⟩ | with_reducible exact ⟨BoxH.c0 (BX05.out), BoxH.c1 (BX05.out), BoxH.c2 (BX05.out), BoxH.c3 (BX05.out), BoxH.c0 (BA05.out), BoxH.c1 (BA05.out), BoxH.c2 (BA05.out), BoxH.c3 (BA05.out)⟩ | with_reducible exact ⟨BoxH.c0 (BoxH.drew BX05.out), BoxH.c1 (BoxH.drew BX05.out), BoxH.c2 (BoxH.drew BX05.out), BoxH.c3 (BoxH.drew BX05.out), BoxH.c0 (BoxH.drew BA05.out), BoxH.c1 (BoxH.drew BA05.out), BoxH.c2 (BoxH.drew BA05.out), BoxH.c3 (BoxH.drew BA05.out)⟩)
    (first | (go_at_call 38; refine (toHill_any s0 wd0 hg0 a0 cap0 zs0 _ (by exact (H0.out.below Hb5.out.drew (Nat.le_refl _))) hl0).mono ?_; rintro e w6 ⟨aX0c, capX0c, rfl, hb, hf⟩; have hs6 : w5.heap.size ≤ w6.heap.size := hb.size; have hst : Below w5.heap.size w5 w6 := ((below_drewN (Below.refl _ _) 1).trans (by exact hb)); have Hb6 := Lib.hid (Hb5.out.trans (hst.mono (by omega)) : Below w.heap.size w w6); have BA06 := Lib.hid (BA05.out.below hst (by omega)); have BX06 := Lib.hid (BX05.out.below hst (by omega)); have FX06 := Lib.hid (FX05.out.below hst (by omega)); have FX0c6 := Lib.hid hf; clear hb hst hf) | (go_at_call 40; refine (eqHill_any s0 wd0 hg0 aX0 aX0c capX0 capX0c zs0 _ (by exact FX06.out.row) (by exact FX0c6.out.row) hl0).mono ?_; rintro e w7 ⟨rfl, hb⟩; have hs7 : w6.heap.size + 0 ≤ w7.heap.size := (by have := hb.size; simpa using this); have hst : Below w6.heap.size w6 w7 := (Below.refl _ _).trans (hb.mono (by first | (simp; done) | (simp; omega))); have Hb7 := Lib.hid (Hb6.out.trans (hst.mono (by omega)) : Below w.heap.size w w7); have BA07 := Lib.hid (BA06.out.below hst (by omega)); have BX07 := Lib.hid (BX06.out.below hst (by omega)); have FX07 := Lib.hid (FX06.out.below hst (by omega)); have FX0c7 := Lib.hid (FX0c6.out.below hst (by omega)); clear hb hst))
  clear A00 A01 A02 A03 X00 X01 X02 X03
  obtain ⟨A00, A01, A02, A03, _⟩ := BA07.out
  obtain ⟨X00, X01, X02, X03, _⟩ := BX07.out
  go_wp2_with fail
  go_ret
  exact ⟨rfl, Hb7.out⟩

set_option maxHeartbeats 1000000 in
theorem walk_FnExactValidRecord (s0 : ByteArray) (wd0 hg0 : Int) (a0 : Option Addr) (len0 cap0 : Nat) (zs0 : List Nat) (w : World) (_hn0 : s0.size ≤ maxLen) (_hw0 : (Lit.int .i64 wd0).wf = true) (_hh0 : (Lit.int .i64 hg0).wf = true) (h0 : IsRowF .f32 w a0 len0 cap0 zs0) :
    Calls Try.prog 11 #[.agg #[.string s0, .int .i64 wd0, .int .i64 hg0, .slice a0 len0 cap0]] w fun e w' => e = .returned (.bool true) ∧ Below w.heap.size w w' := by
  obtain ⟨rfl, hcap0, hmax0, hr0, hz0⟩ := h0
  by_cases hq0 : s0.size + zs0.length ≤ 1048576
  · have hl0 : zs0.length ≤ 1048576 := by omega
    exact validRecordLaw_fits s0 wd0 hg0 a0 cap0 zs0 w hr0 hl0 hq0 hz0
  · unfold maxLen at hmax0 _hn0
    clear hr0 hz0
    go_enter Try.func11, Try.ntmps11
    go_wp2_with fail
    refine (szHill_not s0 wd0 hg0 a0 zs0.length cap0 _ (by omega) (by omega) (by omega) (by omega) (by omega) _).mono ?_
    rintro e w1 ⟨rfl, hb1⟩
    have Hb1 := Lib.hid ((below1 _ _).trans (hb1.mono (by simp)) : Below w.heap.size w w1)
    clear hb1
    go_wp2_with fail
    go_ret
    exact ⟨rfl, Hb1.out⟩
end Go.Proofs.Ytdmcjloaommnpaa

