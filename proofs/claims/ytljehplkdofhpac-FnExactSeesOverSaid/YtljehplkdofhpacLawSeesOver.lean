/- The walk of the law on SeesOver. -/
import Derived.Test.YtljehplkdofhpacSeeI
import Derived.Test.YtljehplkdofhpacSeeS
import Derived.Deep.RegionHeld3
import Derived.Deep.DeepCutAuto
import Derived.DataShut
namespace Go.Proofs.Ytljehplkdofhpac
open Go.RowKit

theorem FRowCap {w : World} {lo hi cap : Nat} {a : Option Addr} {zs : List Nat} (h : FRow w lo hi (.slice a zs.length cap) zs) : zs.length ≤ cap := by
  rcases h.1.2 with ⟨h1, h2⟩ | ⟨g, c, cur, h1, _, _, h2, _⟩
  · rw [h2]; exact Nat.zero_le _
  · injection h1 with _ _ h3; rw [h3]; exact h2
set_option maxRecDepth 100000 in
set_option maxHeartbeats 40000000 in
theorem seesOverLaw_fits (wd0 hg0 : Int) (a0 : Option Addr) (cap0 : Nat) (zs0 : List Nat) (n1 : Int) (n2 : Int) (x3 : Nat) (w : World) (hr0 : RowF .f32 w a0 zs0) (hl0 : zs0.length ≤ 1048576) (hz0 : ∀ z ∈ zs0, z < 4294967296) (hn1 : -9223372036854775808 ≤ n1) (hm1 : n1 ≤ 9223372036854775807) (hn2 : -9223372036854775808 ≤ n2) (hm2 : n2 ≤ 9223372036854775807) (hx3 : x3 < 4294967296) :
    Calls Try.prog 5 #[.agg #[.int .i64 wd0, .int .i64 hg0, .slice a0 zs0.length cap0], .int .i64 n1, .int .i64 n2, .float .f32 x3] w fun e w' => e = .returned (.bool true) ∧ Below w.heap.size w w' := by
  obtain ⟨⟨rok, rok2⟩, hR⟩ : ∃ r, resSeesOver wd0 hg0 zs0 n1 n2 x3 = r := ⟨_, rfl⟩
  have cS : ∀ (a0 : Option Addr) (cap0 : Nat) (W : World), RowF .f32 W a0 zs0 → zs0.length ≤ cap0 → Calls Try.prog 28 #[.agg #[.int .i64 wd0, .int .i64 hg0, .slice a0 zs0.length cap0], .int .i64 n1, .int .i64 n2, .float .f32 x3] W ((fun W => fun e w' => e = .returned (.tuple #[.bool rok, .bool rok2]) ∧ Below W.heap.size W w') W) := by
    intro a0 cap0 W h0' k0'
    have := seesOver_spec wd0 hg0 a0 cap0 zs0 n1 n2 x3 W h0' hl0 hz0 hn1 hm1 hn2 hm2 hx3
    rw [hR] at this
    exact this
  have cI : ∀ (a0 : Option Addr) (cap0 : Nat) (W : World), RowF .f32 W a0 zs0 → zs0.length ≤ cap0 → Calls Try.prog 29 #[.agg #[.int .i64 wd0, .int .i64 hg0, .slice a0 zs0.length cap0], .int .i64 n1, .int .i64 n2, .float .f32 x3] W ((fun W => fun e w' => e = .returned (.tuple #[.bool rok, .bool rok2]) ∧ Below W.heap.size W w') W) := by
    intro a0 cap0 W h0' k0'
    have := seesOver_impl wd0 hg0 a0 cap0 zs0 n1 n2 x3 W h0' hl0 k0' hz0 hn1 hm1 hn2 hm2 hx3
    rw [hR] at this
    exact this
  have HS := Lib.hid cS; have HI := Lib.hid cI
  clear cS cI hR
  have H0 := Lib.hid hr0
  clear hr0 hz0
  clear hn1 hm1
  clear hn2 hm2
  clear hx3
  have Hb0 := Lib.hid (Below.refl w.heap.size w)
  go_enter Try.func5, Try.ntmps5
  go_wp2_with fail
  refine (szHill_fits wd0 hg0 a0 zs0.length cap0 _ (by omega) (by omega) _).mono ?_
  rintro e w1 ⟨rfl, hb⟩
  have hs1 : w.heap.size + 1 ≤ w1.heap.size := (by have := hb.size; simpa using this)
  have hst : Below w.heap.size w w1 := (below1 _ _).trans (hb.mono (by first | (simp; done) | (simp; omega)))
  have Hb1 := Lib.hid (Hb0.out.trans (hst.mono (by omega)) : Below w.heap.size w w1)
  have BA01 := Lib.hid (BoxH.below (BoxH.new w wd0 hg0 (.slice a0 zs0.length cap0) 24) hb (by first | (simp; done) | (simp; omega)))
  clear hb hst
  clear Hb0
  obtain ⟨A00, A01, A02, _⟩ := BA01.out
  go_wp2_with fail
  refine (toHill_any wd0 hg0 a0 cap0 zs0 _ (by exact (H0.out.below Hb1.out (Nat.le_refl _))) hl0).mono ?_
  rintro e w2 ⟨aWc0, capWc0, rfl, hb, hf⟩
  have hs2 : w1.heap.size + 0 ≤ w2.heap.size := (by have := hb.size; simpa using this)
  have hst : Below w1.heap.size w1 w2 := (Below.refl _ _).trans (hb.mono (by first | (simp; done) | (simp; omega)))
  have Hb2 := Lib.hid (Hb1.out.trans (hst.mono (by omega)) : Below w.heap.size w w2)
  have BA02 := Lib.hid (BA01.out.below hst (by omega))
  have FWc02 := Lib.hid (hf.mono (lo' := w1.heap.size + 0) (by first | (simp; done) | (simp; omega)) (Nat.le_refl _) (Nat.le_refl _))
  clear hb hst hf
  clear Hb1 BA01
  clear A00 A01 A02
  obtain ⟨A00, A01, A02, _⟩ := BA02.out
  go_wp2_with fail
  refine (HS.out aWc0 capWc0 _ (by exact FWc02.out.row) (FRowCap FWc02.out)).mono ?_
  rintro e w3 ⟨rfl, hb⟩
  have hs3 : w2.heap.size + 0 ≤ w3.heap.size := (by have := hb.size; simpa using this)
  have hst : Below w2.heap.size w2 w3 := (Below.refl _ _).trans (hb.mono (by first | (simp; done) | (simp; omega)))
  have Hb3 := Lib.hid (Hb2.out.trans (hst.mono (by omega)) : Below w.heap.size w w3)
  have BA03 := Lib.hid (BA02.out.below hst (by omega))
  have FWc03 := Lib.hid (FWc02.out.below hst (by omega))
  clear hb hst
  clear Hb2 BA02 FWc02
  clear A00 A01 A02
  obtain ⟨A00, A01, A02, _⟩ := BA03.out
  go_wp2_with fail
  refine (toHill_any wd0 hg0 a0 cap0 zs0 _ (by exact (H0.out.below Hb3.out (Nat.le_refl _))) hl0).mono ?_
  rintro e w4 ⟨aX0, capX0, rfl, hb, hf⟩
  have hs4 : w3.heap.size + 0 ≤ w4.heap.size := (by have := hb.size; simpa using this)
  have hst : Below w3.heap.size w3 w4 := (Below.refl _ _).trans (hb.mono (by first | (simp; done) | (simp; omega)))
  have Hb4 := Lib.hid (Hb3.out.trans (hst.mono (by omega)) : Below w.heap.size w w4)
  have BA04 := Lib.hid (BA03.out.below hst (by omega))
  have FX04 := Lib.hid (hf.mono (lo' := w3.heap.size + 0) (by first | (simp; done) | (simp; omega)) (Nat.le_refl _) (Nat.le_refl _))
  clear hb hst hf
  clear Hb3 BA03
  clear A00 A01 A02
  obtain ⟨A00, A01, A02, _⟩ := BA04.out
  go_wp2_with fail
  refine (HI.out aX0 capX0 _ (by exact (FX04.out.alloc _).row) (FRowCap FX04.out)).mono ?_
  rintro e w5 ⟨rfl, hb⟩
  have hs5 : w4.heap.size + 1 ≤ w5.heap.size := (by have := hb.size; simpa using this)
  have hst : Below w4.heap.size w4 w5 := (below1 _ _).trans (hb.mono (by first | (simp; done) | (simp; omega)))
  have Hb5 := Lib.hid (Hb4.out.trans (hst.mono (by omega)) : Below w.heap.size w w5)
  have BA05 := Lib.hid (BA04.out.below hst (by omega))
  have FX05 := Lib.hid (FX04.out.below hst (by omega))
  have BX05 := Lib.hid (BoxH.below (BoxH.new w4 wd0 hg0 (.slice aX0 zs0.length capX0) 28) hb (by first | (simp; done) | (simp; omega)))
  clear hb hst
  clear Hb4 BA04 FX04
  clear A00 A01 A02
  obtain ⟨A00, A01, A02, _⟩ := BA05.out
  obtain ⟨X00, X01, X02, _⟩ := BX05.out
  go_wp2_with fail
  go_region_held3 (fun w' => w'.cell? ⟨w4.heap.size, 0, none⟩ = some (.int .i64 wd0) ∧ w'.cell? ⟨w4.heap.size, 1, none⟩ = some (.int .i64 hg0) ∧ w'.cell? ⟨w4.heap.size, 2, none⟩ = some (.slice aX0 zs0.length capX0) ∧ w'.cell? ⟨w.heap.size, 0, none⟩ = some (.int .i64 wd0) ∧ w'.cell? ⟨w.heap.size, 1, none⟩ = some (.int .i64 hg0) ∧ w'.cell? ⟨w.heap.size, 2, none⟩ = some (.slice a0 zs0.length cap0))
    (first | with_reducible exact ⟨BoxH.c0 (BX07.out), BoxH.c1 (BX07.out), BoxH.c2 (BX07.out), BoxH.c0 (BA07.out), BoxH.c1 (BA07.out), BoxH.c2 (BA07.out)⟩ | with_reducible exact ⟨BoxH.c0 (BX06.out), BoxH.c1 (BX06.out), BoxH.c2 (BX06.out), BoxH.c0 (BA06.out), BoxH.c1 (BA06.out), BoxH.c2 (BA06.out)⟩ | with_reducible exact ⟨BoxH.c0 (BX05.out), BoxH.c1 (BX05.out), BoxH.c2 (BX05.out), BoxH.c0 (BA05.out), BoxH.c1 (BA05.out), BoxH.c2 (BA05.out)⟩ | with_reducible exact ⟨BoxH.c0 (BoxH.drew BX05.out), BoxH.c1 (BoxH.drew BX05.out), BoxH.c2 (BoxH.drew BX05.out), BoxH.c0 (BoxH.drew BA05.out), BoxH.c1 (BoxH.drew BA05.out), BoxH.c2 (BoxH.drew BA05.out)⟩)
    (first | (go_at_call 17; refine (toHill_any wd0 hg0 a0 cap0 zs0 _ (by exact (H0.out.below Hb5.out.drew (Nat.le_refl _))) hl0).mono ?_; rintro e w6 ⟨aX0c, capX0c, rfl, hb, hf⟩; have hs6 : w5.heap.size ≤ w6.heap.size := hb.size; have hst : Below w5.heap.size w5 w6 := ((below_drewN (Below.refl _ _) 1).trans (by exact hb)); have Hb6 := Lib.hid (Hb5.out.trans (hst.mono (by omega)) : Below w.heap.size w w6); have BA06 := Lib.hid (BA05.out.below hst (by omega)); have BX06 := Lib.hid (BX05.out.below hst (by omega)); have FX06 := Lib.hid (FX05.out.below hst (by omega)); have FX0c6 := Lib.hid hf; clear hb hst hf) | (go_at_call 20; refine (eqHill_any wd0 hg0 aX0 aX0c capX0 capX0c zs0 _ (by exact FX06.out.row) (by exact FX0c6.out.row) hl0).mono ?_; rintro e w7 ⟨rfl, hb⟩; have hs7 : w6.heap.size + 0 ≤ w7.heap.size := (by have := hb.size; simpa using this); have hst : Below w6.heap.size w6 w7 := (Below.refl _ _).trans (hb.mono (by first | (simp; done) | (simp; omega))); have Hb7 := Lib.hid (Hb6.out.trans (hst.mono (by omega)) : Below w.heap.size w w7); have BA07 := Lib.hid (BA06.out.below hst (by omega)); have BX07 := Lib.hid (BX06.out.below hst (by omega)); have FX07 := Lib.hid (FX06.out.below hst (by omega)); have FX0c7 := Lib.hid (FX0c6.out.below hst (by omega)); clear hb hst))
  clear A00 A01 A02 X00 X01 X02
  obtain ⟨A00, A01, A02, _⟩ := BA07.out
  obtain ⟨X00, X01, X02, _⟩ := BX07.out
  go_wp2_with fail
  go_ret
  exact ⟨rfl, Hb7.out⟩

set_option maxHeartbeats 1000000 in
theorem walk_FnExactSeesOver (wd0 hg0 : Int) (a0 : Option Addr) (len0 cap0 : Nat) (zs0 : List Nat) (n1 : Int) (n2 : Int) (x3 : Nat) (w : World) (_hw0 : (Lit.int .i64 wd0).wf = true) (_hh0 : (Lit.int .i64 hg0).wf = true) (h0 : IsRowF .f32 w a0 len0 cap0 zs0) (hwn1 : (Lit.int .i64 n1).wf = true) (hwn2 : (Lit.int .i64 n2).wf = true) (hx3 : x3 < 4294967296) :
    Calls Try.prog 5 #[.agg #[.int .i64 wd0, .int .i64 hg0, .slice a0 len0 cap0], .int .i64 n1, .int .i64 n2, .float .f32 x3] w fun e w' => e = .returned (.bool true) ∧ Below w.heap.size w w' := by
  obtain ⟨rfl, hcap0, hmax0, hr0, hz0⟩ := h0
  have hn1 : -9223372036854775808 ≤ n1 ∧ n1 ≤ 9223372036854775807 := by have h9 := (Lit.wf_int_iff .i64 _).1 hwn1; have e1 : IntKind.min .i64 = -9223372036854775808 := (by decide +kernel); have e2 : IntKind.max .i64 = 9223372036854775807 := (by decide +kernel); omega
  have hn2 : -9223372036854775808 ≤ n2 ∧ n2 ≤ 9223372036854775807 := by have h9 := (Lit.wf_int_iff .i64 _).1 hwn2; have e1 : IntKind.min .i64 = -9223372036854775808 := (by decide +kernel); have e2 : IntKind.max .i64 = 9223372036854775807 := (by decide +kernel); omega
  by_cases hl0 : zs0.length ≤ 1048576
  · exact seesOverLaw_fits wd0 hg0 a0 cap0 zs0 n1 n2 x3 w hr0 hl0 hz0 hn1.1 hn1.2 hn2.1 hn2.2 hx3
  · unfold maxLen at hmax0
    clear hr0 hz0 hx3 hn1 hwn1 hn2 hwn2
    go_enter Try.func5, Try.ntmps5
    go_wp2_with fail
    refine (szHill_not wd0 hg0 a0 zs0.length cap0 _ (by omega) (by omega) (by omega) _).mono ?_
    rintro e w1 ⟨rfl, hb1⟩
    have Hb1 := Lib.hid ((below1 _ _).trans (hb1.mono (by simp)) : Below w.heap.size w w1)
    clear hb1
    go_wp2_with fail
    go_ret
    exact ⟨rfl, Hb1.out⟩
end Go.Proofs.Ytljehplkdofhpac
