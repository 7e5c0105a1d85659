/- The walk of the law on JoinRecords. -/
import Derived.Test.YtdmcjloaommnpaaJoinRS
import Derived.Test.YtdmcjloaommnpaaRcW
import Derived.Test.YtdmcjloaommnpaaRcO
import Derived.Deep.RegionHeld3
import Derived.Deep.DeepCutAuto
import Derived.DataShut
namespace Go.Proofs.Ytdmcjloaommnpaa
open Go.RowKit

set_option maxRecDepth 100000 in
set_option maxHeartbeats 40000000 in
theorem joinRecordsLaw_fits (s0 : ByteArray) (wd0 hg0 : Int) (a0 : Option Addr) (cap0 : Nat) (zs0 : List Nat) (s1 : ByteArray) (wd1 hg1 : Int) (a1 : Option Addr) (cap1 : Nat) (zs1 : List Nat) (w : World) (hr0 : RowF .f32 w a0 zs0) (hl0 : zs0.length ≤ 1048576) (hq0 : s0.size + zs0.length ≤ 1048576) (hz0 : ∀ z ∈ zs0, z < 4294967296) (hr1 : RowF .f32 w a1 zs1) (hl1 : zs1.length ≤ 1048576) (hq1 : s1.size + zs1.length ≤ 1048576) (hz1 : ∀ z ∈ zs1, z < 4294967296) (hsum : s0.size + zs0.length + (s1.size + zs1.length) ≤ 1048576) :
    Calls Try.prog 13 #[.agg #[.string s0, .int .i64 wd0, .int .i64 hg0, .slice a0 zs0.length cap0], .agg #[.string s1, .int .i64 wd1, .int .i64 hg1, .slice a1 zs1.length cap1]] w fun e w' => e = .returned (.bool true) ∧ Below w.heap.size w w' := by
  obtain ⟨⟨rs, rw, rh, rz, rok⟩, hR⟩ : ∃ R, resJoinRecords s0 wd0 hg0 zs0 s1 wd1 hg1 zs1 = R := ⟨_, rfl⟩
  have cS : ∀ (a0 : Option Addr) (cap0 : Nat) (a1 : Option Addr) (cap1 : Nat) (W : World), RowF .f32 W a0 zs0 → RowF .f32 W a1 zs1 → Calls Try.prog 45 #[.agg #[.string s0, .int .i64 wd0, .int .i64 hg0, .slice a0 zs0.length cap0], .agg #[.string s1, .int .i64 wd1, .int .i64 hg1, .slice a1 zs1.length cap1]] W (RetHB rs rw rh rz rok W) := by
    intro a0 cap0 a1 cap1 W h0' h1'
    have := joinRecords_spec s0 wd0 hg0 a0 cap0 zs0 s1 wd1 hg1 a1 cap1 zs1 W h0' hl0 hz0 (by omega) h1' hl1 hz1 (by omega)
    rw [hR] at this
    exact this
  have cI : ∀ (a0 : Option Addr) (cap0 : Nat) (a1 : Option Addr) (cap1 : Nat) (W : World), RowF .f32 W a0 zs0 → RowF .f32 W a1 zs1 → Calls Try.prog 46 #[.agg #[.string s0, .int .i64 wd0, .int .i64 hg0, .slice a0 zs0.length cap0], .agg #[.string s1, .int .i64 wd1, .int .i64 hg1, .slice a1 zs1.length cap1]] W (RetHB rs rw rh rz rok W) := by
    intro a0 cap0 a1 cap1 W h0' h1'
    have := joinRecords_impl s0 wd0 hg0 a0 cap0 zs0 s1 wd1 hg1 a1 cap1 zs1 W h0' hl0 hz0 (by omega) h1' hl1 hz1 (by omega)
    rw [hR] at this
    exact this
  have hrl : rz.length ≤ 1048576 := by have := resJoinRecords_len s0 wd0 hg0 zs0 s1 wd1 hg1 zs1; rw [hR] at this; exact this
  have HS := Lib.hid cS; have HI := Lib.hid cI
  clear cS cI hR
  have H0 := Lib.hid hr0
  clear hr0 hz0
  have H1 := Lib.hid hr1
  clear hr1 hz1
  have Hb0 := Lib.hid (Below.refl w.heap.size w)
  go_enter Try.func13, Try.ntmps13
  go_wp2_with fail
  refine (szHill_fits s0 wd0 hg0 a0 zs0.length cap0 _ (by omega) (by omega) _).mono ?_
  rintro e w1 ⟨rfl, hb⟩
  have hs1 : w.heap.size + 2 ≤ w1.heap.size := (by have := hb.size; simpa using this)
  have hst : Below w.heap.size w w1 := (below2 _ _ _).trans (hb.mono (by first | (simp; done) | (simp; omega)))
  have Hb1 := Lib.hid (Hb0.out.trans (hst.mono (by omega)) : Below w.heap.size w w1)
  have BA01 := Lib.hid (BoxH.below ((BoxH.new w s0 wd0 hg0 (.slice a0 zs0.length cap0) 46).alloc _) hb (by first | (simp; done) | (simp; omega)))
  have BA11 := Lib.hid (BoxH.below (BoxH.at (w.alloc _) (w.heap.size + 1) (by simp) s1 wd1 hg1 (.slice a1 zs1.length cap1) 46) hb (by first | (simp; done) | (simp; omega)))
  clear hb hst
  clear Hb0
  obtain ⟨A00, A01, A02, A03, _⟩ := BA01.out
  obtain ⟨A10, A11, A12, A13, _⟩ := BA11.out
  go_wp2_with fail
  refine (szHill_fits s1 wd1 hg1 a1 zs1.length cap1 _ (by omega) (by omega) _).mono ?_
  rintro e w2 ⟨rfl, hb⟩
  have hs2 : w1.heap.size + 0 ≤ w2.heap.size := (by have := hb.size; simpa using this)
  have hst : Below w1.heap.size w1 w2 := (Below.refl _ _).trans (hb.mono (by first | (simp; done) | (simp; omega)))
  have Hb2 := Lib.hid (Hb1.out.trans (hst.mono (by omega)) : Below w.heap.size w w2)
  have BA02 := Lib.hid (BA01.out.below hst (by omega))
  have BA12 := Lib.hid (BA11.out.below hst (by omega))
  clear hb hst
  clear Hb1 BA01 BA11
  clear A00 A01 A02 A03 A10 A11 A12 A13
  obtain ⟨A00, A01, A02, A03, _⟩ := BA02.out
  obtain ⟨A10, A11, A12, A13, _⟩ := BA12.out
  go_upto_region 8 with fail
  go_cut [6, 7] (fun s6 s7 wx => ∃ (wf : World) (bB lo hi capW : Nat) (aW : Option Addr), wf = wx ∧ s6 = .pointer (some ⟨bB, 0, none⟩) ∧ s7 = .bool rok ∧ Hid (BoxH wf bB rs rw rh (.slice aW rz.length capW)) ∧ Hid (FRow wf lo hi (.slice aW rz.length capW) rz) ∧ w2.heap.size ≤ bB ∧ bB < wf.heap.size ∧ w2.heap.size ≤ lo ∧ hi ≤ wf.heap.size ∧ (bB < lo ∨ hi ≤ bB) ∧ Hid (Below w.heap.size w wf) ∧ Hid (BoxH wf w.heap.size s0 wd0 hg0 (.slice a0 zs0.length cap0)) ∧ Hid (BoxH wf (w.heap.size + 1) s1 wd1 hg1 (.slice a1 zs1.length cap1)))
  case first =>
    have tk1 : True := trivial
    go_region_held3 (fun w' => w'.cell? ⟨w.heap.size, 0, none⟩ = some (.string s0) ∧ w'.cell? ⟨w.heap.size, 1, none⟩ = some (.int .i64 wd0) ∧ w'.cell? ⟨w.heap.size, 2, none⟩ = some (.int .i64 hg0) ∧ w'.cell? ⟨w.heap.size, 3, none⟩ = some (.slice a0 zs0.length cap0) ∧ w'.cell? ⟨(w.heap.size + 1), 0, none⟩ = some (.string s1) ∧ w'.cell? ⟨(w.heap.size + 1), 1, none⟩ = some (.int .i64 wd1) ∧ w'.cell? ⟨(w.heap.size + 1), 2, none⟩ = some (.int .i64 hg1) ∧ w'.cell? ⟨(w.heap.size + 1), 3, none⟩ = some (.slice a1 zs1.length cap1))
      (first | with_reducible exact ⟨BoxH.c0 (BA02.out), BoxH.c1 (BA02.out), BoxH.c2 (BA02.out), BoxH.c3 (BA02.out), BoxH.c0 (BA12.out), BoxH.c1 (BA12.out), BoxH.c2 (BA12.out), BoxH.c3 (BA12.out)⟩ | with_reducible exact ⟨BoxH.c0 (BoxH.drew BA02.out), BoxH.c1 (BoxH.drew BA02.out), BoxH.c2 (BoxH.drew BA02.out), BoxH.c3 (BoxH.drew BA02.out), BoxH.c0 (BoxH.drew BA12.out), BoxH.c1 (BoxH.drew BA12.out), BoxH.c2 (BoxH.drew BA12.out), BoxH.c3 (BoxH.drew BA12.out)⟩ | with_reducible exact ⟨BoxH.c0 (BoxH.drew (BoxH.alloc BA02.out _)), BoxH.c1 (BoxH.drew (BoxH.alloc BA02.out _)), BoxH.c2 (BoxH.drew (BoxH.alloc BA02.out _)), BoxH.c3 (BoxH.drew (BoxH.alloc BA02.out _)), BoxH.c0 (BoxH.drew (BoxH.alloc BA12.out _)), BoxH.c1 (BoxH.drew (BoxH.alloc BA12.out _)), BoxH.c2 (BoxH.drew (BoxH.alloc BA12.out _)), BoxH.c3 (BoxH.drew (BoxH.alloc BA12.out _))⟩ | with_reducible exact ⟨BoxH.c0 (BA03.out), BoxH.c1 (BA03.out), BoxH.c2 (BA03.out), BoxH.c3 (BA03.out), BoxH.c0 (BA13.out), BoxH.c1 (BA13.out), BoxH.c2 (BA13.out), BoxH.c3 (BA13.out)⟩ | with_reducible exact ⟨BoxH.c0 (BoxH.alloc BA03.out _), BoxH.c1 (BoxH.alloc BA03.out _), BoxH.c2 (BoxH.alloc BA03.out _), BoxH.c3 (BoxH.alloc BA03.out _), BoxH.c0 (BoxH.alloc BA13.out _), BoxH.c1 (BoxH.alloc BA13.out _), BoxH.c2 (BoxH.alloc BA13.out _), BoxH.c3 (BoxH.alloc BA13.out _)⟩ | with_reducible exact ⟨BoxH.c0 (BA04.out), BoxH.c1 (BA04.out), BoxH.c2 (BA04.out), BoxH.c3 (BA04.out), BoxH.c0 (BA14.out), BoxH.c1 (BA14.out), BoxH.c2 (BA14.out), BoxH.c3 (BA14.out)⟩ | with_reducible exact ⟨BoxH.c0 (BoxH.alloc BA04.out _), BoxH.c1 (BoxH.alloc BA04.out _), BoxH.c2 (BoxH.alloc BA04.out _), BoxH.c3 (BoxH.alloc BA04.out _), BoxH.c0 (BoxH.alloc BA14.out _), BoxH.c1 (BoxH.alloc BA14.out _), BoxH.c2 (BoxH.alloc BA14.out _), BoxH.c3 (BoxH.alloc BA14.out _)⟩ | with_reducible exact ⟨BoxH.c0 (BA05.out), BoxH.c1 (BA05.out), BoxH.c2 (BA05.out), BoxH.c3 (BA05.out), BoxH.c0 (BA15.out), BoxH.c1 (BA15.out), BoxH.c2 (BA15.out), BoxH.c3 (BA15.out)⟩ | with_reducible exact ⟨BoxH.c0 (BoxH.alloc BA05.out _), BoxH.c1 (BoxH.alloc BA05.out _), BoxH.c2 (BoxH.alloc BA05.out _), BoxH.c3 (BoxH.alloc BA05.out _), BoxH.c0 (BoxH.alloc BA15.out _), BoxH.c1 (BoxH.alloc BA15.out _), BoxH.c2 (BoxH.alloc BA15.out _), BoxH.c3 (BoxH.alloc BA15.out _)⟩ | with_reducible exact ⟨(cell_far3 (by omega) _ _ _ _ _).trans (BoxH.c0 BA05.out), (cell_far3 (by omega) _ _ _ _ _).trans (BoxH.c1 BA05.out), (cell_far3 (by omega) _ _ _ _ _).trans (BoxH.c2 BA05.out), (cell_far3 (by omega) _ _ _ _ _).trans (BoxH.c3 BA05.out), (cell_far3 (by omega) _ _ _ _ _).trans (BoxH.c0 BA15.out), (cell_far3 (by omega) _ _ _ _ _).trans (BoxH.c1 BA15.out), (cell_far3 (by omega) _ _ _ _ _).trans (BoxH.c2 BA15.out), (cell_far3 (by omega) _ _ _ _ _).trans (BoxH.c3 BA15.out)⟩)
      (first | (go_at_call 38; have _t := tk1; clear tk1 _t; refine (toHill_any s0 wd0 hg0 a0 cap0 zs0 _ (by first | with_reducible exact (H0.out.below Hb2.out.drew (Nat.le_refl _)) | with_reducible exact (H0.out.below (Hb2.out.alloc (by first | omega | (simp; omega)) _).drew (Nat.le_refl _))) hl0).mono ?_; rintro e w3 ⟨aWc0, capWc0, rfl, hb, hf⟩; have hst : Below w2.heap.size w2 w3 := (by first | with_reducible exact (Below.refl _ _).drew.trans (hb.mono (le_drew _)) | with_reducible exact ((Below.refl w2.heap.size w2).alloc (Nat.le_refl _) _).drew.trans (hb.mono (by first | (simp; done) | (simp; omega)))); have hs3 : w2.heap.size ≤ w3.heap.size := hst.size; have Hb3 := Lib.hid (Hb2.out.trans (hst.mono (by omega)) : Below w.heap.size w w3); have BA03 := Lib.hid (BA02.out.below hst (by omega)); have BA13 := Lib.hid (BA12.out.below hst (by omega)); have RWc03 : Hid (RowAt w3 w3.heap.size (.slice aWc0 zs0.length capWc0) zs0) := ⟨_, hf, Nat.le_refl _⟩; (try (have Zz : Hid (BoxW w3 w2.heap.size ⟨#[]⟩ 0 0 (.slice none 0 0)) := (by with_reducible exact Lib.hid ((BoxW.drew (BoxW.new w2 ⟨#[]⟩ 0 0 (.slice none 0 0) 49)).below hb (by first | (simp; done) | (simp; omega)))); obtain ⟨⟨zr0, zr1, zr2, zr3, _⟩, zrf⟩ := Zz.out)); clear hb hst hf) | (go_at_call 38; refine (toHill_any s1 wd1 hg1 a1 cap1 zs1 _ (by first | with_reducible exact (H1.out.below Hb3.out (Nat.le_refl _)) | with_reducible exact (H1.out.below (Hb3.out.alloc (by first | omega | (simp; omega)) _) (Nat.le_refl _))) hl1).mono ?_; rintro e w4 ⟨aWc1, capWc1, rfl, hb, hf⟩; have hst : Below w3.heap.size w3 w4 := (by first | with_reducible exact hb | with_reducible exact (below1 _ _).trans (hb.mono (by first | (simp; done) | (simp; omega)))); have hs4 : w3.heap.size ≤ w4.heap.size := hst.size; have Hb4 := Lib.hid (Hb3.out.trans (hst.mono (by omega)) : Below w.heap.size w w4); have BA04 := Lib.hid (BA03.out.below hst (by omega)); have BA14 := Lib.hid (BA13.out.below hst (by omega)); have RWc04 := Lib.hid (RWc03.out.below hst); have RWc14 : Hid (RowAt w4 w4.heap.size (.slice aWc1 zs1.length capWc1) zs1) := ⟨_, hf, Nat.le_refl _⟩; (try (first | (have Zy := Lib.hid (Zz.out.below hst (by omega)); clear Zz zr0 zr1 zr2 zr3 zrf; have Zz := Lib.hid Zy.out; clear Zy; obtain ⟨⟨zr0, zr1, zr2, zr3, _⟩, zrf⟩ := Zz.out) | (have Zz : Hid (BoxW w4 w3.heap.size ⟨#[]⟩ 0 0 (.slice none 0 0)) := (by with_reducible exact Lib.hid ((BoxW.new w3 ⟨#[]⟩ 0 0 (.slice none 0 0) 49).below hb (by first | (simp; done) | (simp; omega)))); obtain ⟨⟨zr0, zr1, zr2, zr3, _⟩, zrf⟩ := Zz.out))); clear hb hst hf) | (go_at_call 45; refine (HS.out aWc0 capWc0 aWc1 capWc1 _ (by first | with_reducible exact RWc04.out.row | with_reducible exact (RWc04.out.alloc _).row) (by first | with_reducible exact RWc14.out.row | with_reducible exact (RWc14.out.alloc _).row)).mono ?_; rintro e w5 ⟨aW, capW, rfl, hb, hf⟩; have hst : Below w4.heap.size w4 w5 := (by first | with_reducible exact hb | with_reducible exact (below1 _ _).trans (hb.mono (by first | (simp; done) | (simp; omega)))); have hs5 : w4.heap.size ≤ w5.heap.size := hst.size; have Hb5 := Lib.hid (Hb4.out.trans (hst.mono (by omega)) : Below w.heap.size w w5); have BA05 := Lib.hid (BA04.out.below hst (by omega)); have BA15 := Lib.hid (BA14.out.below hst (by omega)); (try (first | (have hzlt := Zz.out.1.2.2.2.2; (have Zy := Lib.hid (Zz.out.below hst (by omega)); clear Zz zr0 zr1 zr2 zr3 zrf; have Zz := Lib.hid Zy.out; clear Zy; obtain ⟨⟨zr0, zr1, zr2, zr3, _⟩, zrf⟩ := Zz.out)) | (have Zz : Hid (BoxW w5 w4.heap.size ⟨#[]⟩ 0 0 (.slice none 0 0)) := (by with_reducible exact Lib.hid ((BoxW.new w4 ⟨#[]⟩ 0 0 (.slice none 0 0) 49).below hb (by first | (simp; done) | (simp; omega)))); obtain ⟨⟨zr0, zr1, zr2, zr3, _⟩, zrf⟩ := Zz.out))); have Hf := Lib.hid hf; have Hbz := Lib.hid hb; clear hb hst hf))
    all_goals
      go_wp2_with fail
      go_meet
      have Hbs := Hbz.out.size
    · exact ⟨_, w5.heap.size, _, _, capW, aW, rfl, rfl, rfl, BoxH.new _ _ _ _ _ _, Hf.out.alloc _, by omega, by simp, by omega, by simp, .inr (Nat.le_refl _), Hb5.out.alloc (by omega) _, BoxH.alloc BA05.out _, BoxH.alloc BA15.out _⟩
    · exact ⟨_, w4.heap.size, w4.heap.size + 1, w5.heap.size, capW, aW, rfl, rfl, rfl, BoxH.setNew Zz.out rs rw rh (.slice aW rz.length capW), FRow.setFar (Hf.out.mono (lo' := w4.heap.size + 1) (by simp) (Nat.le_refl _) (Nat.le_refl _)) (w4.heap.size) (.inl (by omega)) rs rw rh (.slice aW rz.length capW), by omega, (by simp only [setCell_size]; omega), by omega, (by simp only [setCell_size]; exact Nat.le_refl _), .inl (by omega), putHill_below Hb5.out (w4.heap.size) (by omega) rs rw rh (.slice aW rz.length capW), BoxH.setFar BA05.out (w4.heap.size) (by omega) rs rw rh (.slice aW rz.length capW), BoxH.setFar BA15.out (w4.heap.size) (by omega) rs rw rh (.slice aW rz.length capW)⟩
    · exact ⟨_, w3.heap.size, w4.heap.size, w5.heap.size, capW, aW, rfl, rfl, rfl, BoxH.setNew Zz.out rs rw rh (.slice aW rz.length capW), FRow.setFar Hf.out (w3.heap.size) (.inl (by omega)) rs rw rh (.slice aW rz.length capW), by omega, (by simp only [setCell_size]; omega), by omega, (by simp only [setCell_size]; exact Nat.le_refl _), .inl (by omega), putHill_below Hb5.out (w3.heap.size) (by omega) rs rw rh (.slice aW rz.length capW), BoxH.setFar BA05.out (w3.heap.size) (by omega) rs rw rh (.slice aW rz.length capW), BoxH.setFar BA15.out (w3.heap.size) (by omega) rs rw rh (.slice aW rz.length capW)⟩
    · exact ⟨_, w2.heap.size, w4.heap.size, w5.heap.size, capW, aW, rfl, rfl, rfl, BoxH.setNew Zz.out rs rw rh (.slice aW rz.length capW), FRow.setFar Hf.out (w2.heap.size) (.inl (by omega)) rs rw rh (.slice aW rz.length capW), by omega, (by simp only [setCell_size]; omega), by omega, (by simp only [setCell_size]; exact Nat.le_refl _), .inl (by omega), putHill_below Hb5.out (w2.heap.size) (by omega) rs rw rh (.slice aW rz.length capW), BoxH.setFar BA05.out (w2.heap.size) (by omega) rs rw rh (.slice aW rz.length capW), BoxH.setFar BA15.out (w2.heap.size) (by omega) rs rw rh (.slice aW rz.length capW)⟩
  case rest =>
  obtain ⟨w6, bW, loW, hiW, capW, aW, rfl, rfl, rfl, BW6, FW6, qW1, qW2, qW3, qW4, qW5, Hb6, BA06, BA16⟩ := hcut
  have hs6 : w2.heap.size ≤ w6.heap.size := by omega
  clear A00 A01 A02 A03 A10 A11 A12 A13
  obtain ⟨A00, A01, A02, A03, _⟩ := BA06.out
  obtain ⟨A10, A11, A12, A13, _⟩ := BA16.out
  obtain ⟨W0, W1, W2, W3, _⟩ := BW6.out
  go_wp2_with fail
  refine (toHill_any s0 wd0 hg0 a0 cap0 zs0 _ (by exact (H0.out.below Hb6.out (Nat.le_refl _))) hl0).mono ?_
  rintro e w7 ⟨aX0, capX0, rfl, hb, hf⟩
  have hs7 : w6.heap.size + 0 ≤ w7.heap.size := (by have := hb.size; simpa using this)
  have hst : Below w6.heap.size w6 w7 := (Below.refl _ _).trans (hb.mono (by first | (simp; done) | (simp; omega)))
  have Hb7 := Lib.hid (Hb6.out.trans (hst.mono (by omega)) : Below w.heap.size w w7)
  have BA07 := Lib.hid (BA06.out.below hst (by omega))
  have BA17 := Lib.hid (BA16.out.below hst (by omega))
  have BW7 := Lib.hid (BW6.out.below hst (by omega))
  have FW7 := Lib.hid (FW6.out.below hst (by omega))
  have FX07 := Lib.hid (hf.mono (lo' := w6.heap.size + 0) (by first | (simp; done) | (simp; omega)) (Nat.le_refl _) (Nat.le_refl _))
  clear hb hst hf
  clear Hb6 BA06 BA16 BW6 FW6
  clear A00 A01 A02 A03 A10 A11 A12 A13 W0 W1 W2 W3
  obtain ⟨A00, A01, A02, A03, _⟩ := BA07.out
  obtain ⟨A10, A11, A12, A13, _⟩ := BA17.out
  obtain ⟨W0, W1, W2, W3, _⟩ := BW7.out
  go_wp2_with fail
  refine (toHill_any s1 wd1 hg1 a1 cap1 zs1 _ (by exact ((H1.out.below Hb7.out (Nat.le_refl _)).below (below1 _ _) (Nat.le_refl _))) hl1).mono ?_
  rintro e w8 ⟨aX1, capX1, rfl, hb, hf⟩
  have hs8 : w7.heap.size + 1 ≤ w8.heap.size := (by have := hb.size; simpa using this)
  have hst : Below w7.heap.size w7 w8 := (below1 _ _).trans (hb.mono (by first | (simp; done) | (simp; omega)))
  have Hb8 := Lib.hid (Hb7.out.trans (hst.mono (by omega)) : Below w.heap.size w w8)
  have BA08 := Lib.hid (BA07.out.below hst (by omega))
  have BA18 := Lib.hid (BA17.out.below hst (by omega))
  have BW8 := Lib.hid (BW7.out.below hst (by omega))
  have FW8 := Lib.hid (FW7.out.below hst (by omega))
  have FX08 := Lib.hid (FX07.out.below hst (by omega))
  have BX08 := Lib.hid (BoxH.below (BoxH.new w7 s0 wd0 hg0 (.slice aX0 zs0.length capX0) 49) hb (by first | (simp; done) | (simp; omega)))
  have FX18 := Lib.hid (hf.mono (lo' := w7.heap.size + 1) (by first | (simp; done) | (simp; omega)) (Nat.le_refl _) (Nat.le_refl _))
  clear hb hst hf
  clear Hb7 BA07 BA17 BW7 FW7 FX07
  clear A00 A01 A02 A03 A10 A11 A12 A13 W0 W1 W2 W3
  obtain ⟨A00, A01, A02, A03, _⟩ := BA08.out
  obtain ⟨A10, A11, A12, A13, _⟩ := BA18.out
  obtain ⟨W0, W1, W2, W3, _⟩ := BW8.out
  obtain ⟨X00, X01, X02, X03, _⟩ := BX08.out
  go_wp2_with fail
  refine (HI.out aX0 capX0 aX1 capX1 _ (by exact (FX08.out.alloc _).row) (by exact (FX18.out.alloc _).row)).mono ?_
  rintro e w9 ⟨aG, capG, rfl, hb, hf⟩
  have hs9 : w8.heap.size + 1 ≤ w9.heap.size := (by have := hb.size; simpa using this)
  have hst : Below w8.heap.size w8 w9 := (below1 _ _).trans (hb.mono (by first | (simp; done) | (simp; omega)))
  have Hb9 := Lib.hid (Hb8.out.trans (hst.mono (by omega)) : Below w.heap.size w w9)
  have BA09 := Lib.hid (BA08.out.below hst (by omega))
  have BA19 := Lib.hid (BA18.out.below hst (by omega))
  have BW9 := Lib.hid (BW8.out.below hst (by omega))
  have BX09 := Lib.hid (BX08.out.below hst (by omega))
  have FW9 := Lib.hid (FW8.out.below hst (by omega))
  have FX09 := Lib.hid (FX08.out.below hst (by omega))
  have FX19 := Lib.hid (FX18.out.below hst (by omega))
  have BX19 := Lib.hid (BoxH.below (BoxH.new w8 s1 wd1 hg1 (.slice aX1 zs1.length capX1) 49) hb (by first | (simp; done) | (simp; omega)))
  have FG9 := Lib.hid (hf.mono (lo' := w8.heap.size + 1) (by first | (simp; done) | (simp; omega)) (Nat.le_refl _) (Nat.le_refl _))
  clear hb hst hf
  clear Hb8 BA08 BA18 BW8 BX08 FW8 FX08 FX18
  clear A00 A01 A02 A03 A10 A11 A12 A13 W0 W1 W2 W3 X00 X01 X02 X03
  obtain ⟨A00, A01, A02, A03, _⟩ := BA09.out
  obtain ⟨A10, A11, A12, A13, _⟩ := BA19.out
  obtain ⟨W0, W1, W2, W3, _⟩ := BW9.out
  obtain ⟨X00, X01, X02, X03, _⟩ := BX09.out
  obtain ⟨X10, X11, X12, X13, _⟩ := BX19.out
  go_wp2_with fail
  refine (eqHill_any rs rw rh aG aW capG capW rz _ (by exact (FG9.out.alloc _).row) (by exact (FW9.out.alloc _).row) hrl).mono ?_
  rintro e w10 ⟨rfl, hb⟩
  have hs10 : w9.heap.size + 1 ≤ w10.heap.size := (by have := hb.size; simpa using this)
  have hst : Below w9.heap.size w9 w10 := (below1 _ _).trans (hb.mono (by first | (simp; done) | (simp; omega)))
  have Hb10 := Lib.hid (Hb9.out.trans (hst.mono (by omega)) : Below w.heap.size w w10)
  have BA010 := Lib.hid (BA09.out.below hst (by omega))
  have BA110 := Lib.hid (BA19.out.below hst (by omega))
  have BW10 := Lib.hid (BW9.out.below hst (by omega))
  have BX010 := Lib.hid (BX09.out.below hst (by omega))
  have BX110 := Lib.hid (BX19.out.below hst (by omega))
  have FW10 := Lib.hid (FW9.out.below hst (by omega))
  have FX010 := Lib.hid (FX09.out.below hst (by omega))
  have FX110 := Lib.hid (FX19.out.below hst (by omega))
  have FG10 := Lib.hid (FG9.out.below hst (by omega))
  have BG10 := Lib.hid (BoxH.below (BoxH.new w9 rs rw rh (.slice aG rz.length capG) 49) hb (by first | (simp; done) | (simp; omega)))
  clear hb hst
  clear Hb9 BA09 BA19 BW9 BX09 BX19 FW9 FX09 FX19 FG9
  clear A00 A01 A02 A03 A10 A11 A12 A13 W0 W1 W2 W3 X00 X01 X02 X03 X10 X11 X12 X13
  obtain ⟨A00, A01, A02, A03, _⟩ := BA010.out
  obtain ⟨A10, A11, A12, A13, _⟩ := BA110.out
  obtain ⟨W0, W1, W2, W3, _⟩ := BW10.out
  obtain ⟨X00, X01, X02, X03, _⟩ := BX010.out
  obtain ⟨X10, X11, X12, X13, _⟩ := BX110.out
  obtain ⟨G0, G1, G2, G3, _⟩ := BG10.out
  go_wp2_with fail
  go_region_held3 (fun w' => w'.cell? ⟨w7.heap.size, 0, none⟩ = some (.string s0) ∧ w'.cell? ⟨w7.heap.size, 1, none⟩ = some (.int .i64 wd0) ∧ w'.cell? ⟨w7.heap.size, 2, none⟩ = some (.int .i64 hg0) ∧ w'.cell? ⟨w7.heap.size, 3, none⟩ = some (.slice aX0 zs0.length capX0) ∧ w'.cell? ⟨w.heap.size, 0, none⟩ = some (.string s0) ∧ w'.cell? ⟨w.heap.size, 1, none⟩ = some (.int .i64 wd0) ∧ w'.cell? ⟨w.heap.size, 2, none⟩ = some (.int .i64 hg0) ∧ w'.cell? ⟨w.heap.size, 3, none⟩ = some (.slice a0 zs0.length cap0))
    (first | with_reducible exact ⟨BoxH.c0 (BX012.out), BoxH.c1 (BX012.out), BoxH.c2 (BX012.out), BoxH.c3 (BX012.out), BoxH.c0 (BA012.out), BoxH.c1 (BA012.out), BoxH.c2 (BA012.out), BoxH.c3 (BA012.out)⟩ | with_reducible exact ⟨BoxH.c0 (BX011.out), BoxH.c1 (BX011.out), BoxH.c2 (BX011.out), BoxH.c3 (BX011.out), BoxH.c0 (BA011.out), BoxH.c1 (BA011.out), BoxH.c2 (BA011.out), BoxH.c3 (BA011.out)⟩ | with_reducible exact ⟨BoxH.c0 (BX010.out), BoxH.c1 (BX010.out), BoxH.c2 (BX010.out), BoxH.c3 (BX010.out), BoxH.c0 (BA010.out), BoxH.c1 (BA010.out), BoxH.c2 (BA010.out), BoxH.c3 (BA010.out)⟩ | with_reducible exact ⟨BoxH.c0 (BoxH.drew BX010.out), BoxH.c1 (BoxH.drew BX010.out), BoxH.c2 (BoxH.drew BX010.out), BoxH.c3 (BoxH.drew BX010.out), BoxH.c0 (BoxH.drew BA010.out), BoxH.c1 (BoxH.drew BA010.out), BoxH.c2 (BoxH.drew BA010.out), BoxH.c3 (BoxH.drew BA010.out)⟩)
    (first | (go_at_call 38; refine (toHill_any s0 wd0 hg0 a0 cap0 zs0 _ (by exact (H0.out.below Hb10.out.drew (Nat.le_refl _))) hl0).mono ?_; rintro e w11 ⟨aX0c, capX0c, rfl, hb, hf⟩; have hs11 : w10.heap.size ≤ w11.heap.size := hb.size; have hst : Below w10.heap.size w10 w11 := ((below_drewN (Below.refl _ _) 1).trans (by exact hb)); have Hb11 := Lib.hid (Hb10.out.trans (hst.mono (by omega)) : Below w.heap.size w w11); have BA011 := Lib.hid (BA010.out.below hst (by omega)); have BA111 := Lib.hid (BA110.out.below hst (by omega)); have BW11 := Lib.hid (BW10.out.below hst (by omega)); have BX011 := Lib.hid (BX010.out.below hst (by omega)); have BX111 := Lib.hid (BX110.out.below hst (by omega)); have BG11 := Lib.hid (BG10.out.below hst (by omega)); have FW11 := Lib.hid (FW10.out.below hst (by omega)); have FX011 := Lib.hid (FX010.out.below hst (by omega)); have FX111 := Lib.hid (FX110.out.below hst (by omega)); have FG11 := Lib.hid (FG10.out.below hst (by omega)); have FX0c11 := Lib.hid hf; clear hb hst hf) | (go_at_call 40; refine (eqHill_any s0 wd0 hg0 aX0 aX0c capX0 capX0c zs0 _ (by exact FX011.out.row) (by exact FX0c11.out.row) hl0).mono ?_; rintro e w12 ⟨rfl, hb⟩; have hs12 : w11.heap.size + 0 ≤ w12.heap.size := (by have := hb.size; simpa using this); have hst : Below w11.heap.size w11 w12 := (Below.refl _ _).trans (hb.mono (by first | (simp; done) | (simp; omega))); have Hb12 := Lib.hid (Hb11.out.trans (hst.mono (by omega)) : Below w.heap.size w w12); have BA012 := Lib.hid (BA011.out.below hst (by omega)); have BA112 := Lib.hid (BA111.out.below hst (by omega)); have BW12 := Lib.hid (BW11.out.below hst (by omega)); have BX012 := Lib.hid (BX011.out.below hst (by omega)); have BX112 := Lib.hid (BX111.out.below hst (by omega)); have BG12 := Lib.hid (BG11.out.below hst (by omega)); have FW12 := Lib.hid (FW11.out.below hst (by omega)); have FX012 := Lib.hid (FX011.out.below hst (by omega)); have FX112 := Lib.hid (FX111.out.below hst (by omega)); have FG12 := Lib.hid (FG11.out.below hst (by omega)); have FX0c12 := Lib.hid (FX0c11.out.below hst (by omega)); clear hb hst))
  clear A00 A01 A02 A03 A10 A11 A12 A13 W0 W1 W2 W3 X00 X01 X02 X03 X10 X11 X12 X13 G0 G1 G2 G3
  obtain ⟨A00, A01, A02, A03, _⟩ := BA012.out
  obtain ⟨A10, A11, A12, A13, _⟩ := BA112.out
  obtain ⟨W0, W1, W2, W3, _⟩ := BW12.out
  obtain ⟨X00, X01, X02, X03, _⟩ := BX012.out
  obtain ⟨X10, X11, X12, X13, _⟩ := BX112.out
  obtain ⟨G0, G1, G2, G3, _⟩ := BG12.out
  go_wp2_with fail
  go_region_held3 (fun w' => w'.cell? ⟨w8.heap.size, 0, none⟩ = some (.string s1) ∧ w'.cell? ⟨w8.heap.size, 1, none⟩ = some (.int .i64 wd1) ∧ w'.cell? ⟨w8.heap.size, 2, none⟩ = some (.int .i64 hg1) ∧ w'.cell? ⟨w8.heap.size, 3, none⟩ = some (.slice aX1 zs1.length capX1) ∧ w'.cell? ⟨(w.heap.size + 1), 0, none⟩ = some (.string s1) ∧ w'.cell? ⟨(w.heap.size + 1), 1, none⟩ = some (.int .i64 wd1) ∧ w'.cell? ⟨(w.heap.size + 1), 2, none⟩ = some (.int .i64 hg1) ∧ w'.cell? ⟨(w.heap.size + 1), 3, none⟩ = some (.slice a1 zs1.length cap1))
    (first | with_reducible exact ⟨BoxH.c0 (BX114.out), BoxH.c1 (BX114.out), BoxH.c2 (BX114.out), BoxH.c3 (BX114.out), BoxH.c0 (BA114.out), BoxH.c1 (BA114.out), BoxH.c2 (BA114.out), BoxH.c3 (BA114.out)⟩ | with_reducible exact ⟨BoxH.c0 (BX113.out), BoxH.c1 (BX113.out), BoxH.c2 (BX113.out), BoxH.c3 (BX113.out), BoxH.c0 (BA113.out), BoxH.c1 (BA113.out), BoxH.c2 (BA113.out), BoxH.c3 (BA113.out)⟩ | with_reducible exact ⟨BoxH.c0 (BX112.out), BoxH.c1 (BX112.out), BoxH.c2 (BX112.out), BoxH.c3 (BX112.out), BoxH.c0 (BA112.out), BoxH.c1 (BA112.out), BoxH.c2 (BA112.out), BoxH.c3 (BA112.out)⟩ | with_reducible exact ⟨BoxH.c0 (BoxH.drew BX112.out), BoxH.c1 (BoxH.drew BX112.out), BoxH.c2 (BoxH.drew BX112.out), BoxH.c3 (BoxH.drew BX112.out), BoxH.c0 (BoxH.drew BA112.out), BoxH.c1 (BoxH.drew BA112.out), BoxH.c2 (BoxH.drew BA112.out), BoxH.c3 (BoxH.drew BA112.out)⟩)
    (first | (go_at_call 38; refine (toHill_any s1 wd1 hg1 a1 cap1 zs1 _ (by exact (H1.out.below Hb12.out.drew (Nat.le_refl _))) hl1).mono ?_; rintro e w13 ⟨aX1c, capX1c, rfl, hb, hf⟩; have hs13 : w12.heap.size ≤ w13.heap.size := hb.size; have hst : Below w12.heap.size w12 w13 := ((below_drewN (Below.refl _ _) 1).trans (by exact hb)); have Hb13 := Lib.hid (Hb12.out.trans (hst.mono (by omega)) : Below w.heap.size w w13); have BA013 := Lib.hid (BA012.out.below hst (by omega)); have BA113 := Lib.hid (BA112.out.below hst (by omega)); have BW13 := Lib.hid (BW12.out.below hst (by omega)); have BX013 := Lib.hid (BX012.out.below hst (by omega)); have BX113 := Lib.hid (BX112.out.below hst (by omega)); have BG13 := Lib.hid (BG12.out.below hst (by omega)); have FW13 := Lib.hid (FW12.out.below hst (by omega)); have FX013 := Lib.hid (FX012.out.below hst (by omega)); have FX113 := Lib.hid (FX112.out.below hst (by omega)); have FG13 := Lib.hid (FG12.out.below hst (by omega)); have FX1c13 := Lib.hid hf; clear hb hst hf) | (go_at_call 40; refine (eqHill_any s1 wd1 hg1 aX1 aX1c capX1 capX1c zs1 _ (by exact FX113.out.row) (by exact FX1c13.out.row) hl1).mono ?_; rintro e w14 ⟨rfl, hb⟩; have hs14 : w13.heap.size + 0 ≤ w14.heap.size := (by have := hb.size; simpa using this); have hst : Below w13.heap.size w13 w14 := (Below.refl _ _).trans (hb.mono (by first | (simp; done) | (simp; omega))); have Hb14 := Lib.hid (Hb13.out.trans (hst.mono (by omega)) : Below w.heap.size w w14); have BA014 := Lib.hid (BA013.out.below hst (by omega)); have BA114 := Lib.hid (BA113.out.below hst (by omega)); have BW14 := Lib.hid (BW13.out.below hst (by omega)); have BX014 := Lib.hid (BX013.out.below hst (by omega)); have BX114 := Lib.hid (BX113.out.below hst (by omega)); have BG14 := Lib.hid (BG13.out.below hst (by omega)); have FW14 := Lib.hid (FW13.out.below hst (by omega)); have FX014 := Lib.hid (FX013.out.below hst (by omega)); have FX114 := Lib.hid (FX113.out.below hst (by omega)); have FG14 := Lib.hid (FG13.out.below hst (by omega)); have FX1c14 := Lib.hid (FX1c13.out.below hst (by omega)); clear hb hst))
  clear A00 A01 A02 A03 A10 A11 A12 A13 W0 W1 W2 W3 X00 X01 X02 X03 X10 X11 X12 X13 G0 G1 G2 G3
  obtain ⟨A00, A01, A02, A03, _⟩ := BA014.out
  obtain ⟨A10, A11, A12, A13, _⟩ := BA114.out
  obtain ⟨W0, W1, W2, W3, _⟩ := BW14.out
  obtain ⟨X00, X01, X02, X03, _⟩ := BX014.out
  obtain ⟨X10, X11, X12, X13, _⟩ := BX114.out
  obtain ⟨G0, G1, G2, G3, _⟩ := BG14.out
  go_wp2_with fail
  refine (markHill_any (w6.heap.size) (w7.heap.size) 1 s0 wd0 hg0 aX0 capX0 zs0 _ (by exact FX014.out) hl0 (by omega)).mono ?_
  rintro e w15 ⟨rfl, hf, hk⟩
  have hs15 : w14.heap.size + 0 ≤ w15.heap.size := (by have := hk.size; simpa using this)
  have hkst : Kept (w6.heap.size) (w7.heap.size) w14 w15 := (Kept.of_below (Below.refl _ _) (Nat.le_refl _)).trans hk
  have Hb15 := Lib.hid (Hb14.out.trans (hkst.below (by omega) (by omega)) : Below w.heap.size w w15)
  have BA015 := Lib.hid (BA014.out.kept hkst (by omega))
  have BA115 := Lib.hid (BA114.out.kept hkst (by omega))
  have BW15 := Lib.hid (BW14.out.kept hkst (by omega))
  have BX015 := Lib.hid (BX014.out.kept hkst (by omega))
  have BX115 := Lib.hid (BX114.out.kept hkst (by omega))
  have BG15 := Lib.hid (BG14.out.kept hkst (by omega))
  have FW15 := Lib.hid (FW14.out.kept hkst (by omega))
  have FX015 := Lib.hid hf
  have FX115 := Lib.hid (FX114.out.kept hkst (by omega))
  have FG15 := Lib.hid (FG14.out.kept hkst (by omega))
  clear hk hkst hf
  clear Hb14 BA014 BA114 BW14 BX014 BX114 BG14 FW14 FX014 FX114 FG14
  clear A00 A01 A02 A03 A10 A11 A12 A13 W0 W1 W2 W3 X00 X01 X02 X03 X10 X11 X12 X13 G0 G1 G2 G3
  obtain ⟨A00, A01, A02, A03, _⟩ := BA015.out
  obtain ⟨A10, A11, A12, A13, _⟩ := BA115.out
  obtain ⟨W0, W1, W2, W3, _⟩ := BW15.out
  obtain ⟨X00, X01, X02, X03, _⟩ := BX015.out
  obtain ⟨X10, X11, X12, X13, _⟩ := BX115.out
  obtain ⟨G0, G1, G2, G3, _⟩ := BG15.out
  go_wp2_with fail
  refine (markHill_any (w7.heap.size + 1) (w8.heap.size) (1 + zs0.length) s1 wd1 hg1 aX1 capX1 zs1 _ (by exact FX115.out) hl1 (by omega)).mono ?_
  rintro e w16 ⟨rfl, hf, hk⟩
  have hs16 : w15.heap.size + 0 ≤ w16.heap.size := (by have := hk.size; simpa using this)
  have hkst : Kept (w7.heap.size + 1) (w8.heap.size) w15 w16 := (Kept.of_below (Below.refl _ _) (Nat.le_refl _)).trans hk
  have Hb16 := Lib.hid (Hb15.out.trans (hkst.below (by omega) (by omega)) : Below w.heap.size w w16)
  have BA016 := Lib.hid (BA015.out.kept hkst (by omega))
  have BA116 := Lib.hid (BA115.out.kept hkst (by omega))
  have BW16 := Lib.hid (BW15.out.kept hkst (by omega))
  have BX016 := Lib.hid (BX015.out.kept hkst (by omega))
  have BX116 := Lib.hid (BX115.out.kept hkst (by omega))
  have BG16 := Lib.hid (BG15.out.kept hkst (by omega))
  have FW16 := Lib.hid (FW15.out.kept hkst (by omega))
  have FX116 := Lib.hid hf
  have FG16 := Lib.hid (FG15.out.kept hkst (by omega))
  clear hk hkst hf
  clear Hb15 BA015 BA115 BW15 BX015 BX115 BG15 FW15 FX115 FG15
  clear A00 A01 A02 A03 A10 A11 A12 A13 W0 W1 W2 W3 X00 X01 X02 X03 X10 X11 X12 X13 G0 G1 G2 G3
  obtain ⟨A00, A01, A02, A03, _⟩ := BA016.out
  obtain ⟨A10, A11, A12, A13, _⟩ := BA116.out
  obtain ⟨W0, W1, W2, W3, _⟩ := BW16.out
  obtain ⟨X00, X01, X02, X03, _⟩ := BX016.out
  obtain ⟨X10, X11, X12, X13, _⟩ := BX116.out
  obtain ⟨G0, G1, G2, G3, _⟩ := BG16.out
  go_wp2_with fail
  refine (eqHill_any rs rw rh aG aW capG capW rz _ (by exact FG16.out.row) (by exact FW16.out.row) hrl).mono ?_
  rintro e w17 ⟨rfl, hb⟩
  have hs17 : w16.heap.size + 0 ≤ w17.heap.size := (by have := hb.size; simpa using this)
  have hst : Below w16.heap.size w16 w17 := (Below.refl _ _).trans (hb.mono (by first | (simp; done) | (simp; omega)))
  have Hb17 := Lib.hid (Hb16.out.trans (hst.mono (by omega)) : Below w.heap.size w w17)
  have BA017 := Lib.hid (BA016.out.below hst (by omega))
  have BA117 := Lib.hid (BA116.out.below hst (by omega))
  have BW17 := Lib.hid (BW16.out.below hst (by omega))
  have BX017 := Lib.hid (BX016.out.below hst (by omega))
  have BX117 := Lib.hid (BX116.out.below hst (by omega))
  have BG17 := Lib.hid (BG16.out.below hst (by omega))
  have FW17 := Lib.hid (FW16.out.below hst (by omega))
  have FG17 := Lib.hid (FG16.out.below hst (by omega))
  clear hb hst
  clear Hb16 BA016 BA116 BW16 BX016 BX116 BG16 FW16 FG16
  clear A00 A01 A02 A03 A10 A11 A12 A13 W0 W1 W2 W3 X00 X01 X02 X03 X10 X11 X12 X13 G0 G1 G2 G3
  obtain ⟨A00, A01, A02, A03, _⟩ := BA017.out
  obtain ⟨A10, A11, A12, A13, _⟩ := BA117.out
  obtain ⟨W0, W1, W2, W3, _⟩ := BW17.out
  obtain ⟨X00, X01, X02, X03, _⟩ := BX017.out
  obtain ⟨X10, X11, X12, X13, _⟩ := BX117.out
  obtain ⟨G0, G1, G2, G3, _⟩ := BG17.out
  go_wp2_with fail
  refine (markHill_any (w8.heap.size + 1) (w9.heap.size) 1 rs rw rh aG capG rz _ (by exact FG17.out) hrl (by omega)).mono ?_
  rintro e w18 ⟨rfl, hf, hk⟩
  have hs18 : w17.heap.size + 0 ≤ w18.heap.size := (by have := hk.size; simpa using this)
  have hkst : Kept (w8.heap.size + 1) (w9.heap.size) w17 w18 := (Kept.of_below (Below.refl _ _) (Nat.le_refl _)).trans hk
  have Hb18 := Lib.hid (Hb17.out.trans (hkst.below (by omega) (by omega)) : Below w.heap.size w w18)
  have BA018 := Lib.hid (BA017.out.kept hkst (by omega))
  have BA118 := Lib.hid (BA117.out.kept hkst (by omega))
  have BW18 := Lib.hid (BW17.out.kept hkst (by omega))
  have BX018 := Lib.hid (BX017.out.kept hkst (by omega))
  have BX118 := Lib.hid (BX117.out.kept hkst (by omega))
  have BG18 := Lib.hid (BG17.out.kept hkst (by omega))
  have FW18 := Lib.hid (FW17.out.kept hkst (by omega))
  have FG18 := Lib.hid hf
  clear hk hkst hf
  clear Hb17 BA017 BA117 BW17 BX017 BX117 BG17 FW17 FG17
  clear A00 A01 A02 A03 A10 A11 A12 A13 W0 W1 W2 W3 X00 X01 X02 X03 X10 X11 X12 X13 G0 G1 G2 G3
  obtain ⟨A00, A01, A02, A03, _⟩ := BA018.out
  obtain ⟨A10, A11, A12, A13, _⟩ := BA118.out
  obtain ⟨W0, W1, W2, W3, _⟩ := BW18.out
  obtain ⟨X00, X01, X02, X03, _⟩ := BX018.out
  obtain ⟨X10, X11, X12, X13, _⟩ := BX118.out
  obtain ⟨G0, G1, G2, G3, _⟩ := BG18.out
  go_wp2_with fail
  refine (heldHill_any (w8.heap.size + 1) (w9.heap.size) 1 rz.length rs rw rh aG capG _ (by exact FG18.out) hrl (by omega)).mono ?_
  rintro e w19 ⟨rfl, hb⟩
  have hs19 : w18.heap.size + 0 ≤ w19.heap.size := (by have := hb.size; simpa using this)
  have hst : Below w18.heap.size w18 w19 := (Below.refl _ _).trans (hb.mono (by first | (simp; done) | (simp; omega)))
  have Hb19 := Lib.hid (Hb18.out.trans (hst.mono (by omega)) : Below w.heap.size w w19)
  have BA019 := Lib.hid (BA018.out.below hst (by omega))
  have BA119 := Lib.hid (BA118.out.below hst (by omega))
  have BW19 := Lib.hid (BW18.out.below hst (by omega))
  have BX019 := Lib.hid (BX018.out.below hst (by omega))
  have BX119 := Lib.hid (BX118.out.below hst (by omega))
  have BG19 := Lib.hid (BG18.out.below hst (by omega))
  have FW19 := Lib.hid (FW18.out.below hst (by omega))
  have FG19 := Lib.hid (FG18.out.below hst (by omega))
  clear hb hst
  clear Hb18 BA018 BA118 BW18 BX018 BX118 BG18 FW18 FG18
  clear A00 A01 A02 A03 A10 A11 A12 A13 W0 W1 W2 W3 X00 X01 X02 X03 X10 X11 X12 X13 G0 G1 G2 G3
  obtain ⟨A00, A01, A02, A03, _⟩ := BA019.out
  obtain ⟨A10, A11, A12, A13, _⟩ := BA119.out
  obtain ⟨W0, W1, W2, W3, _⟩ := BW19.out
  obtain ⟨X00, X01, X02, X03, _⟩ := BX019.out
  obtain ⟨X10, X11, X12, X13, _⟩ := BX119.out
  obtain ⟨G0, G1, G2, G3, _⟩ := BG19.out
  go_upto_region 31 with fail
  go_cut [15, 16] (fun s6 s7 wx => ∃ (wf : World) (bB lo hi capH : Nat) (aH : Option Addr), wf = wx ∧ s6 = .pointer (some ⟨bB, 0, none⟩) ∧ s7 = .bool rok ∧ Hid (BoxH wf bB rs rw rh (.slice aH rz.length capH)) ∧ Hid (FRow wf lo hi (.slice aH rz.length capH) rz) ∧ w19.heap.size ≤ bB ∧ bB < wf.heap.size ∧ w19.heap.size ≤ lo ∧ hi ≤ wf.heap.size ∧ (bB < lo ∨ hi ≤ bB) ∧ Hid (Below w.heap.size w wf) ∧ Hid (BoxH wf w.heap.size s0 wd0 hg0 (.slice a0 zs0.length cap0)) ∧ Hid (BoxH wf (w.heap.size + 1) s1 wd1 hg1 (.slice a1 zs1.length cap1)) ∧ Hid (BoxH wf bW rs rw rh (.slice aW rz.length capW)) ∧ Hid (BoxH wf w7.heap.size s0 wd0 hg0 (.slice aX0 zs0.length capX0)) ∧ Hid (BoxH wf w8.heap.size s1 wd1 hg1 (.slice aX1 zs1.length capX1)) ∧ Hid (BoxH wf w9.heap.size rs rw rh (.slice aG rz.length capG)) ∧ Hid (FRow wf (loW) (hiW) (.slice aW rz.length capW) rz) ∧ Hid (FRow wf (w8.heap.size + 1) (w9.heap.size) (.slice aG rz.length capG) (marks 1 rz.length)))
  case first =>
    have tk1 : True := trivial
    go_region_held3 (fun w' => w'.cell? ⟨w.heap.size, 0, none⟩ = some (.string s0) ∧ w'.cell? ⟨w.heap.size, 1, none⟩ = some (.int .i64 wd0) ∧ w'.cell? ⟨w.heap.size, 2, none⟩ = some (.int .i64 hg0) ∧ w'.cell? ⟨w.heap.size, 3, none⟩ = some (.slice a0 zs0.length cap0) ∧ w'.cell? ⟨(w.heap.size + 1), 0, none⟩ = some (.string s1) ∧ w'.cell? ⟨(w.heap.size + 1), 1, none⟩ = some (.int .i64 wd1) ∧ w'.cell? ⟨(w.heap.size + 1), 2, none⟩ = some (.int .i64 hg1) ∧ w'.cell? ⟨(w.heap.size + 1), 3, none⟩ = some (.slice a1 zs1.length cap1))
      (first | with_reducible exact ⟨BoxH.c0 (BA019.out), BoxH.c1 (BA019.out), BoxH.c2 (BA019.out), BoxH.c3 (BA019.out), BoxH.c0 (BA119.out), BoxH.c1 (BA119.out), BoxH.c2 (BA119.out), BoxH.c3 (BA119.out)⟩ | with_reducible exact ⟨BoxH.c0 (BoxH.drew BA019.out), BoxH.c1 (BoxH.drew BA019.out), BoxH.c2 (BoxH.drew BA019.out), BoxH.c3 (BoxH.drew BA019.out), BoxH.c0 (BoxH.drew BA119.out), BoxH.c1 (BoxH.drew BA119.out), BoxH.c2 (BoxH.drew BA119.out), BoxH.c3 (BoxH.drew BA119.out)⟩ | with_reducible exact ⟨BoxH.c0 (BoxH.drew (BoxH.alloc BA019.out _)), BoxH.c1 (BoxH.drew (BoxH.alloc BA019.out _)), BoxH.c2 (BoxH.drew (BoxH.alloc BA019.out _)), BoxH.c3 (BoxH.drew (BoxH.alloc BA019.out _)), BoxH.c0 (BoxH.drew (BoxH.alloc BA119.out _)), BoxH.c1 (BoxH.drew (BoxH.alloc BA119.out _)), BoxH.c2 (BoxH.drew (BoxH.alloc BA119.out _)), BoxH.c3 (BoxH.drew (BoxH.alloc BA119.out _))⟩ | with_reducible exact ⟨BoxH.c0 (BA020.out), BoxH.c1 (BA020.out), BoxH.c2 (BA020.out), BoxH.c3 (BA020.out), BoxH.c0 (BA120.out), BoxH.c1 (BA120.out), BoxH.c2 (BA120.out), BoxH.c3 (BA120.out)⟩ | with_reducible exact ⟨BoxH.c0 (BoxH.alloc BA020.out _), BoxH.c1 (BoxH.alloc BA020.out _), BoxH.c2 (BoxH.alloc BA020.out _), BoxH.c3 (BoxH.alloc BA020.out _), BoxH.c0 (BoxH.alloc BA120.out _), BoxH.c1 (BoxH.alloc BA120.out _), BoxH.c2 (BoxH.alloc BA120.out _), BoxH.c3 (BoxH.alloc BA120.out _)⟩ | with_reducible exact ⟨BoxH.c0 (BA021.out), BoxH.c1 (BA021.out), BoxH.c2 (BA021.out), BoxH.c3 (BA021.out), BoxH.c0 (BA121.out), BoxH.c1 (BA121.out), BoxH.c2 (BA121.out), BoxH.c3 (BA121.out)⟩ | with_reducible exact ⟨BoxH.c0 (BoxH.alloc BA021.out _), BoxH.c1 (BoxH.alloc BA021.out _), BoxH.c2 (BoxH.alloc BA021.out _), BoxH.c3 (BoxH.alloc BA021.out _), BoxH.c0 (BoxH.alloc BA121.out _), BoxH.c1 (BoxH.alloc BA121.out _), BoxH.c2 (BoxH.alloc BA121.out _), BoxH.c3 (BoxH.alloc BA121.out _)⟩ | with_reducible exact ⟨BoxH.c0 (BA022.out), BoxH.c1 (BA022.out), BoxH.c2 (BA022.out), BoxH.c3 (BA022.out), BoxH.c0 (BA122.out), BoxH.c1 (BA122.out), BoxH.c2 (BA122.out), BoxH.c3 (BA122.out)⟩ | with_reducible exact ⟨BoxH.c0 (BoxH.alloc BA022.out _), BoxH.c1 (BoxH.alloc BA022.out _), BoxH.c2 (BoxH.alloc BA022.out _), BoxH.c3 (BoxH.alloc BA022.out _), BoxH.c0 (BoxH.alloc BA122.out _), BoxH.c1 (BoxH.alloc BA122.out _), BoxH.c2 (BoxH.alloc BA122.out _), BoxH.c3 (BoxH.alloc BA122.out _)⟩ | with_reducible exact ⟨(cell_far3 (by omega) _ _ _ _ _).trans (BoxH.c0 BA022.out), (cell_far3 (by omega) _ _ _ _ _).trans (BoxH.c1 BA022.out), (cell_far3 (by omega) _ _ _ _ _).trans (BoxH.c2 BA022.out), (cell_far3 (by omega) _ _ _ _ _).trans (BoxH.c3 BA022.out), (cell_far3 (by omega) _ _ _ _ _).trans (BoxH.c0 BA122.out), (cell_far3 (by omega) _ _ _ _ _).trans (BoxH.c1 BA122.out), (cell_far3 (by omega) _ _ _ _ _).trans (BoxH.c2 BA122.out), (cell_far3 (by omega) _ _ _ _ _).trans (BoxH.c3 BA122.out)⟩)
      (first | (go_at_call 38; have _t := tk1; clear tk1 _t; refine (toHill_any s0 wd0 hg0 a0 cap0 zs0 _ (by first | with_reducible exact (H0.out.below Hb19.out.drew (Nat.le_refl _)) | with_reducible exact (H0.out.below (Hb19.out.alloc (by first | omega | (simp; omega)) _).drew (Nat.le_refl _))) hl0).mono ?_; rintro e w20 ⟨aHc0, capHc0, rfl, hb, hf⟩; have hst : Below w19.heap.size w19 w20 := (by first | with_reducible exact (Below.refl _ _).drew.trans (hb.mono (le_drew _)) | with_reducible exact ((Below.refl w19.heap.size w19).alloc (Nat.le_refl _) _).drew.trans (hb.mono (by first | (simp; done) | (simp; omega)))); have hs20 : w19.heap.size ≤ w20.heap.size := hst.size; have Hb20 := Lib.hid (Hb19.out.trans (hst.mono (by omega)) : Below w.heap.size w w20); have BA020 := Lib.hid (BA019.out.below hst (by omega)); have BA120 := Lib.hid (BA119.out.below hst (by omega)); have BW20 := Lib.hid (BW19.out.below hst (by omega)); have BX020 := Lib.hid (BX019.out.below hst (by omega)); have BX120 := Lib.hid (BX119.out.below hst (by omega)); have BG20 := Lib.hid (BG19.out.below hst (by omega)); have FW20 := Lib.hid (FW19.out.below hst (by omega)); have FG20 := Lib.hid (FG19.out.below hst (by omega)); have RHc020 : Hid (RowAt w20 w20.heap.size (.slice aHc0 zs0.length capHc0) zs0) := ⟨_, hf, Nat.le_refl _⟩; (try (have Zz : Hid (BoxW w20 w19.heap.size ⟨#[]⟩ 0 0 (.slice none 0 0)) := (by with_reducible exact Lib.hid ((BoxW.drew (BoxW.new w19 ⟨#[]⟩ 0 0 (.slice none 0 0) 49)).below hb (by first | (simp; done) | (simp; omega)))); obtain ⟨⟨zr0, zr1, zr2, zr3, _⟩, zrf⟩ := Zz.out)); clear hb hst hf) | (go_at_call 38; refine (toHill_any s1 wd1 hg1 a1 cap1 zs1 _ (by first | with_reducible exact (H1.out.below Hb20.out (Nat.le_refl _)) | with_reducible exact (H1.out.below (Hb20.out.alloc (by first | omega | (simp; omega)) _) (Nat.le_refl _))) hl1).mono ?_; rintro e w21 ⟨aHc1, capHc1, rfl, hb, hf⟩; have hst : Below w20.heap.size w20 w21 := (by first | with_reducible exact hb | with_reducible exact (below1 _ _).trans (hb.mono (by first | (simp; done) | (simp; omega)))); have hs21 : w20.heap.size ≤ w21.heap.size := hst.size; have Hb21 := Lib.hid (Hb20.out.trans (hst.mono (by omega)) : Below w.heap.size w w21); have BA021 := Lib.hid (BA020.out.below hst (by omega)); have BA121 := Lib.hid (BA120.out.below hst (by omega)); have BW21 := Lib.hid (BW20.out.below hst (by omega)); have BX021 := Lib.hid (BX020.out.below hst (by omega)); have BX121 := Lib.hid (BX120.out.below hst (by omega)); have BG21 := Lib.hid (BG20.out.below hst (by omega)); have FW21 := Lib.hid (FW20.out.below hst (by omega)); have FG21 := Lib.hid (FG20.out.below hst (by omega)); have RHc021 := Lib.hid (RHc020.out.below hst); have RHc121 : Hid (RowAt w21 w21.heap.size (.slice aHc1 zs1.length capHc1) zs1) := ⟨_, hf, Nat.le_refl _⟩; (try (first | (have Zy := Lib.hid (Zz.out.below hst (by omega)); clear Zz zr0 zr1 zr2 zr3 zrf; have Zz := Lib.hid Zy.out; clear Zy; obtain ⟨⟨zr0, zr1, zr2, zr3, _⟩, zrf⟩ := Zz.out) | (have Zz : Hid (BoxW w21 w20.heap.size ⟨#[]⟩ 0 0 (.slice none 0 0)) := (by with_reducible exact Lib.hid ((BoxW.new w20 ⟨#[]⟩ 0 0 (.slice none 0 0) 49).below hb (by first | (simp; done) | (simp; omega)))); obtain ⟨⟨zr0, zr1, zr2, zr3, _⟩, zrf⟩ := Zz.out))); clear hb hst hf) | (go_at_call 46; refine (HI.out aHc0 capHc0 aHc1 capHc1 _ (by first | with_reducible exact RHc021.out.row | with_reducible exact (RHc021.out.alloc _).row) (by first | with_reducible exact RHc121.out.row | with_reducible exact (RHc121.out.alloc _).row)).mono ?_; rintro e w22 ⟨aH, capH, rfl, hb, hf⟩; have hst : Below w21.heap.size w21 w22 := (by first | with_reducible exact hb | with_reducible exact (below1 _ _).trans (hb.mono (by first | (simp; done) | (simp; omega)))); have hs22 : w21.heap.size ≤ w22.heap.size := hst.size; have Hb22 := Lib.hid (Hb21.out.trans (hst.mono (by omega)) : Below w.heap.size w w22); have BA022 := Lib.hid (BA021.out.below hst (by omega)); have BA122 := Lib.hid (BA121.out.below hst (by omega)); have BW22 := Lib.hid (BW21.out.below hst (by omega)); have BX022 := Lib.hid (BX021.out.below hst (by omega)); have BX122 := Lib.hid (BX121.out.below hst (by omega)); have BG22 := Lib.hid (BG21.out.below hst (by omega)); have FW22 := Lib.hid (FW21.out.below hst (by omega)); have FG22 := Lib.hid (FG21.out.below hst (by omega)); (try (first | (have hzlt := Zz.out.1.2.2.2.2; (have Zy := Lib.hid (Zz.out.below hst (by omega)); clear Zz zr0 zr1 zr2 zr3 zrf; have Zz := Lib.hid Zy.out; clear Zy; obtain ⟨⟨zr0, zr1, zr2, zr3, _⟩, zrf⟩ := Zz.out)) | (have Zz : Hid (BoxW w22 w21.heap.size ⟨#[]⟩ 0 0 (.slice none 0 0)) := (by with_reducible exact Lib.hid ((BoxW.new w21 ⟨#[]⟩ 0 0 (.slice none 0 0) 49).below hb (by first | (simp; done) | (simp; omega)))); obtain ⟨⟨zr0, zr1, zr2, zr3, _⟩, zrf⟩ := Zz.out))); have Hf := Lib.hid hf; have Hbz := Lib.hid hb; clear hb hst hf))
    all_goals
      go_wp2_with fail
      go_meet
      have Hbs := Hbz.out.size
    · exact ⟨_, w22.heap.size, _, _, capH, aH, rfl, rfl, rfl, BoxH.new _ _ _ _ _ _, Hf.out.alloc _, by omega, by simp, by omega, by simp, .inr (Nat.le_refl _), Hb22.out.alloc (by omega) _, BoxH.alloc BA022.out _, BoxH.alloc BA122.out _, BoxH.alloc BW22.out _, BoxH.alloc BX022.out _, BoxH.alloc BX122.out _, BoxH.alloc BG22.out _, FRow.alloc FW22.out _, FRow.alloc FG22.out _⟩
    · exact ⟨_, w21.heap.size, w21.heap.size + 1, w22.heap.size, capH, aH, rfl, rfl, rfl, BoxH.setNew Zz.out rs rw rh (.slice aH rz.length capH), FRow.setFar (Hf.out.mono (lo' := w21.heap.size + 1) (by simp) (Nat.le_refl _) (Nat.le_refl _)) (w21.heap.size) (.inl (by omega)) rs rw rh (.slice aH rz.length capH), by omega, (by simp only [setCell_size]; omega), by omega, (by simp only [setCell_size]; exact Nat.le_refl _), .inl (by omega), putHill_below Hb22.out (w21.heap.size) (by omega) rs rw rh (.slice aH rz.length capH), BoxH.setFar BA022.out (w21.heap.size) (by omega) rs rw rh (.slice aH rz.length capH), BoxH.setFar BA122.out (w21.heap.size) (by omega) rs rw rh (.slice aH rz.length capH), BoxH.setFar BW22.out (w21.heap.size) (by omega) rs rw rh (.slice aH rz.length capH), BoxH.setFar BX022.out (w21.heap.size) (by omega) rs rw rh (.slice aH rz.length capH), BoxH.setFar BX122.out (w21.heap.size) (by omega) rs rw rh (.slice aH rz.length capH), BoxH.setFar BG22.out (w21.heap.size) (by omega) rs rw rh (.slice aH rz.length capH), FRow.setFar FW22.out (w21.heap.size) (by omega) rs rw rh (.slice aH rz.length capH), FRow.setFar FG22.out (w21.heap.size) (by omega) rs rw rh (.slice aH rz.length capH)⟩
    · exact ⟨_, w20.heap.size, w21.heap.size, w22.heap.size, capH, aH, rfl, rfl, rfl, BoxH.setNew Zz.out rs rw rh (.slice aH rz.length capH), FRow.setFar Hf.out (w20.heap.size) (.inl (by omega)) rs rw rh (.slice aH rz.length capH), by omega, (by simp only [setCell_size]; omega), by omega, (by simp only [setCell_size]; exact Nat.le_refl _), .inl (by omega), putHill_below Hb22.out (w20.heap.size) (by omega) rs rw rh (.slice aH rz.length capH), BoxH.setFar BA022.out (w20.heap.size) (by omega) rs rw rh (.slice aH rz.length capH), BoxH.setFar BA122.out (w20.heap.size) (by omega) rs rw rh (.slice aH rz.length capH), BoxH.setFar BW22.out (w20.heap.size) (by omega) rs rw rh (.slice aH rz.length capH), BoxH.setFar BX022.out (w20.heap.size) (by omega) rs rw rh (.slice aH rz.length capH), BoxH.setFar BX122.out (w20.heap.size) (by omega) rs rw rh (.slice aH rz.length capH), BoxH.setFar BG22.out (w20.heap.size) (by omega) rs rw rh (.slice aH rz.length capH), FRow.setFar FW22.out (w20.heap.size) (by omega) rs rw rh (.slice aH rz.length capH), FRow.setFar FG22.out (w20.heap.size) (by omega) rs rw rh (.slice aH rz.length capH)⟩
    · exact ⟨_, w19.heap.size, w21.heap.size, w22.heap.size, capH, aH, rfl, rfl, rfl, BoxH.setNew Zz.out rs rw rh (.slice aH rz.length capH), FRow.setFar Hf.out (w19.heap.size) (.inl (by omega)) rs rw rh (.slice aH rz.length capH), by omega, (by simp only [setCell_size]; omega), by omega, (by simp only [setCell_size]; exact Nat.le_refl _), .inl (by omega), putHill_below Hb22.out (w19.heap.size) (by omega) rs rw rh (.slice aH rz.length capH), BoxH.setFar BA022.out (w19.heap.size) (by omega) rs rw rh (.slice aH rz.length capH), BoxH.setFar BA122.out (w19.heap.size) (by omega) rs rw rh (.slice aH rz.length capH), BoxH.setFar BW22.out (w19.heap.size) (by omega) rs rw rh (.slice aH rz.length capH), BoxH.setFar BX022.out (w19.heap.size) (by omega) rs rw rh (.slice aH rz.length capH), BoxH.setFar BX122.out (w19.heap.size) (by omega) rs rw rh (.slice aH rz.length capH), BoxH.setFar BG22.out (w19.heap.size) (by omega) rs rw rh (.slice aH rz.length capH), FRow.setFar FW22.out (w19.heap.size) (by omega) rs rw rh (.slice aH rz.length capH), FRow.setFar FG22.out (w19.heap.size) (by omega) rs rw rh (.slice aH rz.length capH)⟩
  case rest =>
  obtain ⟨w23, bH, loH, hiH, capH, aH, rfl, rfl, rfl, BHh23, FH23, qH1, qH2, qH3, qH4, qH5, Hb23, BA023, BA123, BW23, BX023, BX123, BG23, FW23, FG23⟩ := hcut
  have hs23 : w19.heap.size ≤ w23.heap.size := by omega
  clear A00 A01 A02 A03 A10 A11 A12 A13 W0 W1 W2 W3 X00 X01 X02 X03 X10 X11 X12 X13 G0 G1 G2 G3
  obtain ⟨A00, A01, A02, A03, _⟩ := BA023.out
  obtain ⟨A10, A11, A12, A13, _⟩ := BA123.out
  obtain ⟨W0, W1, W2, W3, _⟩ := BW23.out
  obtain ⟨X00, X01, X02, X03, _⟩ := BX023.out
  obtain ⟨X10, X11, X12, X13, _⟩ := BX123.out
  obtain ⟨G0, G1, G2, G3, _⟩ := BG23.out
  obtain ⟨Hh0, Hh1, Hh2, Hh3, _⟩ := BHh23.out
  go_wp2_with fail
  refine (eqHill_any rs rw rh aH aW capH capW rz _ (by exact FH23.out.row) (by exact FW23.out.row) hrl).mono ?_
  rintro e w24 ⟨rfl, hb⟩
  have hs24 : w23.heap.size + 0 ≤ w24.heap.size := (by have := hb.size; simpa using this)
  have hst : Below w23.heap.size w23 w24 := (Below.refl _ _).trans (hb.mono (by first | (simp; done) | (simp; omega)))
  have Hb24 := Lib.hid (Hb23.out.trans (hst.mono (by omega)) : Below w.heap.size w w24)
  have BA024 := Lib.hid (BA023.out.below hst (by omega))
  have BA124 := Lib.hid (BA123.out.below hst (by omega))
  have BW24 := Lib.hid (BW23.out.below hst (by omega))
  have BX024 := Lib.hid (BX023.out.below hst (by omega))
  have BX124 := Lib.hid (BX123.out.below hst (by omega))
  have BG24 := Lib.hid (BG23.out.below hst (by omega))
  have BHh24 := Lib.hid (BHh23.out.below hst (by omega))
  have FW24 := Lib.hid (FW23.out.below hst (by omega))
  have FG24 := Lib.hid (FG23.out.below hst (by omega))
  have FH24 := Lib.hid (FH23.out.below hst (by omega))
  clear hb hst
  clear Hb23 BA023 BA123 BW23 BX023 BX123 BG23 BHh23 FW23 FG23 FH23
  clear A00 A01 A02 A03 A10 A11 A12 A13 W0 W1 W2 W3 X00 X01 X02 X03 X10 X11 X12 X13 G0 G1 G2 G3 Hh0 Hh1 Hh2 Hh3
  obtain ⟨A00, A01, A02, A03, _⟩ := BA024.out
  obtain ⟨A10, A11, A12, A13, _⟩ := BA124.out
  obtain ⟨W0, W1, W2, W3, _⟩ := BW24.out
  obtain ⟨X00, X01, X02, X03, _⟩ := BX024.out
  obtain ⟨X10, X11, X12, X13, _⟩ := BX124.out
  obtain ⟨G0, G1, G2, G3, _⟩ := BG24.out
  obtain ⟨Hh0, Hh1, Hh2, Hh3, _⟩ := BHh24.out
  go_wp2_with fail
  refine (heldHill_any (w8.heap.size + 1) (w9.heap.size) 1 rz.length rs rw rh aG capG _ (by exact FG24.out) hrl (by omega)).mono ?_
  rintro e w25 ⟨rfl, hb⟩
  have hs25 : w24.heap.size + 0 ≤ w25.heap.size := (by have := hb.size; simpa using this)
  have hst : Below w24.heap.size w24 w25 := (Below.refl _ _).trans (hb.mono (by first | (simp; done) | (simp; omega)))
  have Hb25 := Lib.hid (Hb24.out.trans (hst.mono (by omega)) : Below w.heap.size w w25)
  have BA025 := Lib.hid (BA024.out.below hst (by omega))
  have BA125 := Lib.hid (BA124.out.below hst (by omega))
  have BW25 := Lib.hid (BW24.out.below hst (by omega))
  have BX025 := Lib.hid (BX024.out.below hst (by omega))
  have BX125 := Lib.hid (BX124.out.below hst (by omega))
  have BG25 := Lib.hid (BG24.out.below hst (by omega))
  have BHh25 := Lib.hid (BHh24.out.below hst (by omega))
  have FW25 := Lib.hid (FW24.out.below hst (by omega))
  have FG25 := Lib.hid (FG24.out.below hst (by omega))
  have FH25 := Lib.hid (FH24.out.below hst (by omega))
  clear hb hst
  clear Hb24 BA024 BA124 BW24 BX024 BX124 BG24 BHh24 FW24 FG24 FH24
  clear A00 A01 A02 A03 A10 A11 A12 A13 W0 W1 W2 W3 X00 X01 X02 X03 X10 X11 X12 X13 G0 G1 G2 G3 Hh0 Hh1 Hh2 Hh3
  obtain ⟨A00, A01, A02, A03, _⟩ := BA025.out
  obtain ⟨A10, A11, A12, A13, _⟩ := BA125.out
  obtain ⟨W0, W1, W2, W3, _⟩ := BW25.out
  obtain ⟨X00, X01, X02, X03, _⟩ := BX025.out
  obtain ⟨X10, X11, X12, X13, _⟩ := BX125.out
  obtain ⟨G0, G1, G2, G3, _⟩ := BG25.out
  obtain ⟨Hh0, Hh1, Hh2, Hh3, _⟩ := BHh25.out
  go_wp2_with fail
  go_ret
  exact ⟨rfl, Hb25.out⟩

set_option maxHeartbeats 1000000 in
theorem walk_FnExactJoinRecords (s0 : ByteArray) (wd0 hg0 : Int) (a0 : Option Addr) (len0 cap0 : Nat) (zs0 : List Nat) (s1 : ByteArray) (wd1 hg1 : Int) (a1 : Option Addr) (len1 cap1 : Nat) (zs1 : List Nat) (w : World) (_hn0 : s0.size ≤ maxLen) (_hw0 : (Lit.int .i64 wd0).wf = true) (_hh0 : (Lit.int .i64 hg0).wf = true) (h0 : IsRowF .f32 w a0 len0 cap0 zs0) (_hn1 : s1.size ≤ maxLen) (_hw1 : (Lit.int .i64 wd1).wf = true) (_hh1 : (Lit.int .i64 hg1).wf = true) (h1 : IsRowF .f32 w a1 len1 cap1 zs1) :
    Calls Try.prog 13 #[.agg #[.string s0, .int .i64 wd0, .int .i64 hg0, .slice a0 len0 cap0], .agg #[.string s1, .int .i64 wd1, .int .i64 hg1, .slice a1 len1 cap1]] w fun e w' => e = .returned (.bool true) ∧ Below w.heap.size w w' := by
  obtain ⟨rfl, hcap0, hmax0, hr0, hz0⟩ := h0
  obtain ⟨rfl, hcap1, hmax1, hr1, hz1⟩ := h1
  unfold maxLen at hmax0 hmax1 _hn0 _hn1
  by_cases hq0 : s0.size + zs0.length ≤ 1048576
  · have hl0 : zs0.length ≤ 1048576 := by omega
    by_cases hsum : s0.size + zs0.length + (s1.size + zs1.length) ≤ 1048576
    · have hl1 : zs1.length ≤ 1048576 := by omega
      have hq1 : s1.size + zs1.length ≤ 1048576 := by omega
      exact joinRecordsLaw_fits s0 wd0 hg0 a0 cap0 zs0 s1 wd1 hg1 a1 cap1 zs1 w hr0 hl0 hq0 hz0 hr1 hl1 hq1 hz1 hsum
    · clear hr0 hz0 hr1 hz1
      go_enter Try.func13, Try.ntmps13
      go_wp2_with fail
      refine (szHill_fits s0 wd0 hg0 a0 zs0.length cap0 _ (by omega) (by omega) _).mono ?_
      rintro e w1 ⟨rfl, hb1⟩
      have hbx : BoxH ((w.alloc (.cells #[.string s0, .int .i64 wd0, .int .i64 hg0, .slice a0 zs0.length cap0] 46)).alloc (.cells #[.string s1, .int .i64 wd1, .int .i64 hg1, .slice a1 zs1.length cap1] 46)) (w.heap.size + 1) s1 wd1 hg1 (.slice a1 zs1.length cap1) := (by simpa using BoxH.new (w.alloc _) s1 wd1 hg1 (.slice a1 zs1.length cap1) 46)
      obtain ⟨c0, c1, c2, c3, _⟩ := hbx.below hb1 (by simp)
      have Hb1 := Lib.hid ((below2 _ _ _).trans (hb1.mono (by simp; omega)) : Below w.heap.size w w1)
      have hs1 : w.heap.size + 2 ≤ w1.heap.size := by have := hb1.size; simpa using this
      clear hb1 hbx
      go_wp2_with fail
      refine (szHill_not s1 wd1 hg1 a1 zs1.length cap1 _ (by omega) (by omega) (by omega) (by omega) (by omega) _).mono ?_
      rintro e w2 ⟨rfl, hb2⟩
      have Hb2 := Lib.hid (Hb1.out.trans (hb2.mono (by omega)) : Below w.heap.size w w2)
      clear hb2
      go_wp2_with fail
      go_ret
      exact ⟨rfl, Hb2.out⟩
  · clear hr0 hz0 hr1 hz1
    go_enter Try.func13, Try.ntmps13
    go_wp2_with fail
    refine (szHill_not s0 wd0 hg0 a0 zs0.length cap0 _ (by omega) (by omega) (by omega) (by omega) (by omega) _).mono ?_
    rintro e w1 ⟨rfl, hb1⟩
    have Hb1 := Lib.hid ((below2 _ _ _).trans (hb1.mono (by simp; omega)) : Below w.heap.size w w1)
    clear hb1
    go_wp2_with fail
    go_ret
    exact ⟨rfl, Hb1.out⟩
end Go.Proofs.Ytdmcjloaommnpaa

