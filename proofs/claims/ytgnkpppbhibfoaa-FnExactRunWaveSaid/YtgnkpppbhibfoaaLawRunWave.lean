/- The walk of the law on RunWave. -/
import Derived.Test.YtgnkpppbhibfoaaWavRI
import Derived.Test.YtgnkpppbhibfoaaWavRS
import Derived.Test.YtgnkpppbhibfoaaTo
import Derived.Test.YtgnkpppbhibfoaaSame
import Derived.Test.YtgnkpppbhibfoaaEqF
import Derived.Test.YtgnkpppbhibfoaaGrow
import Derived.DataShut
namespace Go.Proofs.Ytgnkpppbhibfoaa
open Go.RowKit
set_option linter.unusedVariables false
set_option linter.unusedSimpArgs false
set_option maxRecDepth 100000
attribute [local irreducible] wpV wpList Code.wp

set_option maxHeartbeats 16000000 in
theorem runWaveLaw_fits (a0 : Option Addr) (cap0 : Nat) (zs0 : List Nat) (a1 : Option Addr) (cap1 : Nat) (zs1 : List Nat) (r : Nat) (d : Nat) (t : Nat) (w : World) (hr0 : RowF .f32 w a0 zs0) (hl0 : zs0.length ≤ 1048576) (hz0 : ∀ z ∈ zs0, z < 4294967296) (hr1 : RowF .f32 w a1 zs1) (hl1 : zs1.length ≤ 1048576) (hz1 : ∀ z ∈ zs1, z < 4294967296) (hr : r < 4294967296) (hd : d < 4294967296) (ht : t < 4294967296) :
    Calls Try.prog 4 #[.slice a0 zs0.length cap0, .slice a1 zs1.length cap1, .float .f32 r, .float .f32 d, .float .f32 t] w fun e w' => e = .returned (.bool true) ∧ Below w.heap.size w w' := by
  obtain ⟨⟨Z0, Z1, B⟩, hR⟩ : ∃ R, runW (some r) (some d) (some t) zs0 zs1 = R := ⟨_, rfl⟩
  have cS : ∀ (a0 : Option Addr) (cap0 : Nat) (a1 : Option Addr) (cap1 : Nat) (W : World), RowF .f32 W a0 zs0 → RowF .f32 W a1 zs1 → Calls Try.prog 22 #[.slice a0 zs0.length cap0, .slice a1 zs1.length cap1, .float .f32 r, .float .f32 d, .float .f32 t] W (PostLL Z0 Z1 B W) := by
    intro a0 cap0 a1 cap1 W h0' h1'
    have := runWave_s a0 cap0 zs0 a1 cap1 zs1 W h0' hl0 hz0 h1' hl1 hz1 (Is32.c hr) (Is32.c hd) (Is32.c ht)
    rw [hR] at this
    exact this
  have cI : ∀ (a0 : Option Addr) (cap0 : Nat) (a1 : Option Addr) (cap1 : Nat) (W : World), RowF .f32 W a0 zs0 → RowF .f32 W a1 zs1 → Calls Try.prog 23 #[.slice a0 zs0.length cap0, .slice a1 zs1.length cap1, .float .f32 r, .float .f32 d, .float .f32 t] W (PostLL Z0 Z1 B W) := by
    intro a0 cap0 a1 cap1 W h0' h1'
    have := runWave_i a0 cap0 zs0 a1 cap1 zs1 W h0' hl0 hz0 h1' hl1 hz1 (Is32.c hr) (Is32.c hd) (Is32.c ht)
    rw [hR] at this
    exact this
  have HS := Lib.hid cS
  have HI := Lib.hid cI
  clear cS cI hR
  have H0 := Lib.hid hr0
  clear hr0 hz0
  have H1 := Lib.hid hr1
  clear hr1 hz1
  cases B
  all_goals
    go_enter Try.func4, Try.ntmps4
    go_wp2_with fail
    refine (copyF_any a0 cap0 zs0 _ (by first | exact (H0.out.below (Below.refl _ _) (Nat.le_refl _)) | exact ((H0.out.below (Below.refl _ _) (Nat.le_refl _))).below (by repeat (first | with_reducible exact Below.refl _ _ | with_reducible refine beld ?_ _ | (with_reducible refine Below.alloc ?_ ?_ _; rotate_left; exact (by first | (simp; done) | (simp; omega) | omega)) | (with_reducible refine Below.setCell ?_ ?_ _; rotate_left; exact (by first | (simp; done) | (simp; omega) | omega)))) (Nat.le_refl _)) hl0).mono ?_
    rintro e w1 ⟨aSc0, capSc0, rfl, hb, hf⟩
    have hw : Below w.heap.size w w1 := Below.trans (by repeat (first | with_reducible exact Below.refl _ _ | with_reducible refine beld ?_ _ | (with_reducible refine Below.alloc ?_ ?_ _; rotate_left; exact (by first | (simp; done) | (simp; omega) | omega)) | (with_reducible refine Below.setCell ?_ ?_ _; rotate_left; exact (by first | (simp; done) | (simp; omega) | omega)))) (hb.mono (by first | (simp; done) | (simp; omega) | omega))
    have hB : Below w.heap.size w w1 := hw
    have hz1 : w.heap.size ≤ w1.heap.size := hw.size
    have FSc01 := Lib.hid (hf.mono (lo' := w.heap.size) (by first | (simp; done) | (simp; omega) | omega) (Nat.le_refl _) (Nat.le_refl _))
    have tSc01 := FSc01.out.2.2
    have HB1 := Lib.hid hB
    have hs1 : w.heap.size ≤ w1.heap.size := HB1.out.size
    clear hB hw hb
    go_wp2_with fail
    refine (copyF_any a1 cap1 zs1 _ (by first | exact (H1.out.below HB1.out (Nat.le_refl _)) | exact ((H1.out.below HB1.out (Nat.le_refl _))).below (by repeat (first | with_reducible exact Below.refl _ _ | with_reducible refine beld ?_ _ | (with_reducible refine Below.alloc ?_ ?_ _; rotate_left; exact (by first | (simp; done) | (simp; omega) | omega)) | (with_reducible refine Below.setCell ?_ ?_ _; rotate_left; exact (by first | (simp; done) | (simp; omega) | omega)))) (Nat.le_refl _)) hl1).mono ?_
    rintro e w2 ⟨aSc1, capSc1, rfl, hb, hf⟩
    have hw : Below w1.heap.size w1 w2 := Below.trans (by repeat (first | with_reducible exact Below.refl _ _ | with_reducible refine beld ?_ _ | (with_reducible refine Below.alloc ?_ ?_ _; rotate_left; exact (by first | (simp; done) | (simp; omega) | omega)) | (with_reducible refine Below.setCell ?_ ?_ _; rotate_left; exact (by first | (simp; done) | (simp; omega) | omega)))) (hb.mono (by first | (simp; done) | (simp; omega) | omega))
    have hB : Below w.heap.size w w2 := HB1.out.trans (hw.mono HB1.out.size)
    have hz2 : w1.heap.size ≤ w2.heap.size := hw.size
    have FSc02 := Lib.hid (FSc01.out.below hw FSc01.out.2.2)
    have tSc02 := FSc02.out.2.2
    have FSc12 := Lib.hid (hf.mono (lo' := w1.heap.size) (by first | (simp; done) | (simp; omega) | omega) (Nat.le_refl _) (Nat.le_refl _))
    have tSc12 := FSc12.out.2.2
    have HB2 := Lib.hid hB
    have hs2 : w.heap.size ≤ w2.heap.size := HB2.out.size
    clear hB hw hb
    go_wp2_with fail
    refine (HS.out aSc0 capSc0 aSc1 capSc1 _ (by first | exact FSc02.out.row | exact (FSc02.out.alloc _).row) (by first | exact FSc12.out.row | exact (FSc12.out.alloc _).row)).mono ?_
    rintro e w3 ⟨aS0, capS0, loS0, hiS0, aS1, capS1, loS1, hiS1, rfl, hfS0, hfS1, hpS0, hpS1, hlS0, hlS1, disjS, hb⟩
    have hw : Below w2.heap.size w2 w3 := Below.trans (by repeat (first | with_reducible exact Below.refl _ _ | with_reducible refine beld ?_ _ | (with_reducible refine Below.alloc ?_ ?_ _; rotate_left; exact (by first | (simp; done) | (simp; omega) | omega)) | (with_reducible refine Below.setCell ?_ ?_ _; rotate_left; exact (by first | (simp; done) | (simp; omega) | omega)))) (hb.mono (by first | (simp; done) | (simp; omega) | omega))
    have hB : Below w.heap.size w w3 := HB2.out.trans (hw.mono HB2.out.size)
    have hz3 : w2.heap.size ≤ w3.heap.size := hw.size
    have FSc03 := Lib.hid (FSc02.out.below hw FSc02.out.2.2)
    have tSc03 := FSc03.out.2.2
    have FSc13 := Lib.hid (FSc12.out.below hw FSc12.out.2.2)
    have tSc13 := FSc13.out.2.2
    have FS03 := Lib.hid hfS0
    have tS03 := FS03.out.2.2
    have FS13 := Lib.hid hfS1
    have tS13 := FS13.out.2.2
    have HB3 := Lib.hid hB
    have hs3 : w.heap.size ≤ w3.heap.size := HB3.out.size
    clear hB hw hb
    have hpS0' : w2.heap.size ≤ loS0 := Nat.le_trans (by first | (simp; done) | (simp; omega) | omega) hpS0
    have hpS1' : w2.heap.size ≤ loS1 := Nat.le_trans (by first | (simp; done) | (simp; omega) | omega) hpS1
    go_wp2_with fail
    refine (copyF_any a0 cap0 zs0 _ (by first | exact (H0.out.below HB3.out (Nat.le_refl _)) | exact ((H0.out.below HB3.out (Nat.le_refl _))).below (by repeat (first | with_reducible exact Below.refl _ _ | with_reducible refine beld ?_ _ | (with_reducible refine Below.alloc ?_ ?_ _; rotate_left; exact (by first | (simp; done) | (simp; omega) | omega)) | (with_reducible refine Below.setCell ?_ ?_ _; rotate_left; exact (by first | (simp; done) | (simp; omega) | omega)))) (Nat.le_refl _)) hl0).mono ?_
    rintro e w4 ⟨aX0, capX0, rfl, hb, hf⟩
    have hw : Below w3.heap.size w3 w4 := Below.trans (by repeat (first | with_reducible exact Below.refl _ _ | with_reducible refine beld ?_ _ | (with_reducible refine Below.alloc ?_ ?_ _; rotate_left; exact (by first | (simp; done) | (simp; omega) | omega)) | (with_reducible refine Below.setCell ?_ ?_ _; rotate_left; exact (by first | (simp; done) | (simp; omega) | omega)))) (hb.mono (by first | (simp; done) | (simp; omega) | omega))
    have hB : Below w.heap.size w w4 := HB3.out.trans (hw.mono HB3.out.size)
    have hz4 : w3.heap.size ≤ w4.heap.size := hw.size
    have FS04 := Lib.hid (FS03.out.below hw FS03.out.2.2)
    have tS04 := FS04.out.2.2
    have FS14 := Lib.hid (FS13.out.below hw FS13.out.2.2)
    have tS14 := FS14.out.2.2
    have FX04 := Lib.hid (hf.mono (lo' := w3.heap.size) (by first | (simp; done) | (simp; omega) | omega) (Nat.le_refl _) (Nat.le_refl _))
    have tX04 := FX04.out.2.2
    have HB4 := Lib.hid hB
    have hs4 : w.heap.size ≤ w4.heap.size := HB4.out.size
    clear hB hw hb
    go_wp2_with fail
    refine (copyF_any a1 cap1 zs1 _ (by first | exact (H1.out.below HB4.out (Nat.le_refl _)) | exact ((H1.out.below HB4.out (Nat.le_refl _))).below (by repeat (first | with_reducible exact Below.refl _ _ | with_reducible refine beld ?_ _ | (with_reducible refine Below.alloc ?_ ?_ _; rotate_left; exact (by first | (simp; done) | (simp; omega) | omega)) | (with_reducible refine Below.setCell ?_ ?_ _; rotate_left; exact (by first | (simp; done) | (simp; omega) | omega)))) (Nat.le_refl _)) hl1).mono ?_
    rintro e w5 ⟨aX1, capX1, rfl, hb, hf⟩
    have hw : Below w4.heap.size w4 w5 := Below.trans (by repeat (first | with_reducible exact Below.refl _ _ | with_reducible refine beld ?_ _ | (with_reducible refine Below.alloc ?_ ?_ _; rotate_left; exact (by first | (simp; done) | (simp; omega) | omega)) | (with_reducible refine Below.setCell ?_ ?_ _; rotate_left; exact (by first | (simp; done) | (simp; omega) | omega)))) (hb.mono (by first | (simp; done) | (simp; omega) | omega))
    have hB : Below w.heap.size w w5 := HB4.out.trans (hw.mono HB4.out.size)
    have hz5 : w4.heap.size ≤ w5.heap.size := hw.size
    have FS05 := Lib.hid (FS04.out.below hw FS04.out.2.2)
    have tS05 := FS05.out.2.2
    have FS15 := Lib.hid (FS14.out.below hw FS14.out.2.2)
    have tS15 := FS15.out.2.2
    have FX05 := Lib.hid (FX04.out.below hw FX04.out.2.2)
    have tX05 := FX05.out.2.2
    have FX15 := Lib.hid (hf.mono (lo' := w4.heap.size) (by first | (simp; done) | (simp; omega) | omega) (Nat.le_refl _) (Nat.le_refl _))
    have tX15 := FX15.out.2.2
    have HB5 := Lib.hid hB
    have hs5 : w.heap.size ≤ w5.heap.size := HB5.out.size
    clear hB hw hb
    go_wp2_with fail
    refine (HI.out aX0 capX0 aX1 capX1 _ (by first | exact FX05.out.row | exact (FX05.out.alloc _).row) (by first | exact FX15.out.row | exact (FX15.out.alloc _).row)).mono ?_
    rintro e w6 ⟨aG0, capG0, loG0, hiG0, aG1, capG1, loG1, hiG1, rfl, hfG0, hfG1, hpG0, hpG1, hlG0, hlG1, disjG, hb⟩
    have hw : Below w5.heap.size w5 w6 := Below.trans (by repeat (first | with_reducible exact Below.refl _ _ | with_reducible refine beld ?_ _ | (with_reducible refine Below.alloc ?_ ?_ _; rotate_left; exact (by first | (simp; done) | (simp; omega) | omega)) | (with_reducible refine Below.setCell ?_ ?_ _; rotate_left; exact (by first | (simp; done) | (simp; omega) | omega)))) (hb.mono (by first | (simp; done) | (simp; omega) | omega))
    have hB : Below w.heap.size w w6 := HB5.out.trans (hw.mono HB5.out.size)
    have hz6 : w5.heap.size ≤ w6.heap.size := hw.size
    have FS06 := Lib.hid (FS05.out.below hw FS05.out.2.2)
    have tS06 := FS06.out.2.2
    have FS16 := Lib.hid (FS15.out.below hw FS15.out.2.2)
    have tS16 := FS16.out.2.2
    have FX06 := Lib.hid (FX05.out.below hw FX05.out.2.2)
    have tX06 := FX06.out.2.2
    have FX16 := Lib.hid (FX15.out.below hw FX15.out.2.2)
    have tX16 := FX16.out.2.2
    have FG06 := Lib.hid hfG0
    have tG06 := FG06.out.2.2
    have FG16 := Lib.hid hfG1
    have tG16 := FG16.out.2.2
    have HB6 := Lib.hid hB
    have hs6 : w.heap.size ≤ w6.heap.size := HB6.out.size
    clear hB hw hb
    have hpG0' : w5.heap.size ≤ loG0 := Nat.le_trans (by first | (simp; done) | (simp; omega) | omega) hpG0
    have hpG1' : w5.heap.size ≤ loG1 := Nat.le_trans (by first | (simp; done) | (simp; omega) | omega) hpG1
    go_wp2_with fail
    refine (eqF_b aG0 aS0 capG0 capS0 Z0 _ (by first | exact FG06.out.row | exact (FG06.out.alloc _).row) (by first | exact FS06.out.row | exact (FS06.out.alloc _).row) hlG0).mono ?_
    rintro e w7 ⟨rfl, hb⟩
    have hw : Below w6.heap.size w6 w7 := Below.trans (by repeat (first | with_reducible exact Below.refl _ _ | with_reducible refine beld ?_ _ | (with_reducible refine Below.alloc ?_ ?_ _; rotate_left; exact (by first | (simp; done) | (simp; omega) | omega)) | (with_reducible refine Below.setCell ?_ ?_ _; rotate_left; exact (by first | (simp; done) | (simp; omega) | omega)))) (hb.mono (by first | (simp; done) | (simp; omega) | omega))
    have hB : Below w.heap.size w w7 := HB6.out.trans (hw.mono HB6.out.size)
    have hz7 : w6.heap.size ≤ w7.heap.size := hw.size
    have FS07 := Lib.hid (FS06.out.below hw FS06.out.2.2)
    have tS07 := FS07.out.2.2
    have FS17 := Lib.hid (FS16.out.below hw FS16.out.2.2)
    have tS17 := FS17.out.2.2
    have FX07 := Lib.hid (FX06.out.below hw FX06.out.2.2)
    have tX07 := FX07.out.2.2
    have FX17 := Lib.hid (FX16.out.below hw FX16.out.2.2)
    have tX17 := FX17.out.2.2
    have FG07 := Lib.hid (FG06.out.below hw FG06.out.2.2)
    have tG07 := FG07.out.2.2
    have FG17 := Lib.hid (FG16.out.below hw FG16.out.2.2)
    have tG17 := FG17.out.2.2
    have HB7 := Lib.hid hB
    have hs7 : w.heap.size ≤ w7.heap.size := HB7.out.size
    clear hB hw hb
    go_wp2_with fail
    refine (eqF_b aG1 aS1 capG1 capS1 Z1 _ (by first | exact FG17.out.row | exact (FG17.out.alloc _).row) (by first | exact FS17.out.row | exact (FS17.out.alloc _).row) hlG1).mono ?_
    rintro e w8 ⟨rfl, hb⟩
    have hw : Below w7.heap.size w7 w8 := Below.trans (by repeat (first | with_reducible exact Below.refl _ _ | with_reducible refine beld ?_ _ | (with_reducible refine Below.alloc ?_ ?_ _; rotate_left; exact (by first | (simp; done) | (simp; omega) | omega)) | (with_reducible refine Below.setCell ?_ ?_ _; rotate_left; exact (by first | (simp; done) | (simp; omega) | omega)))) (hb.mono (by first | (simp; done) | (simp; omega) | omega))
    have hB : Below w.heap.size w w8 := HB7.out.trans (hw.mono HB7.out.size)
    have hz8 : w7.heap.size ≤ w8.heap.size := hw.size
    have FS08 := Lib.hid (FS07.out.below hw FS07.out.2.2)
    have tS08 := FS08.out.2.2
    have FS18 := Lib.hid (FS17.out.below hw FS17.out.2.2)
    have tS18 := FS18.out.2.2
    have FX08 := Lib.hid (FX07.out.below hw FX07.out.2.2)
    have tX08 := FX08.out.2.2
    have FX18 := Lib.hid (FX17.out.below hw FX17.out.2.2)
    have tX18 := FX18.out.2.2
    have FG08 := Lib.hid (FG07.out.below hw FG07.out.2.2)
    have tG08 := FG08.out.2.2
    have FG18 := Lib.hid (FG17.out.below hw FG17.out.2.2)
    have tG18 := FG18.out.2.2
    have HB8 := Lib.hid hB
    have hs8 : w.heap.size ≤ w8.heap.size := HB8.out.size
    clear hB hw hb
    go_wp2_with fail
    refine (copyF_any a0 cap0 zs0 _ (by first | exact (H0.out.below HB8.out (Nat.le_refl _)) | exact ((H0.out.below HB8.out (Nat.le_refl _))).below (by repeat (first | with_reducible exact Below.refl _ _ | with_reducible refine beld ?_ _ | (with_reducible refine Below.alloc ?_ ?_ _; rotate_left; exact (by first | (simp; done) | (simp; omega) | omega)) | (with_reducible refine Below.setCell ?_ ?_ _; rotate_left; exact (by first | (simp; done) | (simp; omega) | omega)))) (Nat.le_refl _)) hl0).mono ?_
    rintro e w9 ⟨aE0, capE0, rfl, hb, hf⟩
    have hw : Below w8.heap.size w8 w9 := Below.trans (by repeat (first | with_reducible exact Below.refl _ _ | with_reducible refine beld ?_ _ | (with_reducible refine Below.alloc ?_ ?_ _; rotate_left; exact (by first | (simp; done) | (simp; omega) | omega)) | (with_reducible refine Below.setCell ?_ ?_ _; rotate_left; exact (by first | (simp; done) | (simp; omega) | omega)))) (hb.mono (by first | (simp; done) | (simp; omega) | omega))
    have hB : Below w.heap.size w w9 := HB8.out.trans (hw.mono HB8.out.size)
    have hz9 : w8.heap.size ≤ w9.heap.size := hw.size
    have FS09 := Lib.hid (FS08.out.below hw FS08.out.2.2)
    have tS09 := FS09.out.2.2
    have FS19 := Lib.hid (FS18.out.below hw FS18.out.2.2)
    have tS19 := FS19.out.2.2
    have FX09 := Lib.hid (FX08.out.below hw FX08.out.2.2)
    have tX09 := FX09.out.2.2
    have FX19 := Lib.hid (FX18.out.below hw FX18.out.2.2)
    have tX19 := FX19.out.2.2
    have FG09 := Lib.hid (FG08.out.below hw FG08.out.2.2)
    have tG09 := FG09.out.2.2
    have FG19 := Lib.hid (FG18.out.below hw FG18.out.2.2)
    have tG19 := FG19.out.2.2
    have FE09 := Lib.hid (hf.mono (lo' := w8.heap.size) (by first | (simp; done) | (simp; omega) | omega) (Nat.le_refl _) (Nat.le_refl _))
    have tE09 := FE09.out.2.2
    have HB9 := Lib.hid hB
    have hs9 : w.heap.size ≤ w9.heap.size := HB9.out.size
    clear hB hw hb
    go_wp2_with fail
    refine (eqF_b aX0 aE0 capX0 capE0 zs0 _ (by first | exact FX09.out.row | exact (FX09.out.alloc _).row) (by first | exact FE09.out.row | exact (FE09.out.alloc _).row) hl0).mono ?_
    rintro e w10 ⟨rfl, hb⟩
    have hw : Below w9.heap.size w9 w10 := Below.trans (by repeat (first | with_reducible exact Below.refl _ _ | with_reducible refine beld ?_ _ | (with_reducible refine Below.alloc ?_ ?_ _; rotate_left; exact (by first | (simp; done) | (simp; omega) | omega)) | (with_reducible refine Below.setCell ?_ ?_ _; rotate_left; exact (by first | (simp; done) | (simp; omega) | omega)))) (hb.mono (by first | (simp; done) | (simp; omega) | omega))
    have hB : Below w.heap.size w w10 := HB9.out.trans (hw.mono HB9.out.size)
    have hz10 : w9.heap.size ≤ w10.heap.size := hw.size
    have FS010 := Lib.hid (FS09.out.below hw FS09.out.2.2)
    have tS010 := FS010.out.2.2
    have FS110 := Lib.hid (FS19.out.below hw FS19.out.2.2)
    have tS110 := FS110.out.2.2
    have FX010 := Lib.hid (FX09.out.below hw FX09.out.2.2)
    have tX010 := FX010.out.2.2
    have FX110 := Lib.hid (FX19.out.below hw FX19.out.2.2)
    have tX110 := FX110.out.2.2
    have FG010 := Lib.hid (FG09.out.below hw FG09.out.2.2)
    have tG010 := FG010.out.2.2
    have FG110 := Lib.hid (FG19.out.below hw FG19.out.2.2)
    have tG110 := FG110.out.2.2
    have FE010 := Lib.hid (FE09.out.below hw FE09.out.2.2)
    have tE010 := FE010.out.2.2
    have HB10 := Lib.hid hB
    have hs10 : w.heap.size ≤ w10.heap.size := HB10.out.size
    clear hB hw hb
    go_wp2_with fail
    refine (copyF_any a1 cap1 zs1 _ (by first | exact (H1.out.below HB10.out (Nat.le_refl _)) | exact ((H1.out.below HB10.out (Nat.le_refl _))).below (by repeat (first | with_reducible exact Below.refl _ _ | with_reducible refine beld ?_ _ | (with_reducible refine Below.alloc ?_ ?_ _; rotate_left; exact (by first | (simp; done) | (simp; omega) | omega)) | (with_reducible refine Below.setCell ?_ ?_ _; rotate_left; exact (by first | (simp; done) | (simp; omega) | omega)))) (Nat.le_refl _)) hl1).mono ?_
    rintro e w11 ⟨aE1, capE1, rfl, hb, hf⟩
    have hw : Below w10.heap.size w10 w11 := Below.trans (by repeat (first | with_reducible exact Below.refl _ _ | with_reducible refine beld ?_ _ | (with_reducible refine Below.alloc ?_ ?_ _; rotate_left; exact (by first | (simp; done) | (simp; omega) | omega)) | (with_reducible refine Below.setCell ?_ ?_ _; rotate_left; exact (by first | (simp; done) | (simp; omega) | omega)))) (hb.mono (by first | (simp; done) | (simp; omega) | omega))
    have hB : Below w.heap.size w w11 := HB10.out.trans (hw.mono HB10.out.size)
    have hz11 : w10.heap.size ≤ w11.heap.size := hw.size
    have FS011 := Lib.hid (FS010.out.below hw FS010.out.2.2)
    have tS011 := FS011.out.2.2
    have FS111 := Lib.hid (FS110.out.below hw FS110.out.2.2)
    have tS111 := FS111.out.2.2
    have FX011 := Lib.hid (FX010.out.below hw FX010.out.2.2)
    have tX011 := FX011.out.2.2
    have FX111 := Lib.hid (FX110.out.below hw FX110.out.2.2)
    have tX111 := FX111.out.2.2
    have FG011 := Lib.hid (FG010.out.below hw FG010.out.2.2)
    have tG011 := FG011.out.2.2
    have FG111 := Lib.hid (FG110.out.below hw FG110.out.2.2)
    have tG111 := FG111.out.2.2
    have FE111 := Lib.hid (hf.mono (lo' := w10.heap.size) (by first | (simp; done) | (simp; omega) | omega) (Nat.le_refl _) (Nat.le_refl _))
    have tE111 := FE111.out.2.2
    have HB11 := Lib.hid hB
    have hs11 : w.heap.size ≤ w11.heap.size := HB11.out.size
    clear hB hw hb
    go_wp2_with fail
    refine (eqF_b aX1 aE1 capX1 capE1 zs1 _ (by first | exact FX111.out.row | exact (FX111.out.alloc _).row) (by first | exact FE111.out.row | exact (FE111.out.alloc _).row) hl1).mono ?_
    rintro e w12 ⟨rfl, hb⟩
    have hw : Below w11.heap.size w11 w12 := Below.trans (by repeat (first | with_reducible exact Below.refl _ _ | with_reducible refine beld ?_ _ | (with_reducible refine Below.alloc ?_ ?_ _; rotate_left; exact (by first | (simp; done) | (simp; omega) | omega)) | (with_reducible refine Below.setCell ?_ ?_ _; rotate_left; exact (by first | (simp; done) | (simp; omega) | omega)))) (hb.mono (by first | (simp; done) | (simp; omega) | omega))
    have hB : Below w.heap.size w w12 := HB11.out.trans (hw.mono HB11.out.size)
    have hz12 : w11.heap.size ≤ w12.heap.size := hw.size
    have FS012 := Lib.hid (FS011.out.below hw FS011.out.2.2)
    have tS012 := FS012.out.2.2
    have FS112 := Lib.hid (FS111.out.below hw FS111.out.2.2)
    have tS112 := FS112.out.2.2
    have FX012 := Lib.hid (FX011.out.below hw FX011.out.2.2)
    have tX012 := FX012.out.2.2
    have FX112 := Lib.hid (FX111.out.below hw FX111.out.2.2)
    have tX112 := FX112.out.2.2
    have FG012 := Lib.hid (FG011.out.below hw FG011.out.2.2)
    have tG012 := FG012.out.2.2
    have FG112 := Lib.hid (FG111.out.below hw FG111.out.2.2)
    have tG112 := FG112.out.2.2
    have FE112 := Lib.hid (FE111.out.below hw FE111.out.2.2)
    have tE112 := FE112.out.2.2
    have HB12 := Lib.hid hB
    have hs12 : w.heap.size ≤ w12.heap.size := HB12.out.size
    clear hB hw hb
    go_wp2_with fail
    refine (markF_any (w3.heap.size) (w4.heap.size) (1) aX0 capX0 zs0 _ (by first | exact FX012.out | exact (FX012.out.alloc _)) hl0 (by omega)).mono ?_
    rintro e w13 ⟨rfl, hf, hk⟩
    have hw : Kept (w3.heap.size) (w4.heap.size) w12 w13 := (Kept.of_below (by repeat (first | with_reducible exact Below.refl _ _ | with_reducible refine beld ?_ _ | (with_reducible refine Below.alloc ?_ ?_ _; rotate_left; exact (by first | (simp; done) | (simp; omega) | omega)) | (with_reducible refine Below.setCell ?_ ?_ _; rotate_left; exact (by first | (simp; done) | (simp; omega) | omega)))) (Nat.le_refl _)).trans hk
    have hB : Below w.heap.size w w13 := HB12.out.trans (hw.below (by omega) (by omega))
    have hz13 : w12.heap.size ≤ w13.heap.size := hw.size
    have FS013 := Lib.hid (FS012.out.kept hw (by omega))
    have tS013 := FS013.out.2.2
    have FS113 := Lib.hid (FS112.out.kept hw (by omega))
    have tS113 := FS113.out.2.2
    have FX113 := Lib.hid (FX112.out.kept hw (by omega))
    have tX113 := FX113.out.2.2
    have FG013 := Lib.hid (FG012.out.kept hw (by omega))
    have tG013 := FG013.out.2.2
    have FG113 := Lib.hid (FG112.out.kept hw (by omega))
    have tG113 := FG113.out.2.2
    have FX013 := Lib.hid hf
    have tX013 := FX013.out.2.2
    have HB13 := Lib.hid hB
    have hs13 : w.heap.size ≤ w13.heap.size := HB13.out.size
    clear hB hw hk
    have hcX0 : ¬ (((1 + zs0.length) : Nat) : Int) < 0 := by omega
    go_wp2_with fail
    refine (markF_any (w4.heap.size) (w5.heap.size) ((1 + zs0.length)) aX1 capX1 zs1 _ (by first | exact FX113.out | exact (FX113.out.alloc _)) hl1 (by omega)).mono ?_
    rintro e w14 ⟨rfl, hf, hk⟩
    have hw : Kept (w4.heap.size) (w5.heap.size) w13 w14 := (Kept.of_below (by repeat (first | with_reducible exact Below.refl _ _ | with_reducible refine beld ?_ _ | (with_reducible refine Below.alloc ?_ ?_ _; rotate_left; exact (by first | (simp; done) | (simp; omega) | omega)) | (with_reducible refine Below.setCell ?_ ?_ _; rotate_left; exact (by first | (simp; done) | (simp; omega) | omega)))) (Nat.le_refl _)).trans hk
    have hB : Below w.heap.size w w14 := HB13.out.trans (hw.below (by omega) (by omega))
    have hz14 : w13.heap.size ≤ w14.heap.size := hw.size
    have FS014 := Lib.hid (FS013.out.kept hw (by omega))
    have tS014 := FS014.out.2.2
    have FS114 := Lib.hid (FS113.out.kept hw (by omega))
    have tS114 := FS114.out.2.2
    have FX014 := Lib.hid (FX013.out.kept hw (by omega))
    have tX014 := FX014.out.2.2
    have FG014 := Lib.hid (FG013.out.kept hw (by omega))
    have tG014 := FG014.out.2.2
    have FG114 := Lib.hid (FG113.out.kept hw (by omega))
    have tG114 := FG114.out.2.2
    have FX114 := Lib.hid hf
    have tX114 := FX114.out.2.2
    have HB14 := Lib.hid hB
    have hs14 : w.heap.size ≤ w14.heap.size := HB14.out.size
    clear hB hw hk
    have hcX1 : ¬ ((((1 + zs0.length) + zs1.length) : Nat) : Int) < 0 := by omega
    go_wp2_with fail
    refine (eqF_b aG0 aS0 capG0 capS0 Z0 _ (by first | exact FG014.out.row | exact (FG014.out.alloc _).row) (by first | exact FS014.out.row | exact (FS014.out.alloc _).row) hlG0).mono ?_
    rintro e w15 ⟨rfl, hb⟩
    have hw : Below w14.heap.size w14 w15 := Below.trans (by repeat (first | with_reducible exact Below.refl _ _ | with_reducible refine beld ?_ _ | (with_reducible refine Below.alloc ?_ ?_ _; rotate_left; exact (by first | (simp; done) | (simp; omega) | omega)) | (with_reducible refine Below.setCell ?_ ?_ _; rotate_left; exact (by first | (simp; done) | (simp; omega) | omega)))) (hb.mono (by first | (simp; done) | (simp; omega) | omega))
    have hB : Below w.heap.size w w15 := HB14.out.trans (hw.mono HB14.out.size)
    have hz15 : w14.heap.size ≤ w15.heap.size := hw.size
    have FS015 := Lib.hid (FS014.out.below hw FS014.out.2.2)
    have tS015 := FS015.out.2.2
    have FS115 := Lib.hid (FS114.out.below hw FS114.out.2.2)
    have tS115 := FS115.out.2.2
    have FG015 := Lib.hid (FG014.out.below hw FG014.out.2.2)
    have tG015 := FG015.out.2.2
    have FG115 := Lib.hid (FG114.out.below hw FG114.out.2.2)
    have tG115 := FG115.out.2.2
    have HB15 := Lib.hid hB
    have hs15 : w.heap.size ≤ w15.heap.size := HB15.out.size
    clear hB hw hb
    go_wp2_with fail
    refine (eqF_b aG1 aS1 capG1 capS1 Z1 _ (by first | exact FG115.out.row | exact (FG115.out.alloc _).row) (by first | exact FS115.out.row | exact (FS115.out.alloc _).row) hlG1).mono ?_
    rintro e w16 ⟨rfl, hb⟩
    have hw : Below w15.heap.size w15 w16 := Below.trans (by repeat (first | with_reducible exact Below.refl _ _ | with_reducible refine beld ?_ _ | (with_reducible refine Below.alloc ?_ ?_ _; rotate_left; exact (by first | (simp; done) | (simp; omega) | omega)) | (with_reducible refine Below.setCell ?_ ?_ _; rotate_left; exact (by first | (simp; done) | (simp; omega) | omega)))) (hb.mono (by first | (simp; done) | (simp; omega) | omega))
    have hB : Below w.heap.size w w16 := HB15.out.trans (hw.mono HB15.out.size)
    have hz16 : w15.heap.size ≤ w16.heap.size := hw.size
    have FS016 := Lib.hid (FS015.out.below hw FS015.out.2.2)
    have tS016 := FS016.out.2.2
    have FS116 := Lib.hid (FS115.out.below hw FS115.out.2.2)
    have tS116 := FS116.out.2.2
    have FG016 := Lib.hid (FG015.out.below hw FG015.out.2.2)
    have tG016 := FG016.out.2.2
    have FG116 := Lib.hid (FG115.out.below hw FG115.out.2.2)
    have tG116 := FG116.out.2.2
    have HB16 := Lib.hid hB
    have hs16 : w.heap.size ≤ w16.heap.size := HB16.out.size
    clear hB hw hb
    go_wp2_with fail
    refine (markF_any (loG0) (hiG0) (1) aG0 capG0 Z0 _ (by first | exact FG016.out | exact (FG016.out.alloc _)) hlG0 (by omega)).mono ?_
    rintro e w17 ⟨rfl, hf, hk⟩
    have hw : Kept (loG0) (hiG0) w16 w17 := (Kept.of_below (by repeat (first | with_reducible exact Below.refl _ _ | with_reducible refine beld ?_ _ | (with_reducible refine Below.alloc ?_ ?_ _; rotate_left; exact (by first | (simp; done) | (simp; omega) | omega)) | (with_reducible refine Below.setCell ?_ ?_ _; rotate_left; exact (by first | (simp; done) | (simp; omega) | omega)))) (Nat.le_refl _)).trans hk
    have hB : Below w.heap.size w w17 := HB16.out.trans (hw.below (by omega) (by omega))
    have hz17 : w16.heap.size ≤ w17.heap.size := hw.size
    have FS017 := Lib.hid (FS016.out.kept hw (by omega))
    have tS017 := FS017.out.2.2
    have FS117 := Lib.hid (FS116.out.kept hw (by omega))
    have tS117 := FS117.out.2.2
    have FG117 := Lib.hid (FG116.out.kept hw (by omega))
    have tG117 := FG117.out.2.2
    have FG017 := Lib.hid hf
    have tG017 := FG017.out.2.2
    have HB17 := Lib.hid hB
    have hs17 : w.heap.size ≤ w17.heap.size := HB17.out.size
    clear hB hw hk
    have hcG0 : ¬ (((1 + Z0.length) : Nat) : Int) < 0 := by omega
    go_wp2_with fail
    refine (markF_any (loG1) (hiG1) ((1 + Z0.length)) aG1 capG1 Z1 _ (by first | exact FG117.out | exact (FG117.out.alloc _)) hlG1 (by omega)).mono ?_
    rintro e w18 ⟨rfl, hf, hk⟩
    have hw : Kept (loG1) (hiG1) w17 w18 := (Kept.of_below (by repeat (first | with_reducible exact Below.refl _ _ | with_reducible refine beld ?_ _ | (with_reducible refine Below.alloc ?_ ?_ _; rotate_left; exact (by first | (simp; done) | (simp; omega) | omega)) | (with_reducible refine Below.setCell ?_ ?_ _; rotate_left; exact (by first | (simp; done) | (simp; omega) | omega)))) (Nat.le_refl _)).trans hk
    have hB : Below w.heap.size w w18 := HB17.out.trans (hw.below (by omega) (by omega))
    have hz18 : w17.heap.size ≤ w18.heap.size := hw.size
    have FS018 := Lib.hid (FS017.out.kept hw (by omega))
    have tS018 := FS018.out.2.2
    have FS118 := Lib.hid (FS117.out.kept hw (by omega))
    have tS118 := FS118.out.2.2
    have FG018 := Lib.hid (FG017.out.kept hw (by omega))
    have tG018 := FG018.out.2.2
    have FG118 := Lib.hid hf
    have tG118 := FG118.out.2.2
    have HB18 := Lib.hid hB
    have hs18 : w.heap.size ≤ w18.heap.size := HB18.out.size
    clear hB hw hk
    have hcG1 : ¬ ((((1 + Z0.length) + Z1.length) : Nat) : Int) < 0 := by omega
    go_wp2_with fail
    refine (heldF_any (loG0) (hiG0) (1) Z0.length aG0 capG0 _ (by first | exact FG018.out | exact FG018.out.alloc _) hlG0 (by omega)).mono ?_
    rintro e w' ⟨rfl, rfl⟩
    go_wp2_with fail
    refine (heldF_any (loG1) (hiG1) ((1 + Z0.length)) Z1.length aG1 capG1 _ (by first | exact FG118.out | exact FG118.out.alloc _) hlG1 (by omega)).mono ?_
    rintro e w' ⟨rfl, rfl⟩
    go_wp2_with fail
    refine (copyF_any a0 cap0 zs0 _ (by first | exact (H0.out.below HB18.out (Nat.le_refl _)) | exact ((H0.out.below HB18.out (Nat.le_refl _))).below (by repeat (first | with_reducible exact Below.refl _ _ | with_reducible refine beld ?_ _ | (with_reducible refine Below.alloc ?_ ?_ _; rotate_left; exact (by first | (simp; done) | (simp; omega) | omega)) | (with_reducible refine Below.setCell ?_ ?_ _; rotate_left; exact (by first | (simp; done) | (simp; omega) | omega)))) (Nat.le_refl _)) hl0).mono ?_
    rintro e w19 ⟨aIc0, capIc0, rfl, hb, hf⟩
    have hw : Below w18.heap.size w18 w19 := Below.trans (by repeat (first | with_reducible exact Below.refl _ _ | with_reducible refine beld ?_ _ | (with_reducible refine Below.alloc ?_ ?_ _; rotate_left; exact (by first | (simp; done) | (simp; omega) | omega)) | (with_reducible refine Below.setCell ?_ ?_ _; rotate_left; exact (by first | (simp; done) | (simp; omega) | omega)))) (hb.mono (by first | (simp; done) | (simp; omega) | omega))
    have hB : Below w.heap.size w w19 := HB18.out.trans (hw.mono HB18.out.size)
    have hz19 : w18.heap.size ≤ w19.heap.size := hw.size
    have FS019 := Lib.hid (FS018.out.below hw FS018.out.2.2)
    have tS019 := FS019.out.2.2
    have FS119 := Lib.hid (FS118.out.below hw FS118.out.2.2)
    have tS119 := FS119.out.2.2
    have FG019 := Lib.hid (FG018.out.below hw FG018.out.2.2)
    have tG019 := FG019.out.2.2
    have FG119 := Lib.hid (FG118.out.below hw FG118.out.2.2)
    have tG119 := FG119.out.2.2
    have FIc019 := Lib.hid (hf.mono (lo' := w18.heap.size) (by first | (simp; done) | (simp; omega) | omega) (Nat.le_refl _) (Nat.le_refl _))
    have tIc019 := FIc019.out.2.2
    have HB19 := Lib.hid hB
    have hs19 : w.heap.size ≤ w19.heap.size := HB19.out.size
    clear hB hw hb
    go_wp2_with fail
    refine (copyF_any a1 cap1 zs1 _ (by first | exact (H1.out.below HB19.out (Nat.le_refl _)) | exact ((H1.out.below HB19.out (Nat.le_refl _))).below (by repeat (first | with_reducible exact Below.refl _ _ | with_reducible refine beld ?_ _ | (with_reducible refine Below.alloc ?_ ?_ _; rotate_left; exact (by first | (simp; done) | (simp; omega) | omega)) | (with_reducible refine Below.setCell ?_ ?_ _; rotate_left; exact (by first | (simp; done) | (simp; omega) | omega)))) (Nat.le_refl _)) hl1).mono ?_
    rintro e w20 ⟨aIc1, capIc1, rfl, hb, hf⟩
    have hw : Below w19.heap.size w19 w20 := Below.trans (by repeat (first | with_reducible exact Below.refl _ _ | with_reducible refine beld ?_ _ | (with_reducible refine Below.alloc ?_ ?_ _; rotate_left; exact (by first | (simp; done) | (simp; omega) | omega)) | (with_reducible refine Below.setCell ?_ ?_ _; rotate_left; exact (by first | (simp; done) | (simp; omega) | omega)))) (hb.mono (by first | (simp; done) | (simp; omega) | omega))
    have hB : Below w.heap.size w w20 := HB19.out.trans (hw.mono HB19.out.size)
    have hz20 : w19.heap.size ≤ w20.heap.size := hw.size
    have FS020 := Lib.hid (FS019.out.below hw FS019.out.2.2)
    have tS020 := FS020.out.2.2
    have FS120 := Lib.hid (FS119.out.below hw FS119.out.2.2)
    have tS120 := FS120.out.2.2
    have FG020 := Lib.hid (FG019.out.below hw FG019.out.2.2)
    have tG020 := FG020.out.2.2
    have FG120 := Lib.hid (FG119.out.below hw FG119.out.2.2)
    have tG120 := FG120.out.2.2
    have FIc020 := Lib.hid (FIc019.out.below hw FIc019.out.2.2)
    have tIc020 := FIc020.out.2.2
    have FIc120 := Lib.hid (hf.mono (lo' := w19.heap.size) (by first | (simp; done) | (simp; omega) | omega) (Nat.le_refl _) (Nat.le_refl _))
    have tIc120 := FIc120.out.2.2
    have HB20 := Lib.hid hB
    have hs20 : w.heap.size ≤ w20.heap.size := HB20.out.size
    clear hB hw hb
    go_wp2_with fail
    refine (HI.out aIc0 capIc0 aIc1 capIc1 _ (by first | exact FIc020.out.row | exact (FIc020.out.alloc _).row) (by first | exact FIc120.out.row | exact (FIc120.out.alloc _).row)).mono ?_
    rintro e w21 ⟨aI0, capI0, loI0, hiI0, aI1, capI1, loI1, hiI1, rfl, hfI0, hfI1, hpI0, hpI1, hlI0, hlI1, disjI, hb⟩
    have hw : Below w20.heap.size w20 w21 := Below.trans (by repeat (first | with_reducible exact Below.refl _ _ | with_reducible refine beld ?_ _ | (with_reducible refine Below.alloc ?_ ?_ _; rotate_left; exact (by first | (simp; done) | (simp; omega) | omega)) | (with_reducible refine Below.setCell ?_ ?_ _; rotate_left; exact (by first | (simp; done) | (simp; omega) | omega)))) (hb.mono (by first | (simp; done) | (simp; omega) | omega))
    have hB : Below w.heap.size w w21 := HB20.out.trans (hw.mono HB20.out.size)
    have hz21 : w20.heap.size ≤ w21.heap.size := hw.size
    have FS021 := Lib.hid (FS020.out.below hw FS020.out.2.2)
    have tS021 := FS021.out.2.2
    have FS121 := Lib.hid (FS120.out.below hw FS120.out.2.2)
    have tS121 := FS121.out.2.2
    have FG021 := Lib.hid (FG020.out.below hw FG020.out.2.2)
    have tG021 := FG021.out.2.2
    have FG121 := Lib.hid (FG120.out.below hw FG120.out.2.2)
    have tG121 := FG121.out.2.2
    have FIc021 := Lib.hid (FIc020.out.below hw FIc020.out.2.2)
    have tIc021 := FIc021.out.2.2
    have FIc121 := Lib.hid (FIc120.out.below hw FIc120.out.2.2)
    have tIc121 := FIc121.out.2.2
    have FI021 := Lib.hid hfI0
    have tI021 := FI021.out.2.2
    have FI121 := Lib.hid hfI1
    have tI121 := FI121.out.2.2
    have HB21 := Lib.hid hB
    have hs21 : w.heap.size ≤ w21.heap.size := HB21.out.size
    clear hB hw hb
    have hpI0' : w20.heap.size ≤ loI0 := Nat.le_trans (by first | (simp; done) | (simp; omega) | omega) hpI0
    have hpI1' : w20.heap.size ≤ loI1 := Nat.le_trans (by first | (simp; done) | (simp; omega) | omega) hpI1
    go_wp2_with fail
    refine (eqF_b aI0 aS0 capI0 capS0 Z0 _ (by first | exact FI021.out.row | exact (FI021.out.alloc _).row) (by first | exact FS021.out.row | exact (FS021.out.alloc _).row) hlI0).mono ?_
    rintro e w22 ⟨rfl, hb⟩
    have hw : Below w21.heap.size w21 w22 := Below.trans (by repeat (first | with_reducible exact Below.refl _ _ | with_reducible refine beld ?_ _ | (with_reducible refine Below.alloc ?_ ?_ _; rotate_left; exact (by first | (simp; done) | (simp; omega) | omega)) | (with_reducible refine Below.setCell ?_ ?_ _; rotate_left; exact (by first | (simp; done) | (simp; omega) | omega)))) (hb.mono (by first | (simp; done) | (simp; omega) | omega))
    have hB : Below w.heap.size w w22 := HB21.out.trans (hw.mono HB21.out.size)
    have hz22 : w21.heap.size ≤ w22.heap.size := hw.size
    have FS022 := Lib.hid (FS021.out.below hw FS021.out.2.2)
    have tS022 := FS022.out.2.2
    have FS122 := Lib.hid (FS121.out.below hw FS121.out.2.2)
    have tS122 := FS122.out.2.2
    have FG022 := Lib.hid (FG021.out.below hw FG021.out.2.2)
    have tG022 := FG022.out.2.2
    have FG122 := Lib.hid (FG121.out.below hw FG121.out.2.2)
    have tG122 := FG122.out.2.2
    have FI022 := Lib.hid (FI021.out.below hw FI021.out.2.2)
    have tI022 := FI022.out.2.2
    have FI122 := Lib.hid (FI121.out.below hw FI121.out.2.2)
    have tI122 := FI122.out.2.2
    have HB22 := Lib.hid hB
    have hs22 : w.heap.size ≤ w22.heap.size := HB22.out.size
    clear hB hw hb
    go_wp2_with fail
    refine (eqF_b aI1 aS1 capI1 capS1 Z1 _ (by first | exact FI122.out.row | exact (FI122.out.alloc _).row) (by first | exact FS122.out.row | exact (FS122.out.alloc _).row) hlI1).mono ?_
    rintro e w23 ⟨rfl, hb⟩
    have hw : Below w22.heap.size w22 w23 := Below.trans (by repeat (first | with_reducible exact Below.refl _ _ | with_reducible refine beld ?_ _ | (with_reducible refine Below.alloc ?_ ?_ _; rotate_left; exact (by first | (simp; done) | (simp; omega) | omega)) | (with_reducible refine Below.setCell ?_ ?_ _; rotate_left; exact (by first | (simp; done) | (simp; omega) | omega)))) (hb.mono (by first | (simp; done) | (simp; omega) | omega))
    have hB : Below w.heap.size w w23 := HB22.out.trans (hw.mono HB22.out.size)
    have hz23 : w22.heap.size ≤ w23.heap.size := hw.size
    have FS023 := Lib.hid (FS022.out.below hw FS022.out.2.2)
    have tS023 := FS023.out.2.2
    have FS123 := Lib.hid (FS122.out.below hw FS122.out.2.2)
    have tS123 := FS123.out.2.2
    have FG023 := Lib.hid (FG022.out.below hw FG022.out.2.2)
    have tG023 := FG023.out.2.2
    have FG123 := Lib.hid (FG122.out.below hw FG122.out.2.2)
    have tG123 := FG123.out.2.2
    have FI023 := Lib.hid (FI022.out.below hw FI022.out.2.2)
    have tI023 := FI023.out.2.2
    have FI123 := Lib.hid (FI122.out.below hw FI122.out.2.2)
    have tI123 := FI123.out.2.2
    have HB23 := Lib.hid hB
    have hs23 : w.heap.size ≤ w23.heap.size := HB23.out.size
    clear hB hw hb
    go_wp2_with fail
    refine (heldF_any (loG0) (hiG0) (1) Z0.length aG0 capG0 _ (by first | exact FG023.out | exact FG023.out.alloc _) hlG0 (by omega)).mono ?_
    rintro e w' ⟨rfl, rfl⟩
    go_wp2_with fail
    refine (heldF_any (loG1) (hiG1) ((1 + Z0.length)) Z1.length aG1 capG1 _ (by first | exact FG123.out | exact FG123.out.alloc _) hlG1 (by omega)).mono ?_
    rintro e w' ⟨rfl, rfl⟩
    go_wp2_with fail
    go_ret
    exact ⟨rfl, Below.trans HB23.out ((by exact (by repeat (first | with_reducible exact Below.refl _ _ | with_reducible refine beld ?_ _ | (with_reducible refine Below.alloc ?_ ?_ _; rotate_left; exact (by first | (simp; done) | (simp; omega) | omega)) | (with_reducible refine Below.setCell ?_ ?_ _; rotate_left; exact (by first | (simp; done) | (simp; omega) | omega)))) : Below w23.heap.size w23 _).mono HB23.out.size)⟩

set_option maxHeartbeats 1000000 in
theorem walk_FnExactRunWave (a0 : Option Addr) (len0 cap0 : Nat) (zs0 : List Nat) (a1 : Option Addr) (len1 cap1 : Nat) (zs1 : List Nat) (r : Nat) (d : Nat) (t : Nat) (w : World) (h0 : IsRowF .f32 w a0 len0 cap0 zs0) (h1 : IsRowF .f32 w a1 len1 cap1 zs1) (hr : r < 4294967296) (hd : d < 4294967296) (ht : t < 4294967296) :
    Calls Try.prog 4 #[.slice a0 len0 cap0, .slice a1 len1 cap1, .float .f32 r, .float .f32 d, .float .f32 t] w fun e w' => e = .returned (.bool true) ∧ Below w.heap.size w w' := by
  obtain ⟨rfl, hcap0, hmax0, hr0, hz0⟩ := h0
  obtain ⟨rfl, hcap1, hmax1, hr1, hz1⟩ := h1
  unfold maxLen at hmax0 hmax1
  by_cases hl0 : zs0.length ≤ 1048576
  · skip
    by_cases hl1 : zs1.length ≤ 1048576
    · exact runWaveLaw_fits a0 cap0 zs0 a1 cap1 zs1 r d t w hr0 hl0 hz0 hr1 hl1 hz1 hr hd ht
    · have hg : 1048576 < (zs1.length : Int) := by omega
      clear hr0 hz0 hr1 hz1
      have hg0 : ¬ 1048576 < (zs0.length : Int) := by omega
      go_enter Try.func4, Try.ntmps4
      go_wp2_with fail
      go_ret
      exact ⟨rfl, (Below.refl _ _)⟩
  · have hg : 1048576 < (zs0.length : Int) := by omega
    clear hr0 hz0 hr1 hz1
    go_enter Try.func4, Try.ntmps4
    go_wp2_with fail
    go_ret
    exact ⟨rfl, (Below.refl _ _)⟩
end Go.Proofs.Ytgnkpppbhibfoaa
