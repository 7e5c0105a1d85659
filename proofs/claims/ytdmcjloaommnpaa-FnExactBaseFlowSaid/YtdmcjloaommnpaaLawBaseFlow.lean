/- The walk of the law on BaseFlow. -/
import Derived.Test.YtdmcjloaommnpaaBasS
import Derived.Test.YtdmcjloaommnpaaTo
import Derived.Test.YtdmcjloaommnpaaSame
import Derived.Test.YtdmcjloaommnpaaEqF
import Derived.Test.YtdmcjloaommnpaaGrow
import Derived.DataShut
namespace Go.Proofs.Ytdmcjloaommnpaa
open Go.RowKit
set_option linter.unusedVariables false
set_option linter.unusedSimpArgs false
set_option maxRecDepth 100000
attribute [local irreducible] wpV wpList Code.wp

set_option maxHeartbeats 16000000 in
theorem baseFlowLaw_fits (a0 : Option Addr) (cap0 : Nat) (zs0 : List Nat) (k : Nat) (w : World) (hr0 : RowF .f32 w a0 zs0) (hl0 : zs0.length ≤ 1048576) (hz0 : ∀ z ∈ zs0, z < 4294967296) (hk : k < 4294967296) :
    Calls Try.prog 10 #[.slice a0 zs0.length cap0, .float .f32 k] w fun e w' => e = .returned (.bool true) ∧ Below w.heap.size w w' := by
  obtain ⟨⟨Z0, B⟩, hR⟩ : ∃ R, baseO zs0 (some k) = R := ⟨_, rfl⟩
  have cS : ∀ (a0 : Option Addr) (cap0 : Nat) (W : World), RowF .f32 W a0 zs0 → Calls Try.prog 32 #[.slice a0 zs0.length cap0, .float .f32 k] W (ListB (Z0, B) W) := by
    intro a0 cap0 W h0'
    have := baseFlow_s a0 cap0 zs0 W h0' hl0 hz0 (Is32.c hk)
    rw [hR] at this
    exact this
  have cI : ∀ (a0 : Option Addr) (cap0 : Nat) (W : World), RowF .f32 W a0 zs0 → Calls Try.prog 33 #[.slice a0 zs0.length cap0, .float .f32 k] W (ListB (Z0, B) W) := by
    intro a0 cap0 W h0'
    have := baseFlow_i a0 cap0 zs0 W h0' hl0 hz0 (Is32.c hk)
    rw [hR] at this
    exact this
  have HS := Lib.hid cS
  have HI := Lib.hid cI
  clear cS cI hR
  have H0 := Lib.hid hr0
  clear hr0 hz0
  cases B
  all_goals
    go_enter Try.func10, Try.ntmps10
    go_wp2_with fail
    refine (copyF_any a0 cap0 zs0 _ (by first | exact (H0.out.below (Below.refl _ _) (Nat.le_refl _)) | exact ((H0.out.below (Below.refl _ _) (Nat.le_refl _))).below (by repeat (first | with_reducible exact Below.refl _ _ | with_reducible refine beld ?_ _ | (with_reducible refine Below.alloc ?_ ?_ _; rotate_left; exact (by first | (simp; done) | (simp; omega) | omega)) | (with_reducible refine Below.setCell ?_ ?_ _; rotate_left; exact (by first | (simp; done) | (simp; omega) | omega)))) (Nat.le_refl _)) hl0).mono ?_
    rintro e w1 ⟨aSc0, capSc0, rfl, hb, hf⟩
    have hw : Below w.heap.size w w1 := Below.trans (by repeat (first | with_reducible exact Below.refl _ _ | with_reducible refine beld ?_ _ | (with_reducible refine Below.alloc ?_ ?_ _; rotate_left; exact (by first | (simp; done) | (simp; omega) | omega)) | (with_reducible refine Below.setCell ?_ ?_ _; rotate_left; exact (by first | (simp; done) | (simp; omega) | omega)))) (hb.mono (by first | (simp; done) | (simp; omega) | omega))
    have hB : Below w.heap.size w w1 := hw
    have hz1 : w.heap.size ≤ w1.heap.size := hw.size
    have FSc01 := Lib.hid (hf.mono (lo' := w.heap.size) (by first | (simp; done) | (simp; omega) | omega) (Nat.le_refl _) (Nat.le_refl _))
    have tSc01 := FSc01.out.2.2
    have HB1 := Lib.hid hB
    have hs1 : w.heap.size ≤ w1.heap.size := HB1.out.size
    clear hB hw hb
    go_wp2_with fail
    refine (HS.out aSc0 capSc0 _ (by first | exact FSc01.out.row | exact (FSc01.out.alloc _).row)).mono ?_
    rintro e w2 ⟨aS0, capS0, rfl, hfS0, hlS0, hb⟩
    have hw : Below w1.heap.size w1 w2 := Below.trans (by repeat (first | with_reducible exact Below.refl _ _ | with_reducible refine beld ?_ _ | (with_reducible refine Below.alloc ?_ ?_ _; rotate_left; exact (by first | (simp; done) | (simp; omega) | omega)) | (with_reducible refine Below.setCell ?_ ?_ _; rotate_left; exact (by first | (simp; done) | (simp; omega) | omega)))) (hb.mono (by first | (simp; done) | (simp; omega) | omega))
    have hB : Below w.heap.size w w2 := HB1.out.trans (hw.mono HB1.out.size)
    have hz2 : w1.heap.size ≤ w2.heap.size := hw.size
    have FSc02 := Lib.hid (FSc01.out.below hw FSc01.out.2.2)
    have tSc02 := FSc02.out.2.2
    have FS02 := Lib.hid (hfS0.mono (lo' := w1.heap.size) (by first | (simp; done) | (simp; omega) | omega) (Nat.le_refl _) (Nat.le_refl _))
    have tS02 := FS02.out.2.2
    have HB2 := Lib.hid hB
    have hs2 : w.heap.size ≤ w2.heap.size := HB2.out.size
    clear hB hw hb
    go_wp2_with fail
    refine (copyF_any a0 cap0 zs0 _ (by first | exact (H0.out.below HB2.out (Nat.le_refl _)) | exact ((H0.out.below HB2.out (Nat.le_refl _))).below (by repeat (first | with_reducible exact Below.refl _ _ | with_reducible refine beld ?_ _ | (with_reducible refine Below.alloc ?_ ?_ _; rotate_left; exact (by first | (simp; done) | (simp; omega) | omega)) | (with_reducible refine Below.setCell ?_ ?_ _; rotate_left; exact (by first | (simp; done) | (simp; omega) | omega)))) (Nat.le_refl _)) hl0).mono ?_
    rintro e w3 ⟨aX0, capX0, rfl, hb, hf⟩
    have hw : Below w2.heap.size w2 w3 := Below.trans (by repeat (first | with_reducible exact Below.refl _ _ | with_reducible refine beld ?_ _ | (with_reducible refine Below.alloc ?_ ?_ _; rotate_left; exact (by first | (simp; done) | (simp; omega) | omega)) | (with_reducible refine Below.setCell ?_ ?_ _; rotate_left; exact (by first | (simp; done) | (simp; omega) | omega)))) (hb.mono (by first | (simp; done) | (simp; omega) | omega))
    have hB : Below w.heap.size w w3 := HB2.out.trans (hw.mono HB2.out.size)
    have hz3 : w2.heap.size ≤ w3.heap.size := hw.size
    have FS03 := Lib.hid (FS02.out.below hw FS02.out.2.2)
    have tS03 := FS03.out.2.2
    have FX03 := Lib.hid (hf.mono (lo' := w2.heap.size) (by first | (simp; done) | (simp; omega) | omega) (Nat.le_refl _) (Nat.le_refl _))
    have tX03 := FX03.out.2.2
    have HB3 := Lib.hid hB
    have hs3 : w.heap.size ≤ w3.heap.size := HB3.out.size
    clear hB hw hb
    go_wp2_with fail
    refine (HI.out aX0 capX0 _ (by first | exact FX03.out.row | exact (FX03.out.alloc _).row)).mono ?_
    rintro e w4 ⟨aG0, capG0, rfl, hfG0, hlG0, hb⟩
    have hw : Below w3.heap.size w3 w4 := Below.trans (by repeat (first | with_reducible exact Below.refl _ _ | with_reducible refine beld ?_ _ | (with_reducible refine Below.alloc ?_ ?_ _; rotate_left; exact (by first | (simp; done) | (simp; omega) | omega)) | (with_reducible refine Below.setCell ?_ ?_ _; rotate_left; exact (by first | (simp; done) | (simp; omega) | omega)))) (hb.mono (by first | (simp; done) | (simp; omega) | omega))
    have hB : Below w.heap.size w w4 := HB3.out.trans (hw.mono HB3.out.size)
    have hz4 : w3.heap.size ≤ w4.heap.size := hw.size
    have FS04 := Lib.hid (FS03.out.below hw FS03.out.2.2)
    have tS04 := FS04.out.2.2
    have FX04 := Lib.hid (FX03.out.below hw FX03.out.2.2)
    have tX04 := FX04.out.2.2
    have FG04 := Lib.hid (hfG0.mono (lo' := w3.heap.size) (by first | (simp; done) | (simp; omega) | omega) (Nat.le_refl _) (Nat.le_refl _))
    have tG04 := FG04.out.2.2
    have HB4 := Lib.hid hB
    have hs4 : w.heap.size ≤ w4.heap.size := HB4.out.size
    clear hB hw hb
    go_wp2_with fail
    refine (eqF_b aG0 aS0 capG0 capS0 Z0 _ (by first | exact FG04.out.row | exact (FG04.out.alloc _).row) (by first | exact FS04.out.row | exact (FS04.out.alloc _).row) hlG0).mono ?_
    rintro e w5 ⟨rfl, hb⟩
    have hw : Below w4.heap.size w4 w5 := Below.trans (by repeat (first | with_reducible exact Below.refl _ _ | with_reducible refine beld ?_ _ | (with_reducible refine Below.alloc ?_ ?_ _; rotate_left; exact (by first | (simp; done) | (simp; omega) | omega)) | (with_reducible refine Below.setCell ?_ ?_ _; rotate_left; exact (by first | (simp; done) | (simp; omega) | omega)))) (hb.mono (by first | (simp; done) | (simp; omega) | omega))
    have hB : Below w.heap.size w w5 := HB4.out.trans (hw.mono HB4.out.size)
    have hz5 : w4.heap.size ≤ w5.heap.size := hw.size
    have FS05 := Lib.hid (FS04.out.below hw FS04.out.2.2)
    have tS05 := FS05.out.2.2
    have FX05 := Lib.hid (FX04.out.below hw FX04.out.2.2)
    have tX05 := FX05.out.2.2
    have FG05 := Lib.hid (FG04.out.below hw FG04.out.2.2)
    have tG05 := FG05.out.2.2
    have HB5 := Lib.hid hB
    have hs5 : w.heap.size ≤ w5.heap.size := HB5.out.size
    clear hB hw hb
    go_wp2_with fail
    refine (copyF_any a0 cap0 zs0 _ (by first | exact (H0.out.below HB5.out (Nat.le_refl _)) | exact ((H0.out.below HB5.out (Nat.le_refl _))).below (by repeat (first | with_reducible exact Below.refl _ _ | with_reducible refine beld ?_ _ | (with_reducible refine Below.alloc ?_ ?_ _; rotate_left; exact (by first | (simp; done) | (simp; omega) | omega)) | (with_reducible refine Below.setCell ?_ ?_ _; rotate_left; exact (by first | (simp; done) | (simp; omega) | omega)))) (Nat.le_refl _)) hl0).mono ?_
    rintro e w6 ⟨aE0, capE0, rfl, hb, hf⟩
    have hw : Below w5.heap.size w5 w6 := Below.trans (by repeat (first | with_reducible exact Below.refl _ _ | with_reducible refine beld ?_ _ | (with_reducible refine Below.alloc ?_ ?_ _; rotate_left; exact (by first | (simp; done) | (simp; omega) | omega)) | (with_reducible refine Below.setCell ?_ ?_ _; rotate_left; exact (by first | (simp; done) | (simp; omega) | omega)))) (hb.mono (by first | (simp; done) | (simp; omega) | omega))
    have hB : Below w.heap.size w w6 := HB5.out.trans (hw.mono HB5.out.size)
    have hz6 : w5.heap.size ≤ w6.heap.size := hw.size
    have FS06 := Lib.hid (FS05.out.below hw FS05.out.2.2)
    have tS06 := FS06.out.2.2
    have FX06 := Lib.hid (FX05.out.below hw FX05.out.2.2)
    have tX06 := FX06.out.2.2
    have FG06 := Lib.hid (FG05.out.below hw FG05.out.2.2)
    have tG06 := FG06.out.2.2
    have FE06 := Lib.hid (hf.mono (lo' := w5.heap.size) (by first | (simp; done) | (simp; omega) | omega) (Nat.le_refl _) (Nat.le_refl _))
    have tE06 := FE06.out.2.2
    have HB6 := Lib.hid hB
    have hs6 : w.heap.size ≤ w6.heap.size := HB6.out.size
    clear hB hw hb
    go_wp2_with fail
    refine (eqF_b aX0 aE0 capX0 capE0 zs0 _ (by first | exact FX06.out.row | exact (FX06.out.alloc _).row) (by first | exact FE06.out.row | exact (FE06.out.alloc _).row) hl0).mono ?_
    rintro e w7 ⟨rfl, hb⟩
    have hw : Below w6.heap.size w6 w7 := Below.trans (by repeat (first | with_reducible exact Below.refl _ _ | with_reducible refine beld ?_ _ | (with_reducible refine Below.alloc ?_ ?_ _; rotate_left; exact (by first | (simp; done) | (simp; omega) | omega)) | (with_reducible refine Below.setCell ?_ ?_ _; rotate_left; exact (by first | (simp; done) | (simp; omega) | omega)))) (hb.mono (by first | (simp; done) | (simp; omega) | omega))
    have hB : Below w.heap.size w w7 := HB6.out.trans (hw.mono HB6.out.size)
    have hz7 : w6.heap.size ≤ w7.heap.size := hw.size
    have FS07 := Lib.hid (FS06.out.below hw FS06.out.2.2)
    have tS07 := FS07.out.2.2
    have FX07 := Lib.hid (FX06.out.below hw FX06.out.2.2)
    have tX07 := FX07.out.2.2
    have FG07 := Lib.hid (FG06.out.below hw FG06.out.2.2)
    have tG07 := FG07.out.2.2
    have FE07 := Lib.hid (FE06.out.below hw FE06.out.2.2)
    have tE07 := FE07.out.2.2
    have HB7 := Lib.hid hB
    have hs7 : w.heap.size ≤ w7.heap.size := HB7.out.size
    clear hB hw hb
    go_wp2_with fail
    refine (markF_any (w2.heap.size) (w3.heap.size) (1) aX0 capX0 zs0 _ (by first | exact FX07.out | exact (FX07.out.alloc _)) hl0 (by omega)).mono ?_
    rintro e w8 ⟨rfl, hf, hk⟩
    have hw : Kept (w2.heap.size) (w3.heap.size) w7 w8 := (Kept.of_below (by repeat (first | with_reducible exact Below.refl _ _ | with_reducible refine beld ?_ _ | (with_reducible refine Below.alloc ?_ ?_ _; rotate_left; exact (by first | (simp; done) | (simp; omega) | omega)) | (with_reducible refine Below.setCell ?_ ?_ _; rotate_left; exact (by first | (simp; done) | (simp; omega) | omega)))) (Nat.le_refl _)).trans hk
    have hB : Below w.heap.size w w8 := HB7.out.trans (hw.below (by omega) (by omega))
    have hz8 : w7.heap.size ≤ w8.heap.size := hw.size
    have FS08 := Lib.hid (FS07.out.kept hw (by omega))
    have tS08 := FS08.out.2.2
    have FG08 := Lib.hid (FG07.out.kept hw (by omega))
    have tG08 := FG08.out.2.2
    have FX08 := Lib.hid hf
    have tX08 := FX08.out.2.2
    have HB8 := Lib.hid hB
    have hs8 : w.heap.size ≤ w8.heap.size := HB8.out.size
    clear hB hw hk
    have hcX0 : ¬ (((1 + zs0.length) : Nat) : Int) < 0 := by omega
    go_wp2_with fail
    refine (eqF_b aG0 aS0 capG0 capS0 Z0 _ (by first | exact FG08.out.row | exact (FG08.out.alloc _).row) (by first | exact FS08.out.row | exact (FS08.out.alloc _).row) hlG0).mono ?_
    rintro e w9 ⟨rfl, hb⟩
    have hw : Below w8.heap.size w8 w9 := Below.trans (by repeat (first | with_reducible exact Below.refl _ _ | with_reducible refine beld ?_ _ | (with_reducible refine Below.alloc ?_ ?_ _; rotate_left; exact (by first | (simp; done) | (simp; omega) | omega)) | (with_reducible refine Below.setCell ?_ ?_ _; rotate_left; exact (by first | (simp; done) | (simp; omega) | omega)))) (hb.mono (by first | (simp; done) | (simp; omega) | omega))
    have hB : Below w.heap.size w w9 := HB8.out.trans (hw.mono HB8.out.size)
    have hz9 : w8.heap.size ≤ w9.heap.size := hw.size
    have FS09 := Lib.hid (FS08.out.below hw FS08.out.2.2)
    have tS09 := FS09.out.2.2
    have FG09 := Lib.hid (FG08.out.below hw FG08.out.2.2)
    have tG09 := FG09.out.2.2
    have HB9 := Lib.hid hB
    have hs9 : w.heap.size ≤ w9.heap.size := HB9.out.size
    clear hB hw hb
    go_wp2_with fail
    refine (markF_any (w3.heap.size) (w4.heap.size) (1) aG0 capG0 Z0 _ (by first | exact FG09.out | exact (FG09.out.alloc _)) hlG0 (by omega)).mono ?_
    rintro e w10 ⟨rfl, hf, hk⟩
    have hw : Kept (w3.heap.size) (w4.heap.size) w9 w10 := (Kept.of_below (by repeat (first | with_reducible exact Below.refl _ _ | with_reducible refine beld ?_ _ | (with_reducible refine Below.alloc ?_ ?_ _; rotate_left; exact (by first | (simp; done) | (simp; omega) | omega)) | (with_reducible refine Below.setCell ?_ ?_ _; rotate_left; exact (by first | (simp; done) | (simp; omega) | omega)))) (Nat.le_refl _)).trans hk
    have hB : Below w.heap.size w w10 := HB9.out.trans (hw.below (by omega) (by omega))
    have hz10 : w9.heap.size ≤ w10.heap.size := hw.size
    have FS010 := Lib.hid (FS09.out.kept hw (by omega))
    have tS010 := FS010.out.2.2
    have FG010 := Lib.hid hf
    have tG010 := FG010.out.2.2
    have HB10 := Lib.hid hB
    have hs10 : w.heap.size ≤ w10.heap.size := HB10.out.size
    clear hB hw hk
    have hcG0 : ¬ (((1 + Z0.length) : Nat) : Int) < 0 := by omega
    go_wp2_with fail
    refine (heldF_any (w3.heap.size) (w4.heap.size) (1) Z0.length aG0 capG0 _ (by first | exact FG010.out | exact FG010.out.alloc _) hlG0 (by omega)).mono ?_
    rintro e w' ⟨rfl, rfl⟩
    go_wp2_with fail
    refine (copyF_any a0 cap0 zs0 _ (by first | exact (H0.out.below HB10.out (Nat.le_refl _)) | exact ((H0.out.below HB10.out (Nat.le_refl _))).below (by repeat (first | with_reducible exact Below.refl _ _ | with_reducible refine beld ?_ _ | (with_reducible refine Below.alloc ?_ ?_ _; rotate_left; exact (by first | (simp; done) | (simp; omega) | omega)) | (with_reducible refine Below.setCell ?_ ?_ _; rotate_left; exact (by first | (simp; done) | (simp; omega) | omega)))) (Nat.le_refl _)) hl0).mono ?_
    rintro e w11 ⟨aIc0, capIc0, rfl, hb, hf⟩
    have hw : Below w10.heap.size w10 w11 := Below.trans (by repeat (first | with_reducible exact Below.refl _ _ | with_reducible refine beld ?_ _ | (with_reducible refine Below.alloc ?_ ?_ _; rotate_left; exact (by first | (simp; done) | (simp; omega) | omega)) | (with_reducible refine Below.setCell ?_ ?_ _; rotate_left; exact (by first | (simp; done) | (simp; omega) | omega)))) (hb.mono (by first | (simp; done) | (simp; omega) | omega))
    have hB : Below w.heap.size w w11 := HB10.out.trans (hw.mono HB10.out.size)
    have hz11 : w10.heap.size ≤ w11.heap.size := hw.size
    have FS011 := Lib.hid (FS010.out.below hw FS010.out.2.2)
    have tS011 := FS011.out.2.2
    have FG011 := Lib.hid (FG010.out.below hw FG010.out.2.2)
    have tG011 := FG011.out.2.2
    have FIc011 := Lib.hid (hf.mono (lo' := w10.heap.size) (by first | (simp; done) | (simp; omega) | omega) (Nat.le_refl _) (Nat.le_refl _))
    have tIc011 := FIc011.out.2.2
    have HB11 := Lib.hid hB
    have hs11 : w.heap.size ≤ w11.heap.size := HB11.out.size
    clear hB hw hb
    go_wp2_with fail
    refine (HI.out aIc0 capIc0 _ (by first | exact FIc011.out.row | exact (FIc011.out.alloc _).row)).mono ?_
    rintro e w12 ⟨aI0, capI0, rfl, hfI0, hlI0, hb⟩
    have hw : Below w11.heap.size w11 w12 := Below.trans (by repeat (first | with_reducible exact Below.refl _ _ | with_reducible refine beld ?_ _ | (with_reducible refine Below.alloc ?_ ?_ _; rotate_left; exact (by first | (simp; done) | (simp; omega) | omega)) | (with_reducible refine Below.setCell ?_ ?_ _; rotate_left; exact (by first | (simp; done) | (simp; omega) | omega)))) (hb.mono (by first | (simp; done) | (simp; omega) | omega))
    have hB : Below w.heap.size w w12 := HB11.out.trans (hw.mono HB11.out.size)
    have hz12 : w11.heap.size ≤ w12.heap.size := hw.size
    have FS012 := Lib.hid (FS011.out.below hw FS011.out.2.2)
    have tS012 := FS012.out.2.2
    have FG012 := Lib.hid (FG011.out.below hw FG011.out.2.2)
    have tG012 := FG012.out.2.2
    have FIc012 := Lib.hid (FIc011.out.below hw FIc011.out.2.2)
    have tIc012 := FIc012.out.2.2
    have FI012 := Lib.hid (hfI0.mono (lo' := w11.heap.size) (by first | (simp; done) | (simp; omega) | omega) (Nat.le_refl _) (Nat.le_refl _))
    have tI012 := FI012.out.2.2
    have HB12 := Lib.hid hB
    have hs12 : w.heap.size ≤ w12.heap.size := HB12.out.size
    clear hB hw hb
    go_wp2_with fail
    refine (eqF_b aI0 aS0 capI0 capS0 Z0 _ (by first | exact FI012.out.row | exact (FI012.out.alloc _).row) (by first | exact FS012.out.row | exact (FS012.out.alloc _).row) hlI0).mono ?_
    rintro e w13 ⟨rfl, hb⟩
    have hw : Below w12.heap.size w12 w13 := Below.trans (by repeat (first | with_reducible exact Below.refl _ _ | with_reducible refine beld ?_ _ | (with_reducible refine Below.alloc ?_ ?_ _; rotate_left; exact (by first | (simp; done) | (simp; omega) | omega)) | (with_reducible refine Below.setCell ?_ ?_ _; rotate_left; exact (by first | (simp; done) | (simp; omega) | omega)))) (hb.mono (by first | (simp; done) | (simp; omega) | omega))
    have hB : Below w.heap.size w w13 := HB12.out.trans (hw.mono HB12.out.size)
    have hz13 : w12.heap.size ≤ w13.heap.size := hw.size
    have FS013 := Lib.hid (FS012.out.below hw FS012.out.2.2)
    have tS013 := FS013.out.2.2
    have FG013 := Lib.hid (FG012.out.below hw FG012.out.2.2)
    have tG013 := FG013.out.2.2
    have FI013 := Lib.hid (FI012.out.below hw FI012.out.2.2)
    have tI013 := FI013.out.2.2
    have HB13 := Lib.hid hB
    have hs13 : w.heap.size ≤ w13.heap.size := HB13.out.size
    clear hB hw hb
    go_wp2_with fail
    refine (heldF_any (w3.heap.size) (w4.heap.size) (1) Z0.length aG0 capG0 _ (by first | exact FG013.out | exact FG013.out.alloc _) hlG0 (by omega)).mono ?_
    rintro e w' ⟨rfl, rfl⟩
    go_wp2_with fail
    go_ret
    exact ⟨rfl, Below.trans HB13.out ((by exact (by repeat (first | with_reducible exact Below.refl _ _ | with_reducible refine beld ?_ _ | (with_reducible refine Below.alloc ?_ ?_ _; rotate_left; exact (by first | (simp; done) | (simp; omega) | omega)) | (with_reducible refine Below.setCell ?_ ?_ _; rotate_left; exact (by first | (simp; done) | (simp; omega) | omega)))) : Below w13.heap.size w13 _).mono HB13.out.size)⟩

set_option maxHeartbeats 1000000 in
theorem walk_FnExactBaseFlow (a0 : Option Addr) (len0 cap0 : Nat) (zs0 : List Nat) (k : Nat) (w : World) (h0 : IsRowF .f32 w a0 len0 cap0 zs0) (hk : k < 4294967296) :
    Calls Try.prog 10 #[.slice a0 len0 cap0, .float .f32 k] w fun e w' => e = .returned (.bool true) ∧ Below w.heap.size w w' := by
  obtain ⟨rfl, hcap0, hmax0, hr0, hz0⟩ := h0
  unfold maxLen at hmax0
  by_cases hl0 : zs0.length ≤ 1048576
  · exact baseFlowLaw_fits a0 cap0 zs0 k w hr0 hl0 hz0 hk
  · have hg : 1048576 < (zs0.length : Int) := by omega
    clear hr0 hz0
    go_enter Try.func10, Try.ntmps10
    go_wp2_with fail
    go_ret
    exact ⟨rfl, (Below.refl _ _)⟩
end Go.Proofs.Ytdmcjloaommnpaa
