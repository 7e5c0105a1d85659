/- The walk of the law on RunSnow. -/
import Derived.Test.YtfdcfalkidcdnabRSnI
import Derived.Test.YtfdcfalkidcdnabRSnS
import Derived.Test.YtfdcfalkidcdnabTo
import Derived.Test.YtfdcfalkidcdnabSame
import Derived.Test.YtfdcfalkidcdnabEqF
import Derived.Test.YtfdcfalkidcdnabGrow
import Derived.DataShut
namespace Go.Proofs.Ytfdcfalkidcdnab
open Go.RowKit
set_option linter.unusedVariables false
set_option linter.unusedSimpArgs false
set_option maxRecDepth 100000
attribute [local irreducible] wpV wpList Code.wp

set_option maxHeartbeats 4000000 in
theorem eqSnow_o {O0 O1 O2 O3 : Option Nat} {x0 x1 x2 x3 y0 y1 y2 y3 : Nat} (w : World) (hx0 : Is32 O0 x0) (hy0 : Is32 O0 y0) (hx1 : Is32 O1 x1) (hy1 : Is32 O1 y1) (hx2 : Is32 O2 x2) (hy2 : Is32 O2 y2) (hx3 : Is32 O3 x3) (hy3 : Is32 O3 y3) :
    Calls Try.prog 26 #[.agg #[.float .f32 x0, .float .f32 x1, .float .f32 x2, .float .f32 x3], .agg #[.float .f32 y0, .float .f32 y1, .float .f32 y2, .float .f32 y3]] w fun e w' => e = .returned (.bool true) ∧ Below w.heap.size w w' := by
  go_enter Try.func26, Try.ntmps26
  go_wp2_with (first | ((with_reducible refine wpList_cv ?_); refine wpList_widen rfl _ _ _ rfl rfl (by kernel_rfl) Try.underlying69 (by assumption) ?_; intro y q hy) | (go_at_call 68; refine (sameFloat_true _ _ _ (by assumption) (by assumption) _).mono ?_; rintro e w' ⟨rfl, n3, rfl⟩))
  go_ret
  exact ⟨rfl, by repeat (first | with_reducible exact bel2 _ _ _ | with_reducible refine beld ?_ _)⟩

set_option maxHeartbeats 16000000 in
theorem runSnowLaw_fits (p0 p1 p2 p3 : Nat) (a1 : Option Addr) (cap1 : Nat) (zs1 : List Nat) (a2 : Option Addr) (cap2 : Nat) (zs2 : List Nat) (t : Nat) (w : World) (hp0 : p0 < 4294967296) (hp1 : p1 < 4294967296) (hp2 : p2 < 4294967296) (hp3 : p3 < 4294967296) (hr1 : RowF .f32 w a1 zs1) (hl1 : zs1.length ≤ 1048576) (hz1 : ∀ z ∈ zs1, z < 4294967296) (hr2 : RowF .f32 w a2 zs2) (hl2 : zs2.length ≤ 1048576) (hz2 : ∀ z ∈ zs2, z < 4294967296) (ht : t < 4294967296) :
    Calls Try.prog 4 #[.agg #[.float .f32 p0, .float .f32 p1, .float .f32 p2, .float .f32 p3], .slice a1 zs1.length cap1, .slice a2 zs2.length cap2, .float .f32 t] w fun e w' => e = .returned (.bool true) ∧ Below w.heap.size w w' := by
  obtain ⟨⟨S0, S1, S2, S3, Z1, B⟩, hR⟩ : ∃ R, runSnowO (some p0) (some p1) (some p2) (some p3) (some t) zs1 zs2 = R := ⟨_, rfl⟩
  have cS : ∀ (a1 : Option Addr) (cap1 : Nat) (a2 : Option Addr) (cap2 : Nat) (W : World), RowF .f32 W a1 zs1 → RowF .f32 W a2 zs2 → Calls Try.prog 23 #[.agg #[.float .f32 p0, .float .f32 p1, .float .f32 p2, .float .f32 p3], .slice a1 zs1.length cap1, .slice a2 zs2.length cap2, .float .f32 t] W (RunB ⟨S0, S1, S2, S3, Z1, B⟩ W) := by
    intro a1 cap1 a2 cap2 W h1' h2'
    have := runSnow_s a1 cap1 zs1 a2 cap2 zs2 W (Is32.c hp0) (Is32.c hp1) (Is32.c hp2) (Is32.c hp3) h1' hl1 hz1 h2' hl2 hz2 (Is32.c ht)
    rw [hR] at this
    exact this
  have cI : ∀ (a1 : Option Addr) (cap1 : Nat) (a2 : Option Addr) (cap2 : Nat) (W : World), RowF .f32 W a1 zs1 → RowF .f32 W a2 zs2 → Calls Try.prog 25 #[.agg #[.float .f32 p0, .float .f32 p1, .float .f32 p2, .float .f32 p3], .slice a1 zs1.length cap1, .slice a2 zs2.length cap2, .float .f32 t] W (RunB ⟨S0, S1, S2, S3, Z1, B⟩ W) := by
    intro a1 cap1 a2 cap2 W h1' h2'
    have := runSnow_i a1 cap1 zs1 a2 cap2 zs2 W (Is32.c hp0) (Is32.c hp1) (Is32.c hp2) (Is32.c hp3) h1' hl1 hz1 h2' hl2 hz2 (Is32.c ht)
    rw [hR] at this
    exact this
  have HS := Lib.hid cS
  have HI := Lib.hid cI
  clear cS cI hR
  have H1 := Lib.hid hr1
  clear hr1 hz1
  have H2 := Lib.hid hr2
  clear hr2 hz2
  cases B
  all_goals
    go_enter Try.func4, Try.ntmps4
    go_wp2_with fail
    refine (toSnow_o _ _ _ _  _).mono ?_
    rintro e w1 ⟨rfl, hb⟩
    have hw : Below w.heap.size w w1 := Below.trans (by repeat (first | with_reducible exact Below.refl _ _ | with_reducible refine beld ?_ _ | (with_reducible refine Below.alloc ?_ ?_ _; rotate_left; exact (by first | (simp; done) | (simp; omega) | omega)) | (with_reducible refine Below.setCell ?_ ?_ _; rotate_left; exact (by first | (simp; done) | (simp; omega) | omega)))) (hb.mono (by first | (simp; done) | (simp; omega) | omega))
    have hB : Below w.heap.size w w1 := hw
    have hz1 : w.heap.size ≤ w1.heap.size := hw.size
    have hx1 : w.heap.size + 1 ≤ w1.heap.size := (by have := hb.size; (try simp at this); omega)
    have bx : Bx w1 (w.heap.size) [.float .f32 p0, .float .f32 p1, .float .f32 p2, .float .f32 p3] := (by first | exact Bx.below (Bx.new w [_, _, _, _] _) hb (by first | (simp; done) | (simp; omega) | omega) | exact Bx.below (Bx.drewN (Bx.new w [_, _, _, _] _) _) hb (by first | (simp; done) | (simp; omega) | omega))
    have XA01 := Lib.hid bx
    clear bx
    have HB1 := Lib.hid hB
    have hs1 : w.heap.size ≤ w1.heap.size := HB1.out.size
    clear hB hw hb
    have cA00 := XA01.out.c 0 rfl
    have cA01 := XA01.out.c 1 rfl
    have cA02 := XA01.out.c 2 rfl
    have cA03 := XA01.out.c 3 rfl
    go_wp2_with fail
    refine (copyF_any a1 cap1 zs1 _ (by first | exact (H1.out.below HB1.out (Nat.le_refl _)) | exact ((H1.out.below HB1.out (Nat.le_refl _))).below (by repeat (first | with_reducible exact Below.refl _ _ | with_reducible refine beld ?_ _ | (with_reducible refine Below.alloc ?_ ?_ _; rotate_left; exact (by first | (simp; done) | (simp; omega) | omega)) | (with_reducible refine Below.setCell ?_ ?_ _; rotate_left; exact (by first | (simp; done) | (simp; omega) | omega)))) (Nat.le_refl _)) hl1).mono ?_
    rintro e w2 ⟨aSc1, capSc1, rfl, hb, hf⟩
    have hw : Below w1.heap.size w1 w2 := Below.trans (by repeat (first | with_reducible exact Below.refl _ _ | with_reducible refine beld ?_ _ | (with_reducible refine Below.alloc ?_ ?_ _; rotate_left; exact (by first | (simp; done) | (simp; omega) | omega)) | (with_reducible refine Below.setCell ?_ ?_ _; rotate_left; exact (by first | (simp; done) | (simp; omega) | omega)))) (hb.mono (by first | (simp; done) | (simp; omega) | omega))
    have hB : Below w.heap.size w w2 := HB1.out.trans (hw.mono HB1.out.size)
    have hz2 : w1.heap.size ≤ w2.heap.size := hw.size
    have bx : Bx w2 (w.heap.size) [.float .f32 p0, .float .f32 p1, .float .f32 p2, .float .f32 p3] := XA01.out.below hw XA01.out.1
    have XA02 := Lib.hid bx
    clear bx
    clear cA00 cA01 cA02 cA03
    have FSc12 := Lib.hid (hf.mono (lo' := w1.heap.size) (by first | (simp; done) | (simp; omega) | omega) (Nat.le_refl _) (Nat.le_refl _))
    have tSc12 := FSc12.out.2.2
    have HB2 := Lib.hid hB
    have hs2 : w.heap.size ≤ w2.heap.size := HB2.out.size
    clear hB hw hb
    have cA00 := XA02.out.c 0 rfl
    have cA01 := XA02.out.c 1 rfl
    have cA02 := XA02.out.c 2 rfl
    have cA03 := XA02.out.c 3 rfl
    go_wp2_with fail
    refine (copyF_any a2 cap2 zs2 _ (by first | exact (H2.out.below HB2.out (Nat.le_refl _)) | exact ((H2.out.below HB2.out (Nat.le_refl _))).below (by repeat (first | with_reducible exact Below.refl _ _ | with_reducible refine beld ?_ _ | (with_reducible refine Below.alloc ?_ ?_ _; rotate_left; exact (by first | (simp; done) | (simp; omega) | omega)) | (with_reducible refine Below.setCell ?_ ?_ _; rotate_left; exact (by first | (simp; done) | (simp; omega) | omega)))) (Nat.le_refl _)) hl2).mono ?_
    rintro e w3 ⟨aSc2, capSc2, rfl, hb, hf⟩
    have hw : Below w2.heap.size w2 w3 := Below.trans (by repeat (first | with_reducible exact Below.refl _ _ | with_reducible refine beld ?_ _ | (with_reducible refine Below.alloc ?_ ?_ _; rotate_left; exact (by first | (simp; done) | (simp; omega) | omega)) | (with_reducible refine Below.setCell ?_ ?_ _; rotate_left; exact (by first | (simp; done) | (simp; omega) | omega)))) (hb.mono (by first | (simp; done) | (simp; omega) | omega))
    have hB : Below w.heap.size w w3 := HB2.out.trans (hw.mono HB2.out.size)
    have hz3 : w2.heap.size ≤ w3.heap.size := hw.size
    have FSc13 := Lib.hid (FSc12.out.below hw FSc12.out.2.2)
    have tSc13 := FSc13.out.2.2
    have bx : Bx w3 (w.heap.size) [.float .f32 p0, .float .f32 p1, .float .f32 p2, .float .f32 p3] := XA02.out.below hw XA02.out.1
    have XA03 := Lib.hid bx
    clear bx
    clear cA00 cA01 cA02 cA03
    have FSc23 := Lib.hid (hf.mono (lo' := w2.heap.size) (by first | (simp; done) | (simp; omega) | omega) (Nat.le_refl _) (Nat.le_refl _))
    have tSc23 := FSc23.out.2.2
    have HB3 := Lib.hid hB
    have hs3 : w.heap.size ≤ w3.heap.size := HB3.out.size
    clear hB hw hb
    have cA00 := XA03.out.c 0 rfl
    have cA01 := XA03.out.c 1 rfl
    have cA02 := XA03.out.c 2 rfl
    have cA03 := XA03.out.c 3 rfl
    go_wp2_with fail
    refine (HS.out aSc1 capSc1 aSc2 capSc2 _ (by first | exact FSc13.out.row | exact (FSc13.out.alloc _).row) (by first | exact FSc23.out.row | exact (FSc23.out.alloc _).row)).mono ?_
    rintro e w4 ⟨Ss0, Ss1, Ss2, Ss3, aS1, capS1, rfl, ⟨Si0, Si1, Si2, Si3⟩, hfS1, hlS1, hb⟩
    have hw : Below w3.heap.size w3 w4 := Below.trans (by repeat (first | with_reducible exact Below.refl _ _ | with_reducible refine beld ?_ _ | (with_reducible refine Below.alloc ?_ ?_ _; rotate_left; exact (by first | (simp; done) | (simp; omega) | omega)) | (with_reducible refine Below.setCell ?_ ?_ _; rotate_left; exact (by first | (simp; done) | (simp; omega) | omega)))) (hb.mono (by first | (simp; done) | (simp; omega) | omega))
    have hB : Below w.heap.size w w4 := HB3.out.trans (hw.mono HB3.out.size)
    have hz4 : w3.heap.size ≤ w4.heap.size := hw.size
    have FSc14 := Lib.hid (FSc13.out.below hw FSc13.out.2.2)
    have tSc14 := FSc14.out.2.2
    have FSc24 := Lib.hid (FSc23.out.below hw FSc23.out.2.2)
    have tSc24 := FSc24.out.2.2
    have bx : Bx w4 (w.heap.size) [.float .f32 p0, .float .f32 p1, .float .f32 p2, .float .f32 p3] := XA03.out.below hw XA03.out.1
    have XA04 := Lib.hid bx
    clear bx
    clear cA00 cA01 cA02 cA03
    have FS14 := Lib.hid (hfS1.mono (lo' := w3.heap.size) (by first | (simp; done) | (simp; omega) | omega) (Nat.le_refl _) (Nat.le_refl _))
    have tS14 := FS14.out.2.2
    have HB4 := Lib.hid hB
    have hs4 : w.heap.size ≤ w4.heap.size := HB4.out.size
    clear hB hw hb
    have cA00 := XA04.out.c 0 rfl
    have cA01 := XA04.out.c 1 rfl
    have cA02 := XA04.out.c 2 rfl
    have cA03 := XA04.out.c 3 rfl
    clear cA00 cA01 cA02 cA03
    have cA00 := (XA04.out.alloc (.cells #[.float .f32 Ss0, .float .f32 Ss1, .float .f32 Ss2, .float .f32 Ss3] 37)).c 0 rfl
    have cA01 := (XA04.out.alloc (.cells #[.float .f32 Ss0, .float .f32 Ss1, .float .f32 Ss2, .float .f32 Ss3] 37)).c 1 rfl
    have cA02 := (XA04.out.alloc (.cells #[.float .f32 Ss0, .float .f32 Ss1, .float .f32 Ss2, .float .f32 Ss3] 37)).c 2 rfl
    have cA03 := (XA04.out.alloc (.cells #[.float .f32 Ss0, .float .f32 Ss1, .float .f32 Ss2, .float .f32 Ss3] 37)).c 3 rfl
    go_wp2_with fail
    refine (copyF_any a1 cap1 zs1 _ (by exact H1.out.below (Below.trans HB4.out ((by exact (by repeat (first | with_reducible exact Below.refl _ _ | with_reducible refine beld ?_ _ | (with_reducible refine Below.alloc ?_ ?_ _; rotate_left; exact (by first | (simp; done) | (simp; omega) | omega)) | (with_reducible refine Below.setCell ?_ ?_ _; rotate_left; exact (by first | (simp; done) | (simp; omega) | omega)))) : Below w4.heap.size w4 _).mono HB4.out.size)) (Nat.le_refl _)) hl1).mono ?_
    rintro e w5 ⟨aX1, capX1, rfl, hb, hf⟩
    have hw : Below w4.heap.size w4 w5 := Below.trans (by repeat (first | with_reducible exact Below.refl _ _ | with_reducible refine beld ?_ _ | (with_reducible refine Below.alloc ?_ ?_ _; rotate_left; exact (by first | (simp; done) | (simp; omega) | omega)) | (with_reducible refine Below.setCell ?_ ?_ _; rotate_left; exact (by first | (simp; done) | (simp; omega) | omega)))) (hb.mono (by first | (simp; done) | (simp; omega) | omega))
    have hB : Below w.heap.size w w5 := HB4.out.trans (hw.mono HB4.out.size)
    have hz5 : w4.heap.size ≤ w5.heap.size := hw.size
    have hy5 : w4.heap.size < w5.heap.size := (by have := hb.size; (try simp at this); omega)
    have FS15 := Lib.hid (FS14.out.below hw FS14.out.2.2)
    have tS15 := FS15.out.2.2
    have bx : Bx w5 (w.heap.size) [.float .f32 p0, .float .f32 p1, .float .f32 p2, .float .f32 p3] := XA04.out.below hw XA04.out.1
    have XA05 := Lib.hid bx
    clear bx
    have bx : Bx w5 (w4.heap.size) [.float .f32 Ss0, .float .f32 Ss1, .float .f32 Ss2, .float .f32 Ss3] := (by first | exact Bx.below (Bx.new w4 [_, _, _, _] _) hb (by first | (simp; done) | (simp; omega) | omega) | exact Bx.below (Bx.drewN (Bx.new w4 [_, _, _, _] _) _) hb (by first | (simp; done) | (simp; omega) | omega))
    have XBS05 := Lib.hid bx
    clear bx
    clear cA00 cA01 cA02 cA03
    have FX15 := Lib.hid (hf.mono (lo' := w4.heap.size + 1) (by first | (simp; done) | (simp; omega) | omega) (Nat.le_refl _) (Nat.le_refl _))
    have tX15 := FX15.out.2.2
    have HB5 := Lib.hid hB
    have hs5 : w.heap.size ≤ w5.heap.size := HB5.out.size
    clear hB hw hb
    have cA00 := XA05.out.c 0 rfl
    have cA01 := XA05.out.c 1 rfl
    have cA02 := XA05.out.c 2 rfl
    have cA03 := XA05.out.c 3 rfl
    have cBS00 := XBS05.out.c 0 rfl
    have cBS01 := XBS05.out.c 1 rfl
    have cBS02 := XBS05.out.c 2 rfl
    have cBS03 := XBS05.out.c 3 rfl
    go_wp2_with fail
    refine (copyF_any a2 cap2 zs2 _ (by first | exact (H2.out.below HB5.out (Nat.le_refl _)) | exact ((H2.out.below HB5.out (Nat.le_refl _))).below (by repeat (first | with_reducible exact Below.refl _ _ | with_reducible refine beld ?_ _ | (with_reducible refine Below.alloc ?_ ?_ _; rotate_left; exact (by first | (simp; done) | (simp; omega) | omega)) | (with_reducible refine Below.setCell ?_ ?_ _; rotate_left; exact (by first | (simp; done) | (simp; omega) | omega)))) (Nat.le_refl _)) hl2).mono ?_
    rintro e w6 ⟨aX2, capX2, rfl, hb, hf⟩
    have hw : Below w5.heap.size w5 w6 := Below.trans (by repeat (first | with_reducible exact Below.refl _ _ | with_reducible refine beld ?_ _ | (with_reducible refine Below.alloc ?_ ?_ _; rotate_left; exact (by first | (simp; done) | (simp; omega) | omega)) | (with_reducible refine Below.setCell ?_ ?_ _; rotate_left; exact (by first | (simp; done) | (simp; omega) | omega)))) (hb.mono (by first | (simp; done) | (simp; omega) | omega))
    have hB : Below w.heap.size w w6 := HB5.out.trans (hw.mono HB5.out.size)
    have hz6 : w5.heap.size ≤ w6.heap.size := hw.size
    have FS16 := Lib.hid (FS15.out.below hw FS15.out.2.2)
    have tS16 := FS16.out.2.2
    have FX16 := Lib.hid (FX15.out.below hw FX15.out.2.2)
    have tX16 := FX16.out.2.2
    have bx : Bx w6 (w.heap.size) [.float .f32 p0, .float .f32 p1, .float .f32 p2, .float .f32 p3] := XA05.out.below hw XA05.out.1
    have XA06 := Lib.hid bx
    clear bx
    have bx : Bx w6 (w4.heap.size) [.float .f32 Ss0, .float .f32 Ss1, .float .f32 Ss2, .float .f32 Ss3] := XBS05.out.below hw XBS05.out.1
    have XBS06 := Lib.hid bx
    clear bx
    clear cA00 cA01 cA02 cA03 cBS00 cBS01 cBS02 cBS03
    have FX26 := Lib.hid (hf.mono (lo' := w5.heap.size) (by first | (simp; done) | (simp; omega) | omega) (Nat.le_refl _) (Nat.le_refl _))
    have tX26 := FX26.out.2.2
    have HB6 := Lib.hid hB
    have hs6 : w.heap.size ≤ w6.heap.size := HB6.out.size
    clear hB hw hb
    have cA00 := XA06.out.c 0 rfl
    have cA01 := XA06.out.c 1 rfl
    have cA02 := XA06.out.c 2 rfl
    have cA03 := XA06.out.c 3 rfl
    have cBS00 := XBS06.out.c 0 rfl
    have cBS01 := XBS06.out.c 1 rfl
    have cBS02 := XBS06.out.c 2 rfl
    have cBS03 := XBS06.out.c 3 rfl
    go_wp2_with fail
    refine (toSnow_o _ _ _ _  _).mono ?_
    rintro e w7 ⟨rfl, hb⟩
    have hw : Below w6.heap.size w6 w7 := Below.trans (by repeat (first | with_reducible exact Below.refl _ _ | with_reducible refine beld ?_ _ | (with_reducible refine Below.alloc ?_ ?_ _; rotate_left; exact (by first | (simp; done) | (simp; omega) | omega)) | (with_reducible refine Below.setCell ?_ ?_ _; rotate_left; exact (by first | (simp; done) | (simp; omega) | omega)))) (hb.mono (by first | (simp; done) | (simp; omega) | omega))
    have hB : Below w.heap.size w w7 := HB6.out.trans (hw.mono HB6.out.size)
    have hz7 : w6.heap.size ≤ w7.heap.size := hw.size
    have FS17 := Lib.hid (FS16.out.below hw FS16.out.2.2)
    have tS17 := FS17.out.2.2
    have FX17 := Lib.hid (FX16.out.below hw FX16.out.2.2)
    have tX17 := FX17.out.2.2
    have FX27 := Lib.hid (FX26.out.below hw FX26.out.2.2)
    have tX27 := FX27.out.2.2
    have bx : Bx w7 (w.heap.size) [.float .f32 p0, .float .f32 p1, .float .f32 p2, .float .f32 p3] := XA06.out.below hw XA06.out.1
    have XA07 := Lib.hid bx
    clear bx
    have bx : Bx w7 (w4.heap.size) [.float .f32 Ss0, .float .f32 Ss1, .float .f32 Ss2, .float .f32 Ss3] := XBS06.out.below hw XBS06.out.1
    have XBS07 := Lib.hid bx
    clear bx
    clear cA00 cA01 cA02 cA03 cBS00 cBS01 cBS02 cBS03
    have HB7 := Lib.hid hB
    have hs7 : w.heap.size ≤ w7.heap.size := HB7.out.size
    clear hB hw hb
    have cA00 := XA07.out.c 0 rfl
    have cA01 := XA07.out.c 1 rfl
    have cA02 := XA07.out.c 2 rfl
    have cA03 := XA07.out.c 3 rfl
    have cBS00 := XBS07.out.c 0 rfl
    have cBS01 := XBS07.out.c 1 rfl
    have cBS02 := XBS07.out.c 2 rfl
    have cBS03 := XBS07.out.c 3 rfl
    go_wp2_with fail
    refine (HI.out aX1 capX1 aX2 capX2 _ (by first | exact FX17.out.row | exact (FX17.out.alloc _).row) (by first | exact FX27.out.row | exact (FX27.out.alloc _).row)).mono ?_
    rintro e w8 ⟨Gs0, Gs1, Gs2, Gs3, aG1, capG1, rfl, ⟨Gi0, Gi1, Gi2, Gi3⟩, hfG1, hlG1, hb⟩
    have hw : Below w7.heap.size w7 w8 := Below.trans (by repeat (first | with_reducible exact Below.refl _ _ | with_reducible refine beld ?_ _ | (with_reducible refine Below.alloc ?_ ?_ _; rotate_left; exact (by first | (simp; done) | (simp; omega) | omega)) | (with_reducible refine Below.setCell ?_ ?_ _; rotate_left; exact (by first | (simp; done) | (simp; omega) | omega)))) (hb.mono (by first | (simp; done) | (simp; omega) | omega))
    have hB : Below w.heap.size w w8 := HB7.out.trans (hw.mono HB7.out.size)
    have hz8 : w7.heap.size ≤ w8.heap.size := hw.size
    have FS18 := Lib.hid (FS17.out.below hw FS17.out.2.2)
    have tS18 := FS18.out.2.2
    have FX18 := Lib.hid (FX17.out.below hw FX17.out.2.2)
    have tX18 := FX18.out.2.2
    have FX28 := Lib.hid (FX27.out.below hw FX27.out.2.2)
    have tX28 := FX28.out.2.2
    have bx : Bx w8 (w.heap.size) [.float .f32 p0, .float .f32 p1, .float .f32 p2, .float .f32 p3] := XA07.out.below hw XA07.out.1
    have XA08 := Lib.hid bx
    clear bx
    have bx : Bx w8 (w4.heap.size) [.float .f32 Ss0, .float .f32 Ss1, .float .f32 Ss2, .float .f32 Ss3] := XBS07.out.below hw XBS07.out.1
    have XBS08 := Lib.hid bx
    clear bx
    clear cA00 cA01 cA02 cA03 cBS00 cBS01 cBS02 cBS03
    have FG18 := Lib.hid (hfG1.mono (lo' := w7.heap.size) (by first | (simp; done) | (simp; omega) | omega) (Nat.le_refl _) (Nat.le_refl _))
    have tG18 := FG18.out.2.2
    have HB8 := Lib.hid hB
    have hs8 : w.heap.size ≤ w8.heap.size := HB8.out.size
    clear hB hw hb
    have cA00 := XA08.out.c 0 rfl
    have cA01 := XA08.out.c 1 rfl
    have cA02 := XA08.out.c 2 rfl
    have cA03 := XA08.out.c 3 rfl
    have cBS00 := XBS08.out.c 0 rfl
    have cBS01 := XBS08.out.c 1 rfl
    have cBS02 := XBS08.out.c 2 rfl
    have cBS03 := XBS08.out.c 3 rfl
    clear cA00 cA01 cA02 cA03 cBS00 cBS01 cBS02 cBS03
    have cA00 := (XA08.out.alloc (.cells #[.float .f32 Gs0, .float .f32 Gs1, .float .f32 Gs2, .float .f32 Gs3] 37)).c 0 rfl
    have cA01 := (XA08.out.alloc (.cells #[.float .f32 Gs0, .float .f32 Gs1, .float .f32 Gs2, .float .f32 Gs3] 37)).c 1 rfl
    have cA02 := (XA08.out.alloc (.cells #[.float .f32 Gs0, .float .f32 Gs1, .float .f32 Gs2, .float .f32 Gs3] 37)).c 2 rfl
    have cA03 := (XA08.out.alloc (.cells #[.float .f32 Gs0, .float .f32 Gs1, .float .f32 Gs2, .float .f32 Gs3] 37)).c 3 rfl
    have cBS00 := (XBS08.out.alloc (.cells #[.float .f32 Gs0, .float .f32 Gs1, .float .f32 Gs2, .float .f32 Gs3] 37)).c 0 rfl
    have cBS01 := (XBS08.out.alloc (.cells #[.float .f32 Gs0, .float .f32 Gs1, .float .f32 Gs2, .float .f32 Gs3] 37)).c 1 rfl
    have cBS02 := (XBS08.out.alloc (.cells #[.float .f32 Gs0, .float .f32 Gs1, .float .f32 Gs2, .float .f32 Gs3] 37)).c 2 rfl
    have cBS03 := (XBS08.out.alloc (.cells #[.float .f32 Gs0, .float .f32 Gs1, .float .f32 Gs2, .float .f32 Gs3] 37)).c 3 rfl
    go_wp2_with fail
    refine (eqSnow_o _ Gi0 Si0 Gi1 Si1 Gi2 Si2 Gi3 Si3).mono ?_
    rintro e w9 ⟨rfl, hb⟩
    have hw : Below w8.heap.size w8 w9 := Below.trans (by repeat (first | with_reducible exact Below.refl _ _ | with_reducible refine beld ?_ _ | (with_reducible refine Below.alloc ?_ ?_ _; rotate_left; exact (by first | (simp; done) | (simp; omega) | omega)) | (with_reducible refine Below.setCell ?_ ?_ _; rotate_left; exact (by first | (simp; done) | (simp; omega) | omega)))) (hb.mono (by first | (simp; done) | (simp; omega) | omega))
    have hB : Below w.heap.size w w9 := HB8.out.trans (hw.mono HB8.out.size)
    have hz9 : w8.heap.size ≤ w9.heap.size := hw.size
    have hy9 : w8.heap.size < w9.heap.size := (by have := hb.size; (try simp at this); omega)
    have FS19 := Lib.hid (FS18.out.below hw FS18.out.2.2)
    have tS19 := FS19.out.2.2
    have FX19 := Lib.hid (FX18.out.below hw FX18.out.2.2)
    have tX19 := FX19.out.2.2
    have FX29 := Lib.hid (FX28.out.below hw FX28.out.2.2)
    have tX29 := FX29.out.2.2
    have FG19 := Lib.hid (FG18.out.below hw FG18.out.2.2)
    have tG19 := FG19.out.2.2
    have bx : Bx w9 (w.heap.size) [.float .f32 p0, .float .f32 p1, .float .f32 p2, .float .f32 p3] := XA08.out.below hw XA08.out.1
    have XA09 := Lib.hid bx
    clear bx
    have bx : Bx w9 (w4.heap.size) [.float .f32 Ss0, .float .f32 Ss1, .float .f32 Ss2, .float .f32 Ss3] := XBS08.out.below hw XBS08.out.1
    have XBS09 := Lib.hid bx
    clear bx
    have bx : Bx w9 (w8.heap.size) [.float .f32 Gs0, .float .f32 Gs1, .float .f32 Gs2, .float .f32 Gs3] := (by first | exact Bx.below (Bx.new w8 [_, _, _, _] _) hb (by first | (simp; done) | (simp; omega) | omega) | exact Bx.below (Bx.drewN (Bx.new w8 [_, _, _, _] _) _) hb (by first | (simp; done) | (simp; omega) | omega))
    have XBG09 := Lib.hid bx
    clear bx
    clear cA00 cA01 cA02 cA03 cBS00 cBS01 cBS02 cBS03
    have HB9 := Lib.hid hB
    have hs9 : w.heap.size ≤ w9.heap.size := HB9.out.size
    clear hB hw hb
    have cA00 := XA09.out.c 0 rfl
    have cA01 := XA09.out.c 1 rfl
    have cA02 := XA09.out.c 2 rfl
    have cA03 := XA09.out.c 3 rfl
    have cBS00 := XBS09.out.c 0 rfl
    have cBS01 := XBS09.out.c 1 rfl
    have cBS02 := XBS09.out.c 2 rfl
    have cBS03 := XBS09.out.c 3 rfl
    have cBG00 := XBG09.out.c 0 rfl
    have cBG01 := XBG09.out.c 1 rfl
    have cBG02 := XBG09.out.c 2 rfl
    have cBG03 := XBG09.out.c 3 rfl
    go_wp2_with fail
    refine (eqF_b aG1 aS1 capG1 capS1 Z1 _ (by first | exact FG19.out.row | exact (FG19.out.alloc _).row) (by first | exact FS19.out.row | exact (FS19.out.alloc _).row) hlG1).mono ?_
    rintro e w10 ⟨rfl, hb⟩
    have hw : Below w9.heap.size w9 w10 := Below.trans (by repeat (first | with_reducible exact Below.refl _ _ | with_reducible refine beld ?_ _ | (with_reducible refine Below.alloc ?_ ?_ _; rotate_left; exact (by first | (simp; done) | (simp; omega) | omega)) | (with_reducible refine Below.setCell ?_ ?_ _; rotate_left; exact (by first | (simp; done) | (simp; omega) | omega)))) (hb.mono (by first | (simp; done) | (simp; omega) | omega))
    have hB : Below w.heap.size w w10 := HB9.out.trans (hw.mono HB9.out.size)
    have hz10 : w9.heap.size ≤ w10.heap.size := hw.size
    have FS110 := Lib.hid (FS19.out.below hw FS19.out.2.2)
    have tS110 := FS110.out.2.2
    have FX110 := Lib.hid (FX19.out.below hw FX19.out.2.2)
    have tX110 := FX110.out.2.2
    have FX210 := Lib.hid (FX29.out.below hw FX29.out.2.2)
    have tX210 := FX210.out.2.2
    have FG110 := Lib.hid (FG19.out.below hw FG19.out.2.2)
    have tG110 := FG110.out.2.2
    have bx : Bx w10 (w.heap.size) [.float .f32 p0, .float .f32 p1, .float .f32 p2, .float .f32 p3] := XA09.out.below hw XA09.out.1
    have XA010 := Lib.hid bx
    clear bx
    have bx : Bx w10 (w4.heap.size) [.float .f32 Ss0, .float .f32 Ss1, .float .f32 Ss2, .float .f32 Ss3] := XBS09.out.below hw XBS09.out.1
    have XBS010 := Lib.hid bx
    clear bx
    have bx : Bx w10 (w8.heap.size) [.float .f32 Gs0, .float .f32 Gs1, .float .f32 Gs2, .float .f32 Gs3] := XBG09.out.below hw XBG09.out.1
    have XBG010 := Lib.hid bx
    clear bx
    clear cA00 cA01 cA02 cA03 cBS00 cBS01 cBS02 cBS03 cBG00 cBG01 cBG02 cBG03
    have HB10 := Lib.hid hB
    have hs10 : w.heap.size ≤ w10.heap.size := HB10.out.size
    clear hB hw hb
    have cA00 := XA010.out.c 0 rfl
    have cA01 := XA010.out.c 1 rfl
    have cA02 := XA010.out.c 2 rfl
    have cA03 := XA010.out.c 3 rfl
    have cBS00 := XBS010.out.c 0 rfl
    have cBS01 := XBS010.out.c 1 rfl
    have cBS02 := XBS010.out.c 2 rfl
    have cBS03 := XBS010.out.c 3 rfl
    have cBG00 := XBG010.out.c 0 rfl
    have cBG01 := XBG010.out.c 1 rfl
    have cBG02 := XBG010.out.c 2 rfl
    have cBG03 := XBG010.out.c 3 rfl
    go_wp2_with fail
    refine (copyF_any a1 cap1 zs1 _ (by first | exact (H1.out.below HB10.out (Nat.le_refl _)) | exact ((H1.out.below HB10.out (Nat.le_refl _))).below (by repeat (first | with_reducible exact Below.refl _ _ | with_reducible refine beld ?_ _ | (with_reducible refine Below.alloc ?_ ?_ _; rotate_left; exact (by first | (simp; done) | (simp; omega) | omega)) | (with_reducible refine Below.setCell ?_ ?_ _; rotate_left; exact (by first | (simp; done) | (simp; omega) | omega)))) (Nat.le_refl _)) hl1).mono ?_
    rintro e w11 ⟨aE1, capE1, rfl, hb, hf⟩
    have hw : Below w10.heap.size w10 w11 := Below.trans (by repeat (first | with_reducible exact Below.refl _ _ | with_reducible refine beld ?_ _ | (with_reducible refine Below.alloc ?_ ?_ _; rotate_left; exact (by first | (simp; done) | (simp; omega) | omega)) | (with_reducible refine Below.setCell ?_ ?_ _; rotate_left; exact (by first | (simp; done) | (simp; omega) | omega)))) (hb.mono (by first | (simp; done) | (simp; omega) | omega))
    have hB : Below w.heap.size w w11 := HB10.out.trans (hw.mono HB10.out.size)
    have hz11 : w10.heap.size ≤ w11.heap.size := hw.size
    have FS111 := Lib.hid (FS110.out.below hw FS110.out.2.2)
    have tS111 := FS111.out.2.2
    have FX111 := Lib.hid (FX110.out.below hw FX110.out.2.2)
    have tX111 := FX111.out.2.2
    have FX211 := Lib.hid (FX210.out.below hw FX210.out.2.2)
    have tX211 := FX211.out.2.2
    have FG111 := Lib.hid (FG110.out.below hw FG110.out.2.2)
    have tG111 := FG111.out.2.2
    have bx : Bx w11 (w.heap.size) [.float .f32 p0, .float .f32 p1, .float .f32 p2, .float .f32 p3] := XA010.out.below hw XA010.out.1
    have XA011 := Lib.hid bx
    clear bx
    have bx : Bx w11 (w4.heap.size) [.float .f32 Ss0, .float .f32 Ss1, .float .f32 Ss2, .float .f32 Ss3] := XBS010.out.below hw XBS010.out.1
    have XBS011 := Lib.hid bx
    clear bx
    have bx : Bx w11 (w8.heap.size) [.float .f32 Gs0, .float .f32 Gs1, .float .f32 Gs2, .float .f32 Gs3] := XBG010.out.below hw XBG010.out.1
    have XBG011 := Lib.hid bx
    clear bx
    clear cA00 cA01 cA02 cA03 cBS00 cBS01 cBS02 cBS03 cBG00 cBG01 cBG02 cBG03
    have FE111 := Lib.hid (hf.mono (lo' := w10.heap.size) (by first | (simp; done) | (simp; omega) | omega) (Nat.le_refl _) (Nat.le_refl _))
    have tE111 := FE111.out.2.2
    have HB11 := Lib.hid hB
    have hs11 : w.heap.size ≤ w11.heap.size := HB11.out.size
    clear hB hw hb
    have cA00 := XA011.out.c 0 rfl
    have cA01 := XA011.out.c 1 rfl
    have cA02 := XA011.out.c 2 rfl
    have cA03 := XA011.out.c 3 rfl
    have cBS00 := XBS011.out.c 0 rfl
    have cBS01 := XBS011.out.c 1 rfl
    have cBS02 := XBS011.out.c 2 rfl
    have cBS03 := XBS011.out.c 3 rfl
    have cBG00 := XBG011.out.c 0 rfl
    have cBG01 := XBG011.out.c 1 rfl
    have cBG02 := XBG011.out.c 2 rfl
    have cBG03 := XBG011.out.c 3 rfl
    go_wp2_with fail
    refine (eqF_b aX1 aE1 capX1 capE1 zs1 _ (by first | exact FX111.out.row | exact (FX111.out.alloc _).row) (by first | exact FE111.out.row | exact (FE111.out.alloc _).row) hl1).mono ?_
    rintro e w12 ⟨rfl, hb⟩
    have hw : Below w11.heap.size w11 w12 := Below.trans (by repeat (first | with_reducible exact Below.refl _ _ | with_reducible refine beld ?_ _ | (with_reducible refine Below.alloc ?_ ?_ _; rotate_left; exact (by first | (simp; done) | (simp; omega) | omega)) | (with_reducible refine Below.setCell ?_ ?_ _; rotate_left; exact (by first | (simp; done) | (simp; omega) | omega)))) (hb.mono (by first | (simp; done) | (simp; omega) | omega))
    have hB : Below w.heap.size w w12 := HB11.out.trans (hw.mono HB11.out.size)
    have hz12 : w11.heap.size ≤ w12.heap.size := hw.size
    have FS112 := Lib.hid (FS111.out.below hw FS111.out.2.2)
    have tS112 := FS112.out.2.2
    have FX112 := Lib.hid (FX111.out.below hw FX111.out.2.2)
    have tX112 := FX112.out.2.2
    have FX212 := Lib.hid (FX211.out.below hw FX211.out.2.2)
    have tX212 := FX212.out.2.2
    have FG112 := Lib.hid (FG111.out.below hw FG111.out.2.2)
    have tG112 := FG112.out.2.2
    have FE112 := Lib.hid (FE111.out.below hw FE111.out.2.2)
    have tE112 := FE112.out.2.2
    have bx : Bx w12 (w.heap.size) [.float .f32 p0, .float .f32 p1, .float .f32 p2, .float .f32 p3] := XA011.out.below hw XA011.out.1
    have XA012 := Lib.hid bx
    clear bx
    have bx : Bx w12 (w4.heap.size) [.float .f32 Ss0, .float .f32 Ss1, .float .f32 Ss2, .float .f32 Ss3] := XBS011.out.below hw XBS011.out.1
    have XBS012 := Lib.hid bx
    clear bx
    have bx : Bx w12 (w8.heap.size) [.float .f32 Gs0, .float .f32 Gs1, .float .f32 Gs2, .float .f32 Gs3] := XBG011.out.below hw XBG011.out.1
    have XBG012 := Lib.hid bx
    clear bx
    clear cA00 cA01 cA02 cA03 cBS00 cBS01 cBS02 cBS03 cBG00 cBG01 cBG02 cBG03
    have HB12 := Lib.hid hB
    have hs12 : w.heap.size ≤ w12.heap.size := HB12.out.size
    clear hB hw hb
    have cA00 := XA012.out.c 0 rfl
    have cA01 := XA012.out.c 1 rfl
    have cA02 := XA012.out.c 2 rfl
    have cA03 := XA012.out.c 3 rfl
    have cBS00 := XBS012.out.c 0 rfl
    have cBS01 := XBS012.out.c 1 rfl
    have cBS02 := XBS012.out.c 2 rfl
    have cBS03 := XBS012.out.c 3 rfl
    have cBG00 := XBG012.out.c 0 rfl
    have cBG01 := XBG012.out.c 1 rfl
    have cBG02 := XBG012.out.c 2 rfl
    have cBG03 := XBG012.out.c 3 rfl
    go_wp2_with fail
    refine (copyF_any a2 cap2 zs2 _ (by first | exact (H2.out.below HB12.out (Nat.le_refl _)) | exact ((H2.out.below HB12.out (Nat.le_refl _))).below (by repeat (first | with_reducible exact Below.refl _ _ | with_reducible refine beld ?_ _ | (with_reducible refine Below.alloc ?_ ?_ _; rotate_left; exact (by first | (simp; done) | (simp; omega) | omega)) | (with_reducible refine Below.setCell ?_ ?_ _; rotate_left; exact (by first | (simp; done) | (simp; omega) | omega)))) (Nat.le_refl _)) hl2).mono ?_
    rintro e w13 ⟨aE2, capE2, rfl, hb, hf⟩
    have hw : Below w12.heap.size w12 w13 := Below.trans (by repeat (first | with_reducible exact Below.refl _ _ | with_reducible refine beld ?_ _ | (with_reducible refine Below.alloc ?_ ?_ _; rotate_left; exact (by first | (simp; done) | (simp; omega) | omega)) | (with_reducible refine Below.setCell ?_ ?_ _; rotate_left; exact (by first | (simp; done) | (simp; omega) | omega)))) (hb.mono (by first | (simp; done) | (simp; omega) | omega))
    have hB : Below w.heap.size w w13 := HB12.out.trans (hw.mono HB12.out.size)
    have hz13 : w12.heap.size ≤ w13.heap.size := hw.size
    have FS113 := Lib.hid (FS112.out.below hw FS112.out.2.2)
    have tS113 := FS113.out.2.2
    have FX113 := Lib.hid (FX112.out.below hw FX112.out.2.2)
    have tX113 := FX113.out.2.2
    have FX213 := Lib.hid (FX212.out.below hw FX212.out.2.2)
    have tX213 := FX213.out.2.2
    have FG113 := Lib.hid (FG112.out.below hw FG112.out.2.2)
    have tG113 := FG113.out.2.2
    have bx : Bx w13 (w.heap.size) [.float .f32 p0, .float .f32 p1, .float .f32 p2, .float .f32 p3] := XA012.out.below hw XA012.out.1
    have XA013 := Lib.hid bx
    clear bx
    have bx : Bx w13 (w4.heap.size) [.float .f32 Ss0, .float .f32 Ss1, .float .f32 Ss2, .float .f32 Ss3] := XBS012.out.below hw XBS012.out.1
    have XBS013 := Lib.hid bx
    clear bx
    have bx : Bx w13 (w8.heap.size) [.float .f32 Gs0, .float .f32 Gs1, .float .f32 Gs2, .float .f32 Gs3] := XBG012.out.below hw XBG012.out.1
    have XBG013 := Lib.hid bx
    clear bx
    clear cA00 cA01 cA02 cA03 cBS00 cBS01 cBS02 cBS03 cBG00 cBG01 cBG02 cBG03
    have FE213 := Lib.hid (hf.mono (lo' := w12.heap.size) (by first | (simp; done) | (simp; omega) | omega) (Nat.le_refl _) (Nat.le_refl _))
    have tE213 := FE213.out.2.2
    have HB13 := Lib.hid hB
    have hs13 : w.heap.size ≤ w13.heap.size := HB13.out.size
    clear hB hw hb
    have cA00 := XA013.out.c 0 rfl
    have cA01 := XA013.out.c 1 rfl
    have cA02 := XA013.out.c 2 rfl
    have cA03 := XA013.out.c 3 rfl
    have cBS00 := XBS013.out.c 0 rfl
    have cBS01 := XBS013.out.c 1 rfl
    have cBS02 := XBS013.out.c 2 rfl
    have cBS03 := XBS013.out.c 3 rfl
    have cBG00 := XBG013.out.c 0 rfl
    have cBG01 := XBG013.out.c 1 rfl
    have cBG02 := XBG013.out.c 2 rfl
    have cBG03 := XBG013.out.c 3 rfl
    go_wp2_with fail
    refine (eqF_b aX2 aE2 capX2 capE2 zs2 _ (by first | exact FX213.out.row | exact (FX213.out.alloc _).row) (by first | exact FE213.out.row | exact (FE213.out.alloc _).row) hl2).mono ?_
    rintro e w14 ⟨rfl, hb⟩
    have hw : Below w13.heap.size w13 w14 := Below.trans (by repeat (first | with_reducible exact Below.refl _ _ | with_reducible refine beld ?_ _ | (with_reducible refine Below.alloc ?_ ?_ _; rotate_left; exact (by first | (simp; done) | (simp; omega) | omega)) | (with_reducible refine Below.setCell ?_ ?_ _; rotate_left; exact (by first | (simp; done) | (simp; omega) | omega)))) (hb.mono (by first | (simp; done) | (simp; omega) | omega))
    have hB : Below w.heap.size w w14 := HB13.out.trans (hw.mono HB13.out.size)
    have hz14 : w13.heap.size ≤ w14.heap.size := hw.size
    have FS114 := Lib.hid (FS113.out.below hw FS113.out.2.2)
    have tS114 := FS114.out.2.2
    have FX114 := Lib.hid (FX113.out.below hw FX113.out.2.2)
    have tX114 := FX114.out.2.2
    have FX214 := Lib.hid (FX213.out.below hw FX213.out.2.2)
    have tX214 := FX214.out.2.2
    have FG114 := Lib.hid (FG113.out.below hw FG113.out.2.2)
    have tG114 := FG114.out.2.2
    have FE214 := Lib.hid (FE213.out.below hw FE213.out.2.2)
    have tE214 := FE214.out.2.2
    have bx : Bx w14 (w.heap.size) [.float .f32 p0, .float .f32 p1, .float .f32 p2, .float .f32 p3] := XA013.out.below hw XA013.out.1
    have XA014 := Lib.hid bx
    clear bx
    have bx : Bx w14 (w4.heap.size) [.float .f32 Ss0, .float .f32 Ss1, .float .f32 Ss2, .float .f32 Ss3] := XBS013.out.below hw XBS013.out.1
    have XBS014 := Lib.hid bx
    clear bx
    have bx : Bx w14 (w8.heap.size) [.float .f32 Gs0, .float .f32 Gs1, .float .f32 Gs2, .float .f32 Gs3] := XBG013.out.below hw XBG013.out.1
    have XBG014 := Lib.hid bx
    clear bx
    clear cA00 cA01 cA02 cA03 cBS00 cBS01 cBS02 cBS03 cBG00 cBG01 cBG02 cBG03
    have HB14 := Lib.hid hB
    have hs14 : w.heap.size ≤ w14.heap.size := HB14.out.size
    clear hB hw hb
    have cA00 := XA014.out.c 0 rfl
    have cA01 := XA014.out.c 1 rfl
    have cA02 := XA014.out.c 2 rfl
    have cA03 := XA014.out.c 3 rfl
    have cBS00 := XBS014.out.c 0 rfl
    have cBS01 := XBS014.out.c 1 rfl
    have cBS02 := XBS014.out.c 2 rfl
    have cBS03 := XBS014.out.c 3 rfl
    have cBG00 := XBG014.out.c 0 rfl
    have cBG01 := XBG014.out.c 1 rfl
    have cBG02 := XBG014.out.c 2 rfl
    have cBG03 := XBG014.out.c 3 rfl
    go_wp2_with fail
    refine (markF_any (w4.heap.size + 1) (w5.heap.size) (1) aX1 capX1 zs1 _ (by first | exact FX114.out | exact (FX114.out.alloc _)) hl1 (by omega)).mono ?_
    rintro e w15 ⟨rfl, hf, hk⟩
    have hw : Kept (w4.heap.size + 1) (w5.heap.size) w14 w15 := (Kept.of_below (by repeat (first | with_reducible exact Below.refl _ _ | with_reducible refine beld ?_ _ | (with_reducible refine Below.alloc ?_ ?_ _; rotate_left; exact (by first | (simp; done) | (simp; omega) | omega)) | (with_reducible refine Below.setCell ?_ ?_ _; rotate_left; exact (by first | (simp; done) | (simp; omega) | omega)))) (Nat.le_refl _)).trans hk
    have hB : Below w.heap.size w w15 := HB14.out.trans (hw.below (by omega) (by omega))
    have hz15 : w14.heap.size ≤ w15.heap.size := hw.size
    have FS115 := Lib.hid (FS114.out.kept hw (by omega))
    have tS115 := FS115.out.2.2
    have FX215 := Lib.hid (FX214.out.kept hw (by omega))
    have tX215 := FX215.out.2.2
    have FG115 := Lib.hid (FG114.out.kept hw (by omega))
    have tG115 := FG115.out.2.2
    have bx : Bx w15 (w.heap.size) [.float .f32 p0, .float .f32 p1, .float .f32 p2, .float .f32 p3] := XA014.out.kept hw (by have := XA014.out.1; omega)
    have XA015 := Lib.hid bx
    clear bx
    have bx : Bx w15 (w4.heap.size) [.float .f32 Ss0, .float .f32 Ss1, .float .f32 Ss2, .float .f32 Ss3] := XBS014.out.kept hw (by have := XBS014.out.1; omega)
    have XBS015 := Lib.hid bx
    clear bx
    have bx : Bx w15 (w8.heap.size) [.float .f32 Gs0, .float .f32 Gs1, .float .f32 Gs2, .float .f32 Gs3] := XBG014.out.kept hw (by have := XBG014.out.1; omega)
    have XBG015 := Lib.hid bx
    clear bx
    clear cA00 cA01 cA02 cA03 cBS00 cBS01 cBS02 cBS03 cBG00 cBG01 cBG02 cBG03
    have FX115 := Lib.hid hf
    have tX115 := FX115.out.2.2
    have HB15 := Lib.hid hB
    have hs15 : w.heap.size ≤ w15.heap.size := HB15.out.size
    clear hB hw hk
    have cA00 := XA015.out.c 0 rfl
    have cA01 := XA015.out.c 1 rfl
    have cA02 := XA015.out.c 2 rfl
    have cA03 := XA015.out.c 3 rfl
    have cBS00 := XBS015.out.c 0 rfl
    have cBS01 := XBS015.out.c 1 rfl
    have cBS02 := XBS015.out.c 2 rfl
    have cBS03 := XBS015.out.c 3 rfl
    have cBG00 := XBG015.out.c 0 rfl
    have cBG01 := XBG015.out.c 1 rfl
    have cBG02 := XBG015.out.c 2 rfl
    have cBG03 := XBG015.out.c 3 rfl
    have hcX1 : ¬ (((1 + zs1.length) : Nat) : Int) < 0 := by omega
    go_wp2_with fail
    refine (markF_any (w5.heap.size) (w6.heap.size) ((1 + zs1.length)) aX2 capX2 zs2 _ (by first | exact FX215.out | exact (FX215.out.alloc _)) hl2 (by omega)).mono ?_
    rintro e w16 ⟨rfl, hf, hk⟩
    have hw : Kept (w5.heap.size) (w6.heap.size) w15 w16 := (Kept.of_below (by repeat (first | with_reducible exact Below.refl _ _ | with_reducible refine beld ?_ _ | (with_reducible refine Below.alloc ?_ ?_ _; rotate_left; exact (by first | (simp; done) | (simp; omega) | omega)) | (with_reducible refine Below.setCell ?_ ?_ _; rotate_left; exact (by first | (simp; done) | (simp; omega) | omega)))) (Nat.le_refl _)).trans hk
    have hB : Below w.heap.size w w16 := HB15.out.trans (hw.below (by omega) (by omega))
    have hz16 : w15.heap.size ≤ w16.heap.size := hw.size
    have FS116 := Lib.hid (FS115.out.kept hw (by omega))
    have tS116 := FS116.out.2.2
    have FX116 := Lib.hid (FX115.out.kept hw (by omega))
    have tX116 := FX116.out.2.2
    have FG116 := Lib.hid (FG115.out.kept hw (by omega))
    have tG116 := FG116.out.2.2
    have bx : Bx w16 (w.heap.size) [.float .f32 p0, .float .f32 p1, .float .f32 p2, .float .f32 p3] := XA015.out.kept hw (by have := XA015.out.1; omega)
    have XA016 := Lib.hid bx
    clear bx
    have bx : Bx w16 (w4.heap.size) [.float .f32 Ss0, .float .f32 Ss1, .float .f32 Ss2, .float .f32 Ss3] := XBS015.out.kept hw (by have := XBS015.out.1; omega)
    have XBS016 := Lib.hid bx
    clear bx
    have bx : Bx w16 (w8.heap.size) [.float .f32 Gs0, .float .f32 Gs1, .float .f32 Gs2, .float .f32 Gs3] := XBG015.out.kept hw (by have := XBG015.out.1; omega)
    have XBG016 := Lib.hid bx
    clear bx
    clear cA00 cA01 cA02 cA03 cBS00 cBS01 cBS02 cBS03 cBG00 cBG01 cBG02 cBG03
    have FX216 := Lib.hid hf
    have tX216 := FX216.out.2.2
    have HB16 := Lib.hid hB
    have hs16 : w.heap.size ≤ w16.heap.size := HB16.out.size
    clear hB hw hk
    have cA00 := XA016.out.c 0 rfl
    have cA01 := XA016.out.c 1 rfl
    have cA02 := XA016.out.c 2 rfl
    have cA03 := XA016.out.c 3 rfl
    have cBS00 := XBS016.out.c 0 rfl
    have cBS01 := XBS016.out.c 1 rfl
    have cBS02 := XBS016.out.c 2 rfl
    have cBS03 := XBS016.out.c 3 rfl
    have cBG00 := XBG016.out.c 0 rfl
    have cBG01 := XBG016.out.c 1 rfl
    have cBG02 := XBG016.out.c 2 rfl
    have cBG03 := XBG016.out.c 3 rfl
    have hcX2 : ¬ ((((1 + zs1.length) + zs2.length) : Nat) : Int) < 0 := by omega
    go_wp2_with fail
    refine (eqSnow_o _ Gi0 Si0 Gi1 Si1 Gi2 Si2 Gi3 Si3).mono ?_
    rintro e w17 ⟨rfl, hb⟩
    have hw : Below w16.heap.size w16 w17 := Below.trans (by repeat (first | with_reducible exact Below.refl _ _ | with_reducible refine beld ?_ _ | (with_reducible refine Below.alloc ?_ ?_ _; rotate_left; exact (by first | (simp; done) | (simp; omega) | omega)) | (with_reducible refine Below.setCell ?_ ?_ _; rotate_left; exact (by first | (simp; done) | (simp; omega) | omega)))) (hb.mono (by first | (simp; done) | (simp; omega) | omega))
    have hB : Below w.heap.size w w17 := HB16.out.trans (hw.mono HB16.out.size)
    have hz17 : w16.heap.size ≤ w17.heap.size := hw.size
    have FS117 := Lib.hid (FS116.out.below hw FS116.out.2.2)
    have tS117 := FS117.out.2.2
    have FG117 := Lib.hid (FG116.out.below hw FG116.out.2.2)
    have tG117 := FG117.out.2.2
    have bx : Bx w17 (w.heap.size) [.float .f32 p0, .float .f32 p1, .float .f32 p2, .float .f32 p3] := XA016.out.below hw XA016.out.1
    have XA017 := Lib.hid bx
    clear bx
    have bx : Bx w17 (w4.heap.size) [.float .f32 Ss0, .float .f32 Ss1, .float .f32 Ss2, .float .f32 Ss3] := XBS016.out.below hw XBS016.out.1
    have XBS017 := Lib.hid bx
    clear bx
    have bx : Bx w17 (w8.heap.size) [.float .f32 Gs0, .float .f32 Gs1, .float .f32 Gs2, .float .f32 Gs3] := XBG016.out.below hw XBG016.out.1
    have XBG017 := Lib.hid bx
    clear bx
    clear cA00 cA01 cA02 cA03 cBS00 cBS01 cBS02 cBS03 cBG00 cBG01 cBG02 cBG03
    have HB17 := Lib.hid hB
    have hs17 : w.heap.size ≤ w17.heap.size := HB17.out.size
    clear hB hw hb
    have cA00 := XA017.out.c 0 rfl
    have cA01 := XA017.out.c 1 rfl
    have cA02 := XA017.out.c 2 rfl
    have cA03 := XA017.out.c 3 rfl
    have cBS00 := XBS017.out.c 0 rfl
    have cBS01 := XBS017.out.c 1 rfl
    have cBS02 := XBS017.out.c 2 rfl
    have cBS03 := XBS017.out.c 3 rfl
    have cBG00 := XBG017.out.c 0 rfl
    have cBG01 := XBG017.out.c 1 rfl
    have cBG02 := XBG017.out.c 2 rfl
    have cBG03 := XBG017.out.c 3 rfl
    go_wp2_with fail
    refine (eqF_b aG1 aS1 capG1 capS1 Z1 _ (by first | exact FG117.out.row | exact (FG117.out.alloc _).row) (by first | exact FS117.out.row | exact (FS117.out.alloc _).row) hlG1).mono ?_
    rintro e w18 ⟨rfl, hb⟩
    have hw : Below w17.heap.size w17 w18 := Below.trans (by repeat (first | with_reducible exact Below.refl _ _ | with_reducible refine beld ?_ _ | (with_reducible refine Below.alloc ?_ ?_ _; rotate_left; exact (by first | (simp; done) | (simp; omega) | omega)) | (with_reducible refine Below.setCell ?_ ?_ _; rotate_left; exact (by first | (simp; done) | (simp; omega) | omega)))) (hb.mono (by first | (simp; done) | (simp; omega) | omega))
    have hB : Below w.heap.size w w18 := HB17.out.trans (hw.mono HB17.out.size)
    have hz18 : w17.heap.size ≤ w18.heap.size := hw.size
    have FS118 := Lib.hid (FS117.out.below hw FS117.out.2.2)
    have tS118 := FS118.out.2.2
    have FG118 := Lib.hid (FG117.out.below hw FG117.out.2.2)
    have tG118 := FG118.out.2.2
    have bx : Bx w18 (w.heap.size) [.float .f32 p0, .float .f32 p1, .float .f32 p2, .float .f32 p3] := XA017.out.below hw XA017.out.1
    have XA018 := Lib.hid bx
    clear bx
    have bx : Bx w18 (w4.heap.size) [.float .f32 Ss0, .float .f32 Ss1, .float .f32 Ss2, .float .f32 Ss3] := XBS017.out.below hw XBS017.out.1
    have XBS018 := Lib.hid bx
    clear bx
    have bx : Bx w18 (w8.heap.size) [.float .f32 Gs0, .float .f32 Gs1, .float .f32 Gs2, .float .f32 Gs3] := XBG017.out.below hw XBG017.out.1
    have XBG018 := Lib.hid bx
    clear bx
    clear cA00 cA01 cA02 cA03 cBS00 cBS01 cBS02 cBS03 cBG00 cBG01 cBG02 cBG03
    have HB18 := Lib.hid hB
    have hs18 : w.heap.size ≤ w18.heap.size := HB18.out.size
    clear hB hw hb
    have cA00 := XA018.out.c 0 rfl
    have cA01 := XA018.out.c 1 rfl
    have cA02 := XA018.out.c 2 rfl
    have cA03 := XA018.out.c 3 rfl
    have cBS00 := XBS018.out.c 0 rfl
    have cBS01 := XBS018.out.c 1 rfl
    have cBS02 := XBS018.out.c 2 rfl
    have cBS03 := XBS018.out.c 3 rfl
    have cBG00 := XBG018.out.c 0 rfl
    have cBG01 := XBG018.out.c 1 rfl
    have cBG02 := XBG018.out.c 2 rfl
    have cBG03 := XBG018.out.c 3 rfl
    go_wp2_with fail
    refine (markF_any (w7.heap.size) (w8.heap.size) (1) aG1 capG1 Z1 _ (by first | exact FG118.out | exact (FG118.out.alloc _)) hlG1 (by omega)).mono ?_
    rintro e w19 ⟨rfl, hf, hk⟩
    have hw : Kept (w7.heap.size) (w8.heap.size) w18 w19 := (Kept.of_below (by repeat (first | with_reducible exact Below.refl _ _ | with_reducible refine beld ?_ _ | (with_reducible refine Below.alloc ?_ ?_ _; rotate_left; exact (by first | (simp; done) | (simp; omega) | omega)) | (with_reducible refine Below.setCell ?_ ?_ _; rotate_left; exact (by first | (simp; done) | (simp; omega) | omega)))) (Nat.le_refl _)).trans hk
    have hB : Below w.heap.size w w19 := HB18.out.trans (hw.below (by omega) (by omega))
    have hz19 : w18.heap.size ≤ w19.heap.size := hw.size
    have FS119 := Lib.hid (FS118.out.kept hw (by omega))
    have tS119 := FS119.out.2.2
    have bx : Bx w19 (w.heap.size) [.float .f32 p0, .float .f32 p1, .float .f32 p2, .float .f32 p3] := XA018.out.kept hw (by have := XA018.out.1; omega)
    have XA019 := Lib.hid bx
    clear bx
    have bx : Bx w19 (w4.heap.size) [.float .f32 Ss0, .float .f32 Ss1, .float .f32 Ss2, .float .f32 Ss3] := XBS018.out.kept hw (by have := XBS018.out.1; omega)
    have XBS019 := Lib.hid bx
    clear bx
    have bx : Bx w19 (w8.heap.size) [.float .f32 Gs0, .float .f32 Gs1, .float .f32 Gs2, .float .f32 Gs3] := XBG018.out.kept hw (by have := XBG018.out.1; omega)
    have XBG019 := Lib.hid bx
    clear bx
    clear cA00 cA01 cA02 cA03 cBS00 cBS01 cBS02 cBS03 cBG00 cBG01 cBG02 cBG03
    have FG119 := Lib.hid hf
    have tG119 := FG119.out.2.2
    have HB19 := Lib.hid hB
    have hs19 : w.heap.size ≤ w19.heap.size := HB19.out.size
    clear hB hw hk
    have cA00 := XA019.out.c 0 rfl
    have cA01 := XA019.out.c 1 rfl
    have cA02 := XA019.out.c 2 rfl
    have cA03 := XA019.out.c 3 rfl
    have cBS00 := XBS019.out.c 0 rfl
    have cBS01 := XBS019.out.c 1 rfl
    have cBS02 := XBS019.out.c 2 rfl
    have cBS03 := XBS019.out.c 3 rfl
    have cBG00 := XBG019.out.c 0 rfl
    have cBG01 := XBG019.out.c 1 rfl
    have cBG02 := XBG019.out.c 2 rfl
    have cBG03 := XBG019.out.c 3 rfl
    have hcG1 : ¬ (((1 + Z1.length) : Nat) : Int) < 0 := by omega
    go_wp2_with fail
    refine (heldF_any (w7.heap.size) (w8.heap.size) (1) Z1.length aG1 capG1 _ (by first | exact FG119.out | exact FG119.out.alloc _) hlG1 (by omega)).mono ?_
    rintro e w' ⟨rfl, rfl⟩
    go_wp2_with fail
    refine (toSnow_o _ _ _ _  _).mono ?_
    rintro e w20 ⟨rfl, hb⟩
    have hw : Below w19.heap.size w19 w20 := Below.trans (by repeat (first | with_reducible exact Below.refl _ _ | with_reducible refine beld ?_ _ | (with_reducible refine Below.alloc ?_ ?_ _; rotate_left; exact (by first | (simp; done) | (simp; omega) | omega)) | (with_reducible refine Below.setCell ?_ ?_ _; rotate_left; exact (by first | (simp; done) | (simp; omega) | omega)))) (hb.mono (by first | (simp; done) | (simp; omega) | omega))
    have hB : Below w.heap.size w w20 := HB19.out.trans (hw.mono HB19.out.size)
    have hz20 : w19.heap.size ≤ w20.heap.size := hw.size
    have FS120 := Lib.hid (FS119.out.below hw FS119.out.2.2)
    have tS120 := FS120.out.2.2
    have FG120 := Lib.hid (FG119.out.below hw FG119.out.2.2)
    have tG120 := FG120.out.2.2
    have bx : Bx w20 (w.heap.size) [.float .f32 p0, .float .f32 p1, .float .f32 p2, .float .f32 p3] := XA019.out.below hw XA019.out.1
    have XA020 := Lib.hid bx
    clear bx
    have bx : Bx w20 (w4.heap.size) [.float .f32 Ss0, .float .f32 Ss1, .float .f32 Ss2, .float .f32 Ss3] := XBS019.out.below hw XBS019.out.1
    have XBS020 := Lib.hid bx
    clear bx
    have bx : Bx w20 (w8.heap.size) [.float .f32 Gs0, .float .f32 Gs1, .float .f32 Gs2, .float .f32 Gs3] := XBG019.out.below hw XBG019.out.1
    have XBG020 := Lib.hid bx
    clear bx
    clear cA00 cA01 cA02 cA03 cBS00 cBS01 cBS02 cBS03 cBG00 cBG01 cBG02 cBG03
    have HB20 := Lib.hid hB
    have hs20 : w.heap.size ≤ w20.heap.size := HB20.out.size
    clear hB hw hb
    have cA00 := XA020.out.c 0 rfl
    have cA01 := XA020.out.c 1 rfl
    have cA02 := XA020.out.c 2 rfl
    have cA03 := XA020.out.c 3 rfl
    have cBS00 := XBS020.out.c 0 rfl
    have cBS01 := XBS020.out.c 1 rfl
    have cBS02 := XBS020.out.c 2 rfl
    have cBS03 := XBS020.out.c 3 rfl
    have cBG00 := XBG020.out.c 0 rfl
    have cBG01 := XBG020.out.c 1 rfl
    have cBG02 := XBG020.out.c 2 rfl
    have cBG03 := XBG020.out.c 3 rfl
    go_wp2_with fail
    refine (copyF_any a1 cap1 zs1 _ (by first | exact (H1.out.below HB20.out (Nat.le_refl _)) | exact ((H1.out.below HB20.out (Nat.le_refl _))).below (by repeat (first | with_reducible exact Below.refl _ _ | with_reducible refine beld ?_ _ | (with_reducible refine Below.alloc ?_ ?_ _; rotate_left; exact (by first | (simp; done) | (simp; omega) | omega)) | (with_reducible refine Below.setCell ?_ ?_ _; rotate_left; exact (by first | (simp; done) | (simp; omega) | omega)))) (Nat.le_refl _)) hl1).mono ?_
    rintro e w21 ⟨aIc1, capIc1, rfl, hb, hf⟩
    have hw : Below w20.heap.size w20 w21 := Below.trans (by repeat (first | with_reducible exact Below.refl _ _ | with_reducible refine beld ?_ _ | (with_reducible refine Below.alloc ?_ ?_ _; rotate_left; exact (by first | (simp; done) | (simp; omega) | omega)) | (with_reducible refine Below.setCell ?_ ?_ _; rotate_left; exact (by first | (simp; done) | (simp; omega) | omega)))) (hb.mono (by first | (simp; done) | (simp; omega) | omega))
    have hB : Below w.heap.size w w21 := HB20.out.trans (hw.mono HB20.out.size)
    have hz21 : w20.heap.size ≤ w21.heap.size := hw.size
    have FS121 := Lib.hid (FS120.out.below hw FS120.out.2.2)
    have tS121 := FS121.out.2.2
    have FG121 := Lib.hid (FG120.out.below hw FG120.out.2.2)
    have tG121 := FG121.out.2.2
    have bx : Bx w21 (w.heap.size) [.float .f32 p0, .float .f32 p1, .float .f32 p2, .float .f32 p3] := XA020.out.below hw XA020.out.1
    have XA021 := Lib.hid bx
    clear bx
    have bx : Bx w21 (w4.heap.size) [.float .f32 Ss0, .float .f32 Ss1, .float .f32 Ss2, .float .f32 Ss3] := XBS020.out.below hw XBS020.out.1
    have XBS021 := Lib.hid bx
    clear bx
    have bx : Bx w21 (w8.heap.size) [.float .f32 Gs0, .float .f32 Gs1, .float .f32 Gs2, .float .f32 Gs3] := XBG020.out.below hw XBG020.out.1
    have XBG021 := Lib.hid bx
    clear bx
    clear cA00 cA01 cA02 cA03 cBS00 cBS01 cBS02 cBS03 cBG00 cBG01 cBG02 cBG03
    have FIc121 := Lib.hid (hf.mono (lo' := w20.heap.size) (by first | (simp; done) | (simp; omega) | omega) (Nat.le_refl _) (Nat.le_refl _))
    have tIc121 := FIc121.out.2.2
    have HB21 := Lib.hid hB
    have hs21 : w.heap.size ≤ w21.heap.size := HB21.out.size
    clear hB hw hb
    have cA00 := XA021.out.c 0 rfl
    have cA01 := XA021.out.c 1 rfl
    have cA02 := XA021.out.c 2 rfl
    have cA03 := XA021.out.c 3 rfl
    have cBS00 := XBS021.out.c 0 rfl
    have cBS01 := XBS021.out.c 1 rfl
    have cBS02 := XBS021.out.c 2 rfl
    have cBS03 := XBS021.out.c 3 rfl
    have cBG00 := XBG021.out.c 0 rfl
    have cBG01 := XBG021.out.c 1 rfl
    have cBG02 := XBG021.out.c 2 rfl
    have cBG03 := XBG021.out.c 3 rfl
    go_wp2_with fail
    refine (copyF_any a2 cap2 zs2 _ (by first | exact (H2.out.below HB21.out (Nat.le_refl _)) | exact ((H2.out.below HB21.out (Nat.le_refl _))).below (by repeat (first | with_reducible exact Below.refl _ _ | with_reducible refine beld ?_ _ | (with_reducible refine Below.alloc ?_ ?_ _; rotate_left; exact (by first | (simp; done) | (simp; omega) | omega)) | (with_reducible refine Below.setCell ?_ ?_ _; rotate_left; exact (by first | (simp; done) | (simp; omega) | omega)))) (Nat.le_refl _)) hl2).mono ?_
    rintro e w22 ⟨aIc2, capIc2, rfl, hb, hf⟩
    have hw : Below w21.heap.size w21 w22 := Below.trans (by repeat (first | with_reducible exact Below.refl _ _ | with_reducible refine beld ?_ _ | (with_reducible refine Below.alloc ?_ ?_ _; rotate_left; exact (by first | (simp; done) | (simp; omega) | omega)) | (with_reducible refine Below.setCell ?_ ?_ _; rotate_left; exact (by first | (simp; done) | (simp; omega) | omega)))) (hb.mono (by first | (simp; done) | (simp; omega) | omega))
    have hB : Below w.heap.size w w22 := HB21.out.trans (hw.mono HB21.out.size)
    have hz22 : w21.heap.size ≤ w22.heap.size := hw.size
    have FS122 := Lib.hid (FS121.out.below hw FS121.out.2.2)
    have tS122 := FS122.out.2.2
    have FG122 := Lib.hid (FG121.out.below hw FG121.out.2.2)
    have tG122 := FG122.out.2.2
    have FIc122 := Lib.hid (FIc121.out.below hw FIc121.out.2.2)
    have tIc122 := FIc122.out.2.2
    have bx : Bx w22 (w.heap.size) [.float .f32 p0, .float .f32 p1, .float .f32 p2, .float .f32 p3] := XA021.out.below hw XA021.out.1
    have XA022 := Lib.hid bx
    clear bx
    have bx : Bx w22 (w4.heap.size) [.float .f32 Ss0, .float .f32 Ss1, .float .f32 Ss2, .float .f32 Ss3] := XBS021.out.below hw XBS021.out.1
    have XBS022 := Lib.hid bx
    clear bx
    have bx : Bx w22 (w8.heap.size) [.float .f32 Gs0, .float .f32 Gs1, .float .f32 Gs2, .float .f32 Gs3] := XBG021.out.below hw XBG021.out.1
    have XBG022 := Lib.hid bx
    clear bx
    clear cA00 cA01 cA02 cA03 cBS00 cBS01 cBS02 cBS03 cBG00 cBG01 cBG02 cBG03
    have FIc222 := Lib.hid (hf.mono (lo' := w21.heap.size) (by first | (simp; done) | (simp; omega) | omega) (Nat.le_refl _) (Nat.le_refl _))
    have tIc222 := FIc222.out.2.2
    have HB22 := Lib.hid hB
    have hs22 : w.heap.size ≤ w22.heap.size := HB22.out.size
    clear hB hw hb
    have cA00 := XA022.out.c 0 rfl
    have cA01 := XA022.out.c 1 rfl
    have cA02 := XA022.out.c 2 rfl
    have cA03 := XA022.out.c 3 rfl
    have cBS00 := XBS022.out.c 0 rfl
    have cBS01 := XBS022.out.c 1 rfl
    have cBS02 := XBS022.out.c 2 rfl
    have cBS03 := XBS022.out.c 3 rfl
    have cBG00 := XBG022.out.c 0 rfl
    have cBG01 := XBG022.out.c 1 rfl
    have cBG02 := XBG022.out.c 2 rfl
    have cBG03 := XBG022.out.c 3 rfl
    go_wp2_with fail
    refine (HI.out aIc1 capIc1 aIc2 capIc2 _ (by first | exact FIc122.out.row | exact (FIc122.out.alloc _).row) (by first | exact FIc222.out.row | exact (FIc222.out.alloc _).row)).mono ?_
    rintro e w23 ⟨Is0, Is1, Is2, Is3, aI1, capI1, rfl, ⟨Ii0, Ii1, Ii2, Ii3⟩, hfI1, hlI1, hb⟩
    have hw : Below w22.heap.size w22 w23 := Below.trans (by repeat (first | with_reducible exact Below.refl _ _ | with_reducible refine beld ?_ _ | (with_reducible refine Below.alloc ?_ ?_ _; rotate_left; exact (by first | (simp; done) | (simp; omega) | omega)) | (with_reducible refine Below.setCell ?_ ?_ _; rotate_left; exact (by first | (simp; done) | (simp; omega) | omega)))) (hb.mono (by first | (simp; done) | (simp; omega) | omega))
    have hB : Below w.heap.size w w23 := HB22.out.trans (hw.mono HB22.out.size)
    have hz23 : w22.heap.size ≤ w23.heap.size := hw.size
    have FS123 := Lib.hid (FS122.out.below hw FS122.out.2.2)
    have tS123 := FS123.out.2.2
    have FG123 := Lib.hid (FG122.out.below hw FG122.out.2.2)
    have tG123 := FG123.out.2.2
    have FIc123 := Lib.hid (FIc122.out.below hw FIc122.out.2.2)
    have tIc123 := FIc123.out.2.2
    have FIc223 := Lib.hid (FIc222.out.below hw FIc222.out.2.2)
    have tIc223 := FIc223.out.2.2
    have bx : Bx w23 (w.heap.size) [.float .f32 p0, .float .f32 p1, .float .f32 p2, .float .f32 p3] := XA022.out.below hw XA022.out.1
    have XA023 := Lib.hid bx
    clear bx
    have bx : Bx w23 (w4.heap.size) [.float .f32 Ss0, .float .f32 Ss1, .float .f32 Ss2, .float .f32 Ss3] := XBS022.out.below hw XBS022.out.1
    have XBS023 := Lib.hid bx
    clear bx
    have bx : Bx w23 (w8.heap.size) [.float .f32 Gs0, .float .f32 Gs1, .float .f32 Gs2, .float .f32 Gs3] := XBG022.out.below hw XBG022.out.1
    have XBG023 := Lib.hid bx
    clear bx
    clear cA00 cA01 cA02 cA03 cBS00 cBS01 cBS02 cBS03 cBG00 cBG01 cBG02 cBG03
    have FI123 := Lib.hid (hfI1.mono (lo' := w22.heap.size) (by first | (simp; done) | (simp; omega) | omega) (Nat.le_refl _) (Nat.le_refl _))
    have tI123 := FI123.out.2.2
    have HB23 := Lib.hid hB
    have hs23 : w.heap.size ≤ w23.heap.size := HB23.out.size
    clear hB hw hb
    have cA00 := XA023.out.c 0 rfl
    have cA01 := XA023.out.c 1 rfl
    have cA02 := XA023.out.c 2 rfl
    have cA03 := XA023.out.c 3 rfl
    have cBS00 := XBS023.out.c 0 rfl
    have cBS01 := XBS023.out.c 1 rfl
    have cBS02 := XBS023.out.c 2 rfl
    have cBS03 := XBS023.out.c 3 rfl
    have cBG00 := XBG023.out.c 0 rfl
    have cBG01 := XBG023.out.c 1 rfl
    have cBG02 := XBG023.out.c 2 rfl
    have cBG03 := XBG023.out.c 3 rfl
    clear cA00 cA01 cA02 cA03 cBS00 cBS01 cBS02 cBS03 cBG00 cBG01 cBG02 cBG03
    have cA00 := (XA023.out.alloc (.cells #[.float .f32 Is0, .float .f32 Is1, .float .f32 Is2, .float .f32 Is3] 37)).c 0 rfl
    have cA01 := (XA023.out.alloc (.cells #[.float .f32 Is0, .float .f32 Is1, .float .f32 Is2, .float .f32 Is3] 37)).c 1 rfl
    have cA02 := (XA023.out.alloc (.cells #[.float .f32 Is0, .float .f32 Is1, .float .f32 Is2, .float .f32 Is3] 37)).c 2 rfl
    have cA03 := (XA023.out.alloc (.cells #[.float .f32 Is0, .float .f32 Is1, .float .f32 Is2, .float .f32 Is3] 37)).c 3 rfl
    have cBS00 := (XBS023.out.alloc (.cells #[.float .f32 Is0, .float .f32 Is1, .float .f32 Is2, .float .f32 Is3] 37)).c 0 rfl
    have cBS01 := (XBS023.out.alloc (.cells #[.float .f32 Is0, .float .f32 Is1, .float .f32 Is2, .float .f32 Is3] 37)).c 1 rfl
    have cBS02 := (XBS023.out.alloc (.cells #[.float .f32 Is0, .float .f32 Is1, .float .f32 Is2, .float .f32 Is3] 37)).c 2 rfl
    have cBS03 := (XBS023.out.alloc (.cells #[.float .f32 Is0, .float .f32 Is1, .float .f32 Is2, .float .f32 Is3] 37)).c 3 rfl
    have cBG00 := (XBG023.out.alloc (.cells #[.float .f32 Is0, .float .f32 Is1, .float .f32 Is2, .float .f32 Is3] 37)).c 0 rfl
    have cBG01 := (XBG023.out.alloc (.cells #[.float .f32 Is0, .float .f32 Is1, .float .f32 Is2, .float .f32 Is3] 37)).c 1 rfl
    have cBG02 := (XBG023.out.alloc (.cells #[.float .f32 Is0, .float .f32 Is1, .float .f32 Is2, .float .f32 Is3] 37)).c 2 rfl
    have cBG03 := (XBG023.out.alloc (.cells #[.float .f32 Is0, .float .f32 Is1, .float .f32 Is2, .float .f32 Is3] 37)).c 3 rfl
    go_wp2_with fail
    refine (eqSnow_o _ Ii0 Si0 Ii1 Si1 Ii2 Si2 Ii3 Si3).mono ?_
    rintro e w24 ⟨rfl, hb⟩
    have hw : Below w23.heap.size w23 w24 := Below.trans (by repeat (first | with_reducible exact Below.refl _ _ | with_reducible refine beld ?_ _ | (with_reducible refine Below.alloc ?_ ?_ _; rotate_left; exact (by first | (simp; done) | (simp; omega) | omega)) | (with_reducible refine Below.setCell ?_ ?_ _; rotate_left; exact (by first | (simp; done) | (simp; omega) | omega)))) (hb.mono (by first | (simp; done) | (simp; omega) | omega))
    have hB : Below w.heap.size w w24 := HB23.out.trans (hw.mono HB23.out.size)
    have hz24 : w23.heap.size ≤ w24.heap.size := hw.size
    have hy24 : w23.heap.size < w24.heap.size := (by have := hb.size; (try simp at this); omega)
    have FS124 := Lib.hid (FS123.out.below hw FS123.out.2.2)
    have tS124 := FS124.out.2.2
    have FG124 := Lib.hid (FG123.out.below hw FG123.out.2.2)
    have tG124 := FG124.out.2.2
    have FI124 := Lib.hid (FI123.out.below hw FI123.out.2.2)
    have tI124 := FI124.out.2.2
    have bx : Bx w24 (w.heap.size) [.float .f32 p0, .float .f32 p1, .float .f32 p2, .float .f32 p3] := XA023.out.below hw XA023.out.1
    have XA024 := Lib.hid bx
    clear bx
    have bx : Bx w24 (w4.heap.size) [.float .f32 Ss0, .float .f32 Ss1, .float .f32 Ss2, .float .f32 Ss3] := XBS023.out.below hw XBS023.out.1
    have XBS024 := Lib.hid bx
    clear bx
    have bx : Bx w24 (w8.heap.size) [.float .f32 Gs0, .float .f32 Gs1, .float .f32 Gs2, .float .f32 Gs3] := XBG023.out.below hw XBG023.out.1
    have XBG024 := Lib.hid bx
    clear bx
    have bx : Bx w24 (w23.heap.size) [.float .f32 Is0, .float .f32 Is1, .float .f32 Is2, .float .f32 Is3] := (by first | exact Bx.below (Bx.new w23 [_, _, _, _] _) hb (by first | (simp; done) | (simp; omega) | omega) | exact Bx.below (Bx.drewN (Bx.new w23 [_, _, _, _] _) _) hb (by first | (simp; done) | (simp; omega) | omega))
    have XBI024 := Lib.hid bx
    clear bx
    clear cA00 cA01 cA02 cA03 cBS00 cBS01 cBS02 cBS03 cBG00 cBG01 cBG02 cBG03
    have HB24 := Lib.hid hB
    have hs24 : w.heap.size ≤ w24.heap.size := HB24.out.size
    clear hB hw hb
    have cA00 := XA024.out.c 0 rfl
    have cA01 := XA024.out.c 1 rfl
    have cA02 := XA024.out.c 2 rfl
    have cA03 := XA024.out.c 3 rfl
    have cBS00 := XBS024.out.c 0 rfl
    have cBS01 := XBS024.out.c 1 rfl
    have cBS02 := XBS024.out.c 2 rfl
    have cBS03 := XBS024.out.c 3 rfl
    have cBG00 := XBG024.out.c 0 rfl
    have cBG01 := XBG024.out.c 1 rfl
    have cBG02 := XBG024.out.c 2 rfl
    have cBG03 := XBG024.out.c 3 rfl
    have cBI00 := XBI024.out.c 0 rfl
    have cBI01 := XBI024.out.c 1 rfl
    have cBI02 := XBI024.out.c 2 rfl
    have cBI03 := XBI024.out.c 3 rfl
    go_wp2_with fail
    refine (eqF_b aI1 aS1 capI1 capS1 Z1 _ (by first | exact FI124.out.row | exact (FI124.out.alloc _).row) (by first | exact FS124.out.row | exact (FS124.out.alloc _).row) hlI1).mono ?_
    rintro e w25 ⟨rfl, hb⟩
    have hw : Below w24.heap.size w24 w25 := Below.trans (by repeat (first | with_reducible exact Below.refl _ _ | with_reducible refine beld ?_ _ | (with_reducible refine Below.alloc ?_ ?_ _; rotate_left; exact (by first | (simp; done) | (simp; omega) | omega)) | (with_reducible refine Below.setCell ?_ ?_ _; rotate_left; exact (by first | (simp; done) | (simp; omega) | omega)))) (hb.mono (by first | (simp; done) | (simp; omega) | omega))
    have hB : Below w.heap.size w w25 := HB24.out.trans (hw.mono HB24.out.size)
    have hz25 : w24.heap.size ≤ w25.heap.size := hw.size
    have FS125 := Lib.hid (FS124.out.below hw FS124.out.2.2)
    have tS125 := FS125.out.2.2
    have FG125 := Lib.hid (FG124.out.below hw FG124.out.2.2)
    have tG125 := FG125.out.2.2
    have FI125 := Lib.hid (FI124.out.below hw FI124.out.2.2)
    have tI125 := FI125.out.2.2
    have bx : Bx w25 (w.heap.size) [.float .f32 p0, .float .f32 p1, .float .f32 p2, .float .f32 p3] := XA024.out.below hw XA024.out.1
    have XA025 := Lib.hid bx
    clear bx
    have bx : Bx w25 (w4.heap.size) [.float .f32 Ss0, .float .f32 Ss1, .float .f32 Ss2, .float .f32 Ss3] := XBS024.out.below hw XBS024.out.1
    have XBS025 := Lib.hid bx
    clear bx
    have bx : Bx w25 (w8.heap.size) [.float .f32 Gs0, .float .f32 Gs1, .float .f32 Gs2, .float .f32 Gs3] := XBG024.out.below hw XBG024.out.1
    have XBG025 := Lib.hid bx
    clear bx
    have bx : Bx w25 (w23.heap.size) [.float .f32 Is0, .float .f32 Is1, .float .f32 Is2, .float .f32 Is3] := XBI024.out.below hw XBI024.out.1
    have XBI025 := Lib.hid bx
    clear bx
    clear cA00 cA01 cA02 cA03 cBS00 cBS01 cBS02 cBS03 cBG00 cBG01 cBG02 cBG03 cBI00 cBI01 cBI02 cBI03
    have HB25 := Lib.hid hB
    have hs25 : w.heap.size ≤ w25.heap.size := HB25.out.size
    clear hB hw hb
    have cA00 := XA025.out.c 0 rfl
    have cA01 := XA025.out.c 1 rfl
    have cA02 := XA025.out.c 2 rfl
    have cA03 := XA025.out.c 3 rfl
    have cBS00 := XBS025.out.c 0 rfl
    have cBS01 := XBS025.out.c 1 rfl
    have cBS02 := XBS025.out.c 2 rfl
    have cBS03 := XBS025.out.c 3 rfl
    have cBG00 := XBG025.out.c 0 rfl
    have cBG01 := XBG025.out.c 1 rfl
    have cBG02 := XBG025.out.c 2 rfl
    have cBG03 := XBG025.out.c 3 rfl
    have cBI00 := XBI025.out.c 0 rfl
    have cBI01 := XBI025.out.c 1 rfl
    have cBI02 := XBI025.out.c 2 rfl
    have cBI03 := XBI025.out.c 3 rfl
    go_wp2_with fail
    refine (heldF_any (w7.heap.size) (w8.heap.size) (1) Z1.length aG1 capG1 _ (by first | exact FG125.out | exact FG125.out.alloc _) hlG1 (by omega)).mono ?_
    rintro e w' ⟨rfl, rfl⟩
    go_wp2_with fail
    go_ret
    exact ⟨rfl, Below.trans HB25.out ((by exact (by repeat (first | with_reducible exact Below.refl _ _ | with_reducible refine beld ?_ _ | (with_reducible refine Below.alloc ?_ ?_ _; rotate_left; exact (by first | (simp; done) | (simp; omega) | omega)) | (with_reducible refine Below.setCell ?_ ?_ _; rotate_left; exact (by first | (simp; done) | (simp; omega) | omega)))) : Below w25.heap.size w25 _).mono HB25.out.size)⟩

set_option maxHeartbeats 1000000 in
theorem walk_FnExactRunSnow (p0 p1 p2 p3 : Nat) (a1 : Option Addr) (len1 cap1 : Nat) (zs1 : List Nat) (a2 : Option Addr) (len2 cap2 : Nat) (zs2 : List Nat) (t : Nat) (w : World) (hp0 : p0 < 4294967296) (hp1 : p1 < 4294967296) (hp2 : p2 < 4294967296) (hp3 : p3 < 4294967296) (h1 : IsRowF .f32 w a1 len1 cap1 zs1) (h2 : IsRowF .f32 w a2 len2 cap2 zs2) (ht : t < 4294967296) :
    Calls Try.prog 4 #[.agg #[.float .f32 p0, .float .f32 p1, .float .f32 p2, .float .f32 p3], .slice a1 len1 cap1, .slice a2 len2 cap2, .float .f32 t] w fun e w' => e = .returned (.bool true) ∧ Below w.heap.size w w' := by
  obtain ⟨rfl, hcap1, hmax1, hr1, hz1⟩ := h1
  obtain ⟨rfl, hcap2, hmax2, hr2, hz2⟩ := h2
  unfold maxLen at hmax1 hmax2
  by_cases hl1 : zs1.length ≤ 1048576
  · skip
    by_cases hl2 : zs2.length ≤ 1048576
    · exact runSnowLaw_fits p0 p1 p2 p3 a1 cap1 zs1 a2 cap2 zs2 t w hp0 hp1 hp2 hp3 hr1 hl1 hz1 hr2 hl2 hz2 ht
    · have hg : 1048576 < (zs2.length : Int) := by omega
      clear hr1 hz1 hr2 hz2
      have hg1 : ¬ 1048576 < (zs1.length : Int) := by omega
      go_enter Try.func4, Try.ntmps4
      go_wp2_with fail
      go_ret
      exact ⟨rfl, (bel1 _ _ )⟩
  · have hg : 1048576 < (zs1.length : Int) := by omega
    clear hr1 hz1 hr2 hz2
    go_enter Try.func4, Try.ntmps4
    go_wp2_with fail
    go_ret
    exact ⟨rfl, (bel1 _ _ )⟩
end Go.Proofs.Ytfdcfalkidcdnab
