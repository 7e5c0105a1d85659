/- The walk of the law on RunSoil. -/
import Derived.Test.YtdoecpghlfjhiacRSoI
import Derived.Test.YtdoecpghlfjhiacRSoS
import Derived.Test.YtdoecpghlfjhiacTo
import Derived.Test.YtdoecpghlfjhiacSame
import Derived.Test.YtdoecpghlfjhiacEqF
import Derived.Test.YtdoecpghlfjhiacGrow
import Derived.DataShut
namespace Go.Proofs.Ytdoecpghlfjhiac
open Go.RowKit
set_option linter.unusedVariables false
set_option linter.unusedSimpArgs false
set_option maxRecDepth 100000
attribute [local irreducible] wpV wpList Code.wp

set_option maxHeartbeats 4000000 in
theorem eqSoil_o {O0 O1 O2 O3 O4 : Option Nat} {x0 x1 x2 x3 x4 y0 y1 y2 y3 y4 : Nat} (w : World) (hx0 : Is32 O0 x0) (hy0 : Is32 O0 y0) (hx1 : Is32 O1 x1) (hy1 : Is32 O1 y1) (hx2 : Is32 O2 x2) (hy2 : Is32 O2 y2) (hx3 : Is32 O3 x3) (hy3 : Is32 O3 y3) (hx4 : Is32 O4 x4) (hy4 : Is32 O4 y4) :
    Calls Try.prog 56 #[.agg #[.float .f32 x0, .float .f32 x1, .float .f32 x2, .float .f32 x3, .float .f32 x4], .agg #[.float .f32 y0, .float .f32 y1, .float .f32 y2, .float .f32 y3, .float .f32 y4]] w fun e w' => e = .returned (.bool true) ∧ Below w.heap.size w w' := by
  go_enter Try.func56, Try.ntmps56
  go_wp2_with (first | ((with_reducible refine wpList_cv ?_); refine wpList_widen rfl _ _ _ rfl rfl (by kernel_rfl) Try.underlying30 (by assumption) ?_; intro y q hy) | (go_at_call 140; refine (sameFloat_true _ _ _ (by assumption) (by assumption) _).mono ?_; rintro e w' ⟨rfl, n3, rfl⟩))
  go_ret
  exact ⟨rfl, by repeat (first | with_reducible exact bel2 _ _ _ | with_reducible refine beld ?_ _)⟩

set_option maxHeartbeats 16000000 in
theorem runSoilLaw_fits (p0 p1 p2 p3 p4 : Nat) (a1 : Option Addr) (cap1 : Nat) (zs1 : List Nat) (t : Nat) (w : World) (hp0 : p0 < 4294967296) (hp1 : p1 < 4294967296) (hp2 : p2 < 4294967296) (hp3 : p3 < 4294967296) (hp4 : p4 < 4294967296) (hr1 : RowF .f32 w a1 zs1) (hl1 : zs1.length ≤ 1048576) (hz1 : ∀ z ∈ zs1, z < 4294967296) (ht : t < 4294967296) :
    Calls Try.prog 7 #[.agg #[.float .f32 p0, .float .f32 p1, .float .f32 p2, .float .f32 p3, .float .f32 p4], .slice a1 zs1.length cap1, .float .f32 t] w fun e w' => e = .returned (.bool true) ∧ Below w.heap.size w w' := by
  obtain ⟨⟨S0, S1, S2, S3, S4, Z1, Z2, B⟩, hR⟩ : ∃ R, runSoilO (some p0) (some p1) (some p2) (some p3) (some p4) (some t) zs1 = R := ⟨_, rfl⟩
  have cS : ∀ (a1 : Option Addr) (cap1 : Nat) (W : World), RowF .f32 W a1 zs1 → Calls Try.prog 52 #[.agg #[.float .f32 p0, .float .f32 p1, .float .f32 p2, .float .f32 p3, .float .f32 p4], .slice a1 zs1.length cap1, .float .f32 t] W (RunSB ⟨S0, S1, S2, S3, S4, Z1, Z2, B⟩ W) := by
    intro a1 cap1 W h1'
    have := runSoil_s a1 cap1 zs1 W (Is32.c hp0) (Is32.c hp1) (Is32.c hp2) (Is32.c hp3) (Is32.c hp4) h1' hl1 hz1 (Is32.c ht)
    rw [hR] at this
    exact this
  have cI : ∀ (a1 : Option Addr) (cap1 : Nat) (W : World), RowF .f32 W a1 zs1 → Calls Try.prog 55 #[.agg #[.float .f32 p0, .float .f32 p1, .float .f32 p2, .float .f32 p3, .float .f32 p4], .slice a1 zs1.length cap1, .float .f32 t] W (RunSB ⟨S0, S1, S2, S3, S4, Z1, Z2, B⟩ W) := by
    intro a1 cap1 W h1'
    have := runSoil_i a1 cap1 zs1 W (Is32.c hp0) (Is32.c hp1) (Is32.c hp2) (Is32.c hp3) (Is32.c hp4) h1' hl1 hz1 (Is32.c ht)
    rw [hR] at this
    exact this
  have HS := Lib.hid cS
  have HI := Lib.hid cI
  clear cS cI hR
  have H1 := Lib.hid hr1
  clear hr1 hz1
  cases B
  all_goals
    go_enter Try.func7, Try.ntmps7
    go_wp2_with fail
    refine (toSoil_o _ _ _ _ _  _).mono ?_
    rintro e w1 ⟨rfl, hb⟩
    have hw : Below w.heap.size w w1 := Below.trans (by repeat (first | with_reducible exact Below.refl _ _ | with_reducible refine beld ?_ _ | (with_reducible refine Below.alloc ?_ ?_ _; rotate_left; exact (by first | (simp; done) | (simp; omega) | omega)) | (with_reducible refine Below.setCell ?_ ?_ _; rotate_left; exact (by first | (simp; done) | (simp; omega) | omega)))) (hb.mono (by first | (simp; done) | (simp; omega) | omega))
    have hB : Below w.heap.size w w1 := hw
    have hz1 : w.heap.size ≤ w1.heap.size := hw.size
    have hx1 : w.heap.size + 1 ≤ w1.heap.size := (by have := hb.size; (try simp at this); omega)
    have bx : Bx w1 (w.heap.size) [.float .f32 p0, .float .f32 p1, .float .f32 p2, .float .f32 p3, .float .f32 p4] := (by first | exact Bx.below (Bx.new w [_, _, _, _, _] _) hb (by first | (simp; done) | (simp; omega) | omega) | exact Bx.below (Bx.drewN (Bx.new w [_, _, _, _, _] _) _) hb (by first | (simp; done) | (simp; omega) | omega))
    have XA01 := Lib.hid bx
    clear bx
    have HB1 := Lib.hid hB
    have hs1 : w.heap.size ≤ w1.heap.size := HB1.out.size
    clear hB hw hb
    have cA00 := XA01.out.c 0 rfl
    have cA01 := XA01.out.c 1 rfl
    have cA02 := XA01.out.c 2 rfl
    have cA03 := XA01.out.c 3 rfl
    have cA04 := XA01.out.c 4 rfl
    go_wp2_with fail
    refine (copyF_any a1 cap1 zs1 _ (by first | exact (H1.out.below HB1.out (Nat.le_refl _)) | exact ((H1.out.below HB1.out (Nat.le_refl _))).below (by repeat (first | with_reducible exact Below.refl _ _ | with_reducible refine beld ?_ _ | (with_reducible refine Below.alloc ?_ ?_ _; rotate_left; exact (by first | (simp; done) | (simp; omega) | omega)) | (with_reducible refine Below.setCell ?_ ?_ _; rotate_left; exact (by first | (simp; done) | (simp; omega) | omega)))) (Nat.le_refl _)) hl1).mono ?_
    rintro e w2 ⟨aSc1, capSc1, rfl, hb, hf⟩
    have hw : Below w1.heap.size w1 w2 := Below.trans (by repeat (first | with_reducible exact Below.refl _ _ | with_reducible refine beld ?_ _ | (with_reducible refine Below.alloc ?_ ?_ _; rotate_left; exact (by first | (simp; done) | (simp; omega) | omega)) | (with_reducible refine Below.setCell ?_ ?_ _; rotate_left; exact (by first | (simp; done) | (simp; omega) | omega)))) (hb.mono (by first | (simp; done) | (simp; omega) | omega))
    have hB : Below w.heap.size w w2 := HB1.out.trans (hw.mono HB1.out.size)
    have hz2 : w1.heap.size ≤ w2.heap.size := hw.size
    have bx : Bx w2 (w.heap.size) [.float .f32 p0, .float .f32 p1, .float .f32 p2, .float .f32 p3, .float .f32 p4] := XA01.out.below hw XA01.out.1
    have XA02 := Lib.hid bx
    clear bx
    clear cA00 cA01 cA02 cA03 cA04
    have FSc12 := Lib.hid (hf.mono (lo' := w1.heap.size) (by first | (simp; done) | (simp; omega) | omega) (Nat.le_refl _) (Nat.le_refl _))
    have tSc12 := FSc12.out.2.2
    have HB2 := Lib.hid hB
    have hs2 : w.heap.size ≤ w2.heap.size := HB2.out.size
    clear hB hw hb
    have cA00 := XA02.out.c 0 rfl
    have cA01 := XA02.out.c 1 rfl
    have cA02 := XA02.out.c 2 rfl
    have cA03 := XA02.out.c 3 rfl
    have cA04 := XA02.out.c 4 rfl
    go_wp2_with fail
    refine (HS.out aSc1 capSc1 _ (by first | exact FSc12.out.row | exact (FSc12.out.alloc _).row)).mono ?_
    rintro e w3 ⟨Ss0, Ss1, Ss2, Ss3, Ss4, aS1, capS1, loS1, hiS1, aS2, capS2, loS2, hiS2, rfl, ⟨Si0, Si1, Si2, Si3, Si4⟩, hfS1, hfS2, hpS1, hpS2, hlS1, hlS2, disjS, hb⟩
    have hw : Below w2.heap.size w2 w3 := Below.trans (by repeat (first | with_reducible exact Below.refl _ _ | with_reducible refine beld ?_ _ | (with_reducible refine Below.alloc ?_ ?_ _; rotate_left; exact (by first | (simp; done) | (simp; omega) | omega)) | (with_reducible refine Below.setCell ?_ ?_ _; rotate_left; exact (by first | (simp; done) | (simp; omega) | omega)))) (hb.mono (by first | (simp; done) | (simp; omega) | omega))
    have hB : Below w.heap.size w w3 := HB2.out.trans (hw.mono HB2.out.size)
    have hz3 : w2.heap.size ≤ w3.heap.size := hw.size
    have FSc13 := Lib.hid (FSc12.out.below hw FSc12.out.2.2)
    have tSc13 := FSc13.out.2.2
    have bx : Bx w3 (w.heap.size) [.float .f32 p0, .float .f32 p1, .float .f32 p2, .float .f32 p3, .float .f32 p4] := XA02.out.below hw XA02.out.1
    have XA03 := Lib.hid bx
    clear bx
    clear cA00 cA01 cA02 cA03 cA04
    have FS13 := Lib.hid hfS1
    have tS13 := FS13.out.2.2
    have FS23 := Lib.hid hfS2
    have tS23 := FS23.out.2.2
    have HB3 := Lib.hid hB
    have hs3 : w.heap.size ≤ w3.heap.size := HB3.out.size
    clear hB hw hb
    have cA00 := XA03.out.c 0 rfl
    have cA01 := XA03.out.c 1 rfl
    have cA02 := XA03.out.c 2 rfl
    have cA03 := XA03.out.c 3 rfl
    have cA04 := XA03.out.c 4 rfl
    have hpS1' : w2.heap.size ≤ loS1 := Nat.le_trans (by first | (simp; done) | (simp; omega) | omega) hpS1
    have hpS2' : w2.heap.size ≤ loS2 := Nat.le_trans (by first | (simp; done) | (simp; omega) | omega) hpS2
    clear cA00 cA01 cA02 cA03 cA04
    have cA00 := (XA03.out.alloc (.cells #[.float .f32 Ss0, .float .f32 Ss1, .float .f32 Ss2, .float .f32 Ss3, .float .f32 Ss4] 79)).c 0 rfl
    have cA01 := (XA03.out.alloc (.cells #[.float .f32 Ss0, .float .f32 Ss1, .float .f32 Ss2, .float .f32 Ss3, .float .f32 Ss4] 79)).c 1 rfl
    have cA02 := (XA03.out.alloc (.cells #[.float .f32 Ss0, .float .f32 Ss1, .float .f32 Ss2, .float .f32 Ss3, .float .f32 Ss4] 79)).c 2 rfl
    have cA03 := (XA03.out.alloc (.cells #[.float .f32 Ss0, .float .f32 Ss1, .float .f32 Ss2, .float .f32 Ss3, .float .f32 Ss4] 79)).c 3 rfl
    have cA04 := (XA03.out.alloc (.cells #[.float .f32 Ss0, .float .f32 Ss1, .float .f32 Ss2, .float .f32 Ss3, .float .f32 Ss4] 79)).c 4 rfl
    go_wp2_with fail
    refine (copyF_any a1 cap1 zs1 _ (by exact H1.out.below (Below.trans HB3.out ((by exact (by repeat (first | with_reducible exact Below.refl _ _ | with_reducible refine beld ?_ _ | (with_reducible refine Below.alloc ?_ ?_ _; rotate_left; exact (by first | (simp; done) | (simp; omega) | omega)) | (with_reducible refine Below.setCell ?_ ?_ _; rotate_left; exact (by first | (simp; done) | (simp; omega) | omega)))) : Below w3.heap.size w3 _).mono HB3.out.size)) (Nat.le_refl _)) hl1).mono ?_
    rintro e w4 ⟨aX1, capX1, rfl, hb, hf⟩
    have hw : Below w3.heap.size w3 w4 := Below.trans (by repeat (first | with_reducible exact Below.refl _ _ | with_reducible refine beld ?_ _ | (with_reducible refine Below.alloc ?_ ?_ _; rotate_left; exact (by first | (simp; done) | (simp; omega) | omega)) | (with_reducible refine Below.setCell ?_ ?_ _; rotate_left; exact (by first | (simp; done) | (simp; omega) | omega)))) (hb.mono (by first | (simp; done) | (simp; omega) | omega))
    have hB : Below w.heap.size w w4 := HB3.out.trans (hw.mono HB3.out.size)
    have hz4 : w3.heap.size ≤ w4.heap.size := hw.size
    have hy4 : w3.heap.size < w4.heap.size := (by have := hb.size; (try simp at this); omega)
    have FS14 := Lib.hid (FS13.out.below hw FS13.out.2.2)
    have tS14 := FS14.out.2.2
    have FS24 := Lib.hid (FS23.out.below hw FS23.out.2.2)
    have tS24 := FS24.out.2.2
    have bx : Bx w4 (w.heap.size) [.float .f32 p0, .float .f32 p1, .float .f32 p2, .float .f32 p3, .float .f32 p4] := XA03.out.below hw XA03.out.1
    have XA04 := Lib.hid bx
    clear bx
    have bx : Bx w4 (w3.heap.size) [.float .f32 Ss0, .float .f32 Ss1, .float .f32 Ss2, .float .f32 Ss3, .float .f32 Ss4] := (by first | exact Bx.below (Bx.new w3 [_, _, _, _, _] _) hb (by first | (simp; done) | (simp; omega) | omega) | exact Bx.below (Bx.drewN (Bx.new w3 [_, _, _, _, _] _) _) hb (by first | (simp; done) | (simp; omega) | omega))
    have XBS04 := Lib.hid bx
    clear bx
    clear cA00 cA01 cA02 cA03 cA04
    have FX14 := Lib.hid (hf.mono (lo' := w3.heap.size + 1) (by first | (simp; done) | (simp; omega) | omega) (Nat.le_refl _) (Nat.le_refl _))
    have tX14 := FX14.out.2.2
    have HB4 := Lib.hid hB
    have hs4 : w.heap.size ≤ w4.heap.size := HB4.out.size
    clear hB hw hb
    have cA00 := XA04.out.c 0 rfl
    have cA01 := XA04.out.c 1 rfl
    have cA02 := XA04.out.c 2 rfl
    have cA03 := XA04.out.c 3 rfl
    have cA04 := XA04.out.c 4 rfl
    have cBS00 := XBS04.out.c 0 rfl
    have cBS01 := XBS04.out.c 1 rfl
    have cBS02 := XBS04.out.c 2 rfl
    have cBS03 := XBS04.out.c 3 rfl
    have cBS04 := XBS04.out.c 4 rfl
    go_wp2_with fail
    refine (toSoil_o _ _ _ _ _  _).mono ?_
    rintro e w5 ⟨rfl, hb⟩
    have hw : Below w4.heap.size w4 w5 := Below.trans (by repeat (first | with_reducible exact Below.refl _ _ | with_reducible refine beld ?_ _ | (with_reducible refine Below.alloc ?_ ?_ _; rotate_left; exact (by first | (simp; done) | (simp; omega) | omega)) | (with_reducible refine Below.setCell ?_ ?_ _; rotate_left; exact (by first | (simp; done) | (simp; omega) | omega)))) (hb.mono (by first | (simp; done) | (simp; omega) | omega))
    have hB : Below w.heap.size w w5 := HB4.out.trans (hw.mono HB4.out.size)
    have hz5 : w4.heap.size ≤ w5.heap.size := hw.size
    have FS15 := Lib.hid (FS14.out.below hw FS14.out.2.2)
    have tS15 := FS15.out.2.2
    have FS25 := Lib.hid (FS24.out.below hw FS24.out.2.2)
    have tS25 := FS25.out.2.2
    have FX15 := Lib.hid (FX14.out.below hw FX14.out.2.2)
    have tX15 := FX15.out.2.2
    have bx : Bx w5 (w.heap.size) [.float .f32 p0, .float .f32 p1, .float .f32 p2, .float .f32 p3, .float .f32 p4] := XA04.out.below hw XA04.out.1
    have XA05 := Lib.hid bx
    clear bx
    have bx : Bx w5 (w3.heap.size) [.float .f32 Ss0, .float .f32 Ss1, .float .f32 Ss2, .float .f32 Ss3, .float .f32 Ss4] := XBS04.out.below hw XBS04.out.1
    have XBS05 := Lib.hid bx
    clear bx
    clear cA00 cA01 cA02 cA03 cA04 cBS00 cBS01 cBS02 cBS03 cBS04
    have HB5 := Lib.hid hB
    have hs5 : w.heap.size ≤ w5.heap.size := HB5.out.size
    clear hB hw hb
    have cA00 := XA05.out.c 0 rfl
    have cA01 := XA05.out.c 1 rfl
    have cA02 := XA05.out.c 2 rfl
    have cA03 := XA05.out.c 3 rfl
    have cA04 := XA05.out.c 4 rfl
    have cBS00 := XBS05.out.c 0 rfl
    have cBS01 := XBS05.out.c 1 rfl
    have cBS02 := XBS05.out.c 2 rfl
    have cBS03 := XBS05.out.c 3 rfl
    have cBS04 := XBS05.out.c 4 rfl
    go_wp2_with fail
    refine (HI.out aX1 capX1 _ (by first | exact FX15.out.row | exact (FX15.out.alloc _).row)).mono ?_
    rintro e w6 ⟨Gs0, Gs1, Gs2, Gs3, Gs4, aG1, capG1, loG1, hiG1, aG2, capG2, loG2, hiG2, rfl, ⟨Gi0, Gi1, Gi2, Gi3, Gi4⟩, hfG1, hfG2, hpG1, hpG2, hlG1, hlG2, disjG, hb⟩
    have hw : Below w5.heap.size w5 w6 := Below.trans (by repeat (first | with_reducible exact Below.refl _ _ | with_reducible refine beld ?_ _ | (with_reducible refine Below.alloc ?_ ?_ _; rotate_left; exact (by first | (simp; done) | (simp; omega) | omega)) | (with_reducible refine Below.setCell ?_ ?_ _; rotate_left; exact (by first | (simp; done) | (simp; omega) | omega)))) (hb.mono (by first | (simp; done) | (simp; omega) | omega))
    have hB : Below w.heap.size w w6 := HB5.out.trans (hw.mono HB5.out.size)
    have hz6 : w5.heap.size ≤ w6.heap.size := hw.size
    have FS16 := Lib.hid (FS15.out.below hw FS15.out.2.2)
    have tS16 := FS16.out.2.2
    have FS26 := Lib.hid (FS25.out.below hw FS25.out.2.2)
    have tS26 := FS26.out.2.2
    have FX16 := Lib.hid (FX15.out.below hw FX15.out.2.2)
    have tX16 := FX16.out.2.2
    have bx : Bx w6 (w.heap.size) [.float .f32 p0, .float .f32 p1, .float .f32 p2, .float .f32 p3, .float .f32 p4] := XA05.out.below hw XA05.out.1
    have XA06 := Lib.hid bx
    clear bx
    have bx : Bx w6 (w3.heap.size) [.float .f32 Ss0, .float .f32 Ss1, .float .f32 Ss2, .float .f32 Ss3, .float .f32 Ss4] := XBS05.out.below hw XBS05.out.1
    have XBS06 := Lib.hid bx
    clear bx
    clear cA00 cA01 cA02 cA03 cA04 cBS00 cBS01 cBS02 cBS03 cBS04
    have FG16 := Lib.hid hfG1
    have tG16 := FG16.out.2.2
    have FG26 := Lib.hid hfG2
    have tG26 := FG26.out.2.2
    have HB6 := Lib.hid hB
    have hs6 : w.heap.size ≤ w6.heap.size := HB6.out.size
    clear hB hw hb
    have cA00 := XA06.out.c 0 rfl
    have cA01 := XA06.out.c 1 rfl
    have cA02 := XA06.out.c 2 rfl
    have cA03 := XA06.out.c 3 rfl
    have cA04 := XA06.out.c 4 rfl
    have cBS00 := XBS06.out.c 0 rfl
    have cBS01 := XBS06.out.c 1 rfl
    have cBS02 := XBS06.out.c 2 rfl
    have cBS03 := XBS06.out.c 3 rfl
    have cBS04 := XBS06.out.c 4 rfl
    have hpG1' : w5.heap.size ≤ loG1 := Nat.le_trans (by first | (simp; done) | (simp; omega) | omega) hpG1
    have hpG2' : w5.heap.size ≤ loG2 := Nat.le_trans (by first | (simp; done) | (simp; omega) | omega) hpG2
    clear cA00 cA01 cA02 cA03 cA04 cBS00 cBS01 cBS02 cBS03 cBS04
    have cA00 := (XA06.out.alloc (.cells #[.float .f32 Gs0, .float .f32 Gs1, .float .f32 Gs2, .float .f32 Gs3, .float .f32 Gs4] 79)).c 0 rfl
    have cA01 := (XA06.out.alloc (.cells #[.float .f32 Gs0, .float .f32 Gs1, .float .f32 Gs2, .float .f32 Gs3, .float .f32 Gs4] 79)).c 1 rfl
    have cA02 := (XA06.out.alloc (.cells #[.float .f32 Gs0, .float .f32 Gs1, .float .f32 Gs2, .float .f32 Gs3, .float .f32 Gs4] 79)).c 2 rfl
    have cA03 := (XA06.out.alloc (.cells #[.float .f32 Gs0, .float .f32 Gs1, .float .f32 Gs2, .float .f32 Gs3, .float .f32 Gs4] 79)).c 3 rfl
    have cA04 := (XA06.out.alloc (.cells #[.float .f32 Gs0, .float .f32 Gs1, .float .f32 Gs2, .float .f32 Gs3, .float .f32 Gs4] 79)).c 4 rfl
    have cBS00 := (XBS06.out.alloc (.cells #[.float .f32 Gs0, .float .f32 Gs1, .float .f32 Gs2, .float .f32 Gs3, .float .f32 Gs4] 79)).c 0 rfl
    have cBS01 := (XBS06.out.alloc (.cells #[.float .f32 Gs0, .float .f32 Gs1, .float .f32 Gs2, .float .f32 Gs3, .float .f32 Gs4] 79)).c 1 rfl
    have cBS02 := (XBS06.out.alloc (.cells #[.float .f32 Gs0, .float .f32 Gs1, .float .f32 Gs2, .float .f32 Gs3, .float .f32 Gs4] 79)).c 2 rfl
    have cBS03 := (XBS06.out.alloc (.cells #[.float .f32 Gs0, .float .f32 Gs1, .float .f32 Gs2, .float .f32 Gs3, .float .f32 Gs4] 79)).c 3 rfl
    have cBS04 := (XBS06.out.alloc (.cells #[.float .f32 Gs0, .float .f32 Gs1, .float .f32 Gs2, .float .f32 Gs3, .float .f32 Gs4] 79)).c 4 rfl
    go_wp2_with fail
    refine (eqSoil_o _ Gi0 Si0 Gi1 Si1 Gi2 Si2 Gi3 Si3 Gi4 Si4).mono ?_
    rintro e w7 ⟨rfl, hb⟩
    have hw : Below w6.heap.size w6 w7 := Below.trans (by repeat (first | with_reducible exact Below.refl _ _ | with_reducible refine beld ?_ _ | (with_reducible refine Below.alloc ?_ ?_ _; rotate_left; exact (by first | (simp; done) | (simp; omega) | omega)) | (with_reducible refine Below.setCell ?_ ?_ _; rotate_left; exact (by first | (simp; done) | (simp; omega) | omega)))) (hb.mono (by first | (simp; done) | (simp; omega) | omega))
    have hB : Below w.heap.size w w7 := HB6.out.trans (hw.mono HB6.out.size)
    have hz7 : w6.heap.size ≤ w7.heap.size := hw.size
    have hy7 : w6.heap.size < w7.heap.size := (by have := hb.size; (try simp at this); omega)
    have FS17 := Lib.hid (FS16.out.below hw FS16.out.2.2)
    have tS17 := FS17.out.2.2
    have FS27 := Lib.hid (FS26.out.below hw FS26.out.2.2)
    have tS27 := FS27.out.2.2
    have FX17 := Lib.hid (FX16.out.below hw FX16.out.2.2)
    have tX17 := FX17.out.2.2
    have FG17 := Lib.hid (FG16.out.below hw FG16.out.2.2)
    have tG17 := FG17.out.2.2
    have FG27 := Lib.hid (FG26.out.below hw FG26.out.2.2)
    have tG27 := FG27.out.2.2
    have bx : Bx w7 (w.heap.size) [.float .f32 p0, .float .f32 p1, .float .f32 p2, .float .f32 p3, .float .f32 p4] := XA06.out.below hw XA06.out.1
    have XA07 := Lib.hid bx
    clear bx
    have bx : Bx w7 (w3.heap.size) [.float .f32 Ss0, .float .f32 Ss1, .float .f32 Ss2, .float .f32 Ss3, .float .f32 Ss4] := XBS06.out.below hw XBS06.out.1
    have XBS07 := Lib.hid bx
    clear bx
    have bx : Bx w7 (w6.heap.size) [.float .f32 Gs0, .float .f32 Gs1, .float .f32 Gs2, .float .f32 Gs3, .float .f32 Gs4] := (by first | exact Bx.below (Bx.new w6 [_, _, _, _, _] _) hb (by first | (simp; done) | (simp; omega) | omega) | exact Bx.below (Bx.drewN (Bx.new w6 [_, _, _, _, _] _) _) hb (by first | (simp; done) | (simp; omega) | omega))
    have XBG07 := Lib.hid bx
    clear bx
    clear cA00 cA01 cA02 cA03 cA04 cBS00 cBS01 cBS02 cBS03 cBS04
    have HB7 := Lib.hid hB
    have hs7 : w.heap.size ≤ w7.heap.size := HB7.out.size
    clear hB hw hb
    have cA00 := XA07.out.c 0 rfl
    have cA01 := XA07.out.c 1 rfl
    have cA02 := XA07.out.c 2 rfl
    have cA03 := XA07.out.c 3 rfl
    have cA04 := XA07.out.c 4 rfl
    have cBS00 := XBS07.out.c 0 rfl
    have cBS01 := XBS07.out.c 1 rfl
    have cBS02 := XBS07.out.c 2 rfl
    have cBS03 := XBS07.out.c 3 rfl
    have cBS04 := XBS07.out.c 4 rfl
    have cBG00 := XBG07.out.c 0 rfl
    have cBG01 := XBG07.out.c 1 rfl
    have cBG02 := XBG07.out.c 2 rfl
    have cBG03 := XBG07.out.c 3 rfl
    have cBG04 := XBG07.out.c 4 rfl
    go_wp2_with fail
    refine (eqF_b aG1 aS1 capG1 capS1 Z1 _ (by first | exact FG17.out.row | exact (FG17.out.alloc _).row) (by first | exact FS17.out.row | exact (FS17.out.alloc _).row) hlG1).mono ?_
    rintro e w8 ⟨rfl, hb⟩
    have hw : Below w7.heap.size w7 w8 := Below.trans (by repeat (first | with_reducible exact Below.refl _ _ | with_reducible refine beld ?_ _ | (with_reducible refine Below.alloc ?_ ?_ _; rotate_left; exact (by first | (simp; done) | (simp; omega) | omega)) | (with_reducible refine Below.setCell ?_ ?_ _; rotate_left; exact (by first | (simp; done) | (simp; omega) | omega)))) (hb.mono (by first | (simp; done) | (simp; omega) | omega))
    have hB : Below w.heap.size w w8 := HB7.out.trans (hw.mono HB7.out.size)
    have hz8 : w7.heap.size ≤ w8.heap.size := hw.size
    have FS18 := Lib.hid (FS17.out.below hw FS17.out.2.2)
    have tS18 := FS18.out.2.2
    have FS28 := Lib.hid (FS27.out.below hw FS27.out.2.2)
    have tS28 := FS28.out.2.2
    have FX18 := Lib.hid (FX17.out.below hw FX17.out.2.2)
    have tX18 := FX18.out.2.2
    have FG18 := Lib.hid (FG17.out.below hw FG17.out.2.2)
    have tG18 := FG18.out.2.2
    have FG28 := Lib.hid (FG27.out.below hw FG27.out.2.2)
    have tG28 := FG28.out.2.2
    have bx : Bx w8 (w.heap.size) [.float .f32 p0, .float .f32 p1, .float .f32 p2, .float .f32 p3, .float .f32 p4] := XA07.out.below hw XA07.out.1
    have XA08 := Lib.hid bx
    clear bx
    have bx : Bx w8 (w3.heap.size) [.float .f32 Ss0, .float .f32 Ss1, .float .f32 Ss2, .float .f32 Ss3, .float .f32 Ss4] := XBS07.out.below hw XBS07.out.1
    have XBS08 := Lib.hid bx
    clear bx
    have bx : Bx w8 (w6.heap.size) [.float .f32 Gs0, .float .f32 Gs1, .float .f32 Gs2, .float .f32 Gs3, .float .f32 Gs4] := XBG07.out.below hw XBG07.out.1
    have XBG08 := Lib.hid bx
    clear bx
    clear cA00 cA01 cA02 cA03 cA04 cBS00 cBS01 cBS02 cBS03 cBS04 cBG00 cBG01 cBG02 cBG03 cBG04
    have HB8 := Lib.hid hB
    have hs8 : w.heap.size ≤ w8.heap.size := HB8.out.size
    clear hB hw hb
    have cA00 := XA08.out.c 0 rfl
    have cA01 := XA08.out.c 1 rfl
    have cA02 := XA08.out.c 2 rfl
    have cA03 := XA08.out.c 3 rfl
    have cA04 := XA08.out.c 4 rfl
    have cBS00 := XBS08.out.c 0 rfl
    have cBS01 := XBS08.out.c 1 rfl
    have cBS02 := XBS08.out.c 2 rfl
    have cBS03 := XBS08.out.c 3 rfl
    have cBS04 := XBS08.out.c 4 rfl
    have cBG00 := XBG08.out.c 0 rfl
    have cBG01 := XBG08.out.c 1 rfl
    have cBG02 := XBG08.out.c 2 rfl
    have cBG03 := XBG08.out.c 3 rfl
    have cBG04 := XBG08.out.c 4 rfl
    go_wp2_with fail
    refine (eqF_b aG2 aS2 capG2 capS2 Z2 _ (by first | exact FG28.out.row | exact (FG28.out.alloc _).row) (by first | exact FS28.out.row | exact (FS28.out.alloc _).row) hlG2).mono ?_
    rintro e w9 ⟨rfl, hb⟩
    have hw : Below w8.heap.size w8 w9 := Below.trans (by repeat (first | with_reducible exact Below.refl _ _ | with_reducible refine beld ?_ _ | (with_reducible refine Below.alloc ?_ ?_ _; rotate_left; exact (by first | (simp; done) | (simp; omega) | omega)) | (with_reducible refine Below.setCell ?_ ?_ _; rotate_left; exact (by first | (simp; done) | (simp; omega) | omega)))) (hb.mono (by first | (simp; done) | (simp; omega) | omega))
    have hB : Below w.heap.size w w9 := HB8.out.trans (hw.mono HB8.out.size)
    have hz9 : w8.heap.size ≤ w9.heap.size := hw.size
    have FS19 := Lib.hid (FS18.out.below hw FS18.out.2.2)
    have tS19 := FS19.out.2.2
    have FS29 := Lib.hid (FS28.out.below hw FS28.out.2.2)
    have tS29 := FS29.out.2.2
    have FX19 := Lib.hid (FX18.out.below hw FX18.out.2.2)
    have tX19 := FX19.out.2.2
    have FG19 := Lib.hid (FG18.out.below hw FG18.out.2.2)
    have tG19 := FG19.out.2.2
    have FG29 := Lib.hid (FG28.out.below hw FG28.out.2.2)
    have tG29 := FG29.out.2.2
    have bx : Bx w9 (w.heap.size) [.float .f32 p0, .float .f32 p1, .float .f32 p2, .float .f32 p3, .float .f32 p4] := XA08.out.below hw XA08.out.1
    have XA09 := Lib.hid bx
    clear bx
    have bx : Bx w9 (w3.heap.size) [.float .f32 Ss0, .float .f32 Ss1, .float .f32 Ss2, .float .f32 Ss3, .float .f32 Ss4] := XBS08.out.below hw XBS08.out.1
    have XBS09 := Lib.hid bx
    clear bx
    have bx : Bx w9 (w6.heap.size) [.float .f32 Gs0, .float .f32 Gs1, .float .f32 Gs2, .float .f32 Gs3, .float .f32 Gs4] := XBG08.out.below hw XBG08.out.1
    have XBG09 := Lib.hid bx
    clear bx
    clear cA00 cA01 cA02 cA03 cA04 cBS00 cBS01 cBS02 cBS03 cBS04 cBG00 cBG01 cBG02 cBG03 cBG04
    have HB9 := Lib.hid hB
    have hs9 : w.heap.size ≤ w9.heap.size := HB9.out.size
    clear hB hw hb
    have cA00 := XA09.out.c 0 rfl
    have cA01 := XA09.out.c 1 rfl
    have cA02 := XA09.out.c 2 rfl
    have cA03 := XA09.out.c 3 rfl
    have cA04 := XA09.out.c 4 rfl
    have cBS00 := XBS09.out.c 0 rfl
    have cBS01 := XBS09.out.c 1 rfl
    have cBS02 := XBS09.out.c 2 rfl
    have cBS03 := XBS09.out.c 3 rfl
    have cBS04 := XBS09.out.c 4 rfl
    have cBG00 := XBG09.out.c 0 rfl
    have cBG01 := XBG09.out.c 1 rfl
    have cBG02 := XBG09.out.c 2 rfl
    have cBG03 := XBG09.out.c 3 rfl
    have cBG04 := XBG09.out.c 4 rfl
    go_wp2_with fail
    refine (copyF_any a1 cap1 zs1 _ (by first | exact (H1.out.below HB9.out (Nat.le_refl _)) | exact ((H1.out.below HB9.out (Nat.le_refl _))).below (by repeat (first | with_reducible exact Below.refl _ _ | with_reducible refine beld ?_ _ | (with_reducible refine Below.alloc ?_ ?_ _; rotate_left; exact (by first | (simp; done) | (simp; omega) | omega)) | (with_reducible refine Below.setCell ?_ ?_ _; rotate_left; exact (by first | (simp; done) | (simp; omega) | omega)))) (Nat.le_refl _)) hl1).mono ?_
    rintro e w10 ⟨aE1, capE1, rfl, hb, hf⟩
    have hw : Below w9.heap.size w9 w10 := Below.trans (by repeat (first | with_reducible exact Below.refl _ _ | with_reducible refine beld ?_ _ | (with_reducible refine Below.alloc ?_ ?_ _; rotate_left; exact (by first | (simp; done) | (simp; omega) | omega)) | (with_reducible refine Below.setCell ?_ ?_ _; rotate_left; exact (by first | (simp; done) | (simp; omega) | omega)))) (hb.mono (by first | (simp; done) | (simp; omega) | omega))
    have hB : Below w.heap.size w w10 := HB9.out.trans (hw.mono HB9.out.size)
    have hz10 : w9.heap.size ≤ w10.heap.size := hw.size
    have FS110 := Lib.hid (FS19.out.below hw FS19.out.2.2)
    have tS110 := FS110.out.2.2
    have FS210 := Lib.hid (FS29.out.below hw FS29.out.2.2)
    have tS210 := FS210.out.2.2
    have FX110 := Lib.hid (FX19.out.below hw FX19.out.2.2)
    have tX110 := FX110.out.2.2
    have FG110 := Lib.hid (FG19.out.below hw FG19.out.2.2)
    have tG110 := FG110.out.2.2
    have FG210 := Lib.hid (FG29.out.below hw FG29.out.2.2)
    have tG210 := FG210.out.2.2
    have bx : Bx w10 (w.heap.size) [.float .f32 p0, .float .f32 p1, .float .f32 p2, .float .f32 p3, .float .f32 p4] := XA09.out.below hw XA09.out.1
    have XA010 := Lib.hid bx
    clear bx
    have bx : Bx w10 (w3.heap.size) [.float .f32 Ss0, .float .f32 Ss1, .float .f32 Ss2, .float .f32 Ss3, .float .f32 Ss4] := XBS09.out.below hw XBS09.out.1
    have XBS010 := Lib.hid bx
    clear bx
    have bx : Bx w10 (w6.heap.size) [.float .f32 Gs0, .float .f32 Gs1, .float .f32 Gs2, .float .f32 Gs3, .float .f32 Gs4] := XBG09.out.below hw XBG09.out.1
    have XBG010 := Lib.hid bx
    clear bx
    clear cA00 cA01 cA02 cA03 cA04 cBS00 cBS01 cBS02 cBS03 cBS04 cBG00 cBG01 cBG02 cBG03 cBG04
    have FE110 := Lib.hid (hf.mono (lo' := w9.heap.size) (by first | (simp; done) | (simp; omega) | omega) (Nat.le_refl _) (Nat.le_refl _))
    have tE110 := FE110.out.2.2
    have HB10 := Lib.hid hB
    have hs10 : w.heap.size ≤ w10.heap.size := HB10.out.size
    clear hB hw hb
    have cA00 := XA010.out.c 0 rfl
    have cA01 := XA010.out.c 1 rfl
    have cA02 := XA010.out.c 2 rfl
    have cA03 := XA010.out.c 3 rfl
    have cA04 := XA010.out.c 4 rfl
    have cBS00 := XBS010.out.c 0 rfl
    have cBS01 := XBS010.out.c 1 rfl
    have cBS02 := XBS010.out.c 2 rfl
    have cBS03 := XBS010.out.c 3 rfl
    have cBS04 := XBS010.out.c 4 rfl
    have cBG00 := XBG010.out.c 0 rfl
    have cBG01 := XBG010.out.c 1 rfl
    have cBG02 := XBG010.out.c 2 rfl
    have cBG03 := XBG010.out.c 3 rfl
    have cBG04 := XBG010.out.c 4 rfl
    go_wp2_with fail
    refine (eqF_b aX1 aE1 capX1 capE1 zs1 _ (by first | exact FX110.out.row | exact (FX110.out.alloc _).row) (by first | exact FE110.out.row | exact (FE110.out.alloc _).row) hl1).mono ?_
    rintro e w11 ⟨rfl, hb⟩
    have hw : Below w10.heap.size w10 w11 := Below.trans (by repeat (first | with_reducible exact Below.refl _ _ | with_reducible refine beld ?_ _ | (with_reducible refine Below.alloc ?_ ?_ _; rotate_left; exact (by first | (simp; done) | (simp; omega) | omega)) | (with_reducible refine Below.setCell ?_ ?_ _; rotate_left; exact (by first | (simp; done) | (simp; omega) | omega)))) (hb.mono (by first | (simp; done) | (simp; omega) | omega))
    have hB : Below w.heap.size w w11 := HB10.out.trans (hw.mono HB10.out.size)
    have hz11 : w10.heap.size ≤ w11.heap.size := hw.size
    have FS111 := Lib.hid (FS110.out.below hw FS110.out.2.2)
    have tS111 := FS111.out.2.2
    have FS211 := Lib.hid (FS210.out.below hw FS210.out.2.2)
    have tS211 := FS211.out.2.2
    have FX111 := Lib.hid (FX110.out.below hw FX110.out.2.2)
    have tX111 := FX111.out.2.2
    have FG111 := Lib.hid (FG110.out.below hw FG110.out.2.2)
    have tG111 := FG111.out.2.2
    have FG211 := Lib.hid (FG210.out.below hw FG210.out.2.2)
    have tG211 := FG211.out.2.2
    have FE111 := Lib.hid (FE110.out.below hw FE110.out.2.2)
    have tE111 := FE111.out.2.2
    have bx : Bx w11 (w.heap.size) [.float .f32 p0, .float .f32 p1, .float .f32 p2, .float .f32 p3, .float .f32 p4] := XA010.out.below hw XA010.out.1
    have XA011 := Lib.hid bx
    clear bx
    have bx : Bx w11 (w3.heap.size) [.float .f32 Ss0, .float .f32 Ss1, .float .f32 Ss2, .float .f32 Ss3, .float .f32 Ss4] := XBS010.out.below hw XBS010.out.1
    have XBS011 := Lib.hid bx
    clear bx
    have bx : Bx w11 (w6.heap.size) [.float .f32 Gs0, .float .f32 Gs1, .float .f32 Gs2, .float .f32 Gs3, .float .f32 Gs4] := XBG010.out.below hw XBG010.out.1
    have XBG011 := Lib.hid bx
    clear bx
    clear cA00 cA01 cA02 cA03 cA04 cBS00 cBS01 cBS02 cBS03 cBS04 cBG00 cBG01 cBG02 cBG03 cBG04
    have HB11 := Lib.hid hB
    have hs11 : w.heap.size ≤ w11.heap.size := HB11.out.size
    clear hB hw hb
    have cA00 := XA011.out.c 0 rfl
    have cA01 := XA011.out.c 1 rfl
    have cA02 := XA011.out.c 2 rfl
    have cA03 := XA011.out.c 3 rfl
    have cA04 := XA011.out.c 4 rfl
    have cBS00 := XBS011.out.c 0 rfl
    have cBS01 := XBS011.out.c 1 rfl
    have cBS02 := XBS011.out.c 2 rfl
    have cBS03 := XBS011.out.c 3 rfl
    have cBS04 := XBS011.out.c 4 rfl
    have cBG00 := XBG011.out.c 0 rfl
    have cBG01 := XBG011.out.c 1 rfl
    have cBG02 := XBG011.out.c 2 rfl
    have cBG03 := XBG011.out.c 3 rfl
    have cBG04 := XBG011.out.c 4 rfl
    go_wp2_with fail
    refine (markF_any (w3.heap.size + 1) (w4.heap.size) (1) aX1 capX1 zs1 _ (by first | exact FX111.out | exact (FX111.out.alloc _)) hl1 (by omega)).mono ?_
    rintro e w12 ⟨rfl, hf, hk⟩
    have hw : Kept (w3.heap.size + 1) (w4.heap.size) w11 w12 := (Kept.of_below (by repeat (first | with_reducible exact Below.refl _ _ | with_reducible refine beld ?_ _ | (with_reducible refine Below.alloc ?_ ?_ _; rotate_left; exact (by first | (simp; done) | (simp; omega) | omega)) | (with_reducible refine Below.setCell ?_ ?_ _; rotate_left; exact (by first | (simp; done) | (simp; omega) | omega)))) (Nat.le_refl _)).trans hk
    have hB : Below w.heap.size w w12 := HB11.out.trans (hw.below (by omega) (by omega))
    have hz12 : w11.heap.size ≤ w12.heap.size := hw.size
    have FS112 := Lib.hid (FS111.out.kept hw (by omega))
    have tS112 := FS112.out.2.2
    have FS212 := Lib.hid (FS211.out.kept hw (by omega))
    have tS212 := FS212.out.2.2
    have FG112 := Lib.hid (FG111.out.kept hw (by omega))
    have tG112 := FG112.out.2.2
    have FG212 := Lib.hid (FG211.out.kept hw (by omega))
    have tG212 := FG212.out.2.2
    have bx : Bx w12 (w.heap.size) [.float .f32 p0, .float .f32 p1, .float .f32 p2, .float .f32 p3, .float .f32 p4] := XA011.out.kept hw (by have := XA011.out.1; omega)
    have XA012 := Lib.hid bx
    clear bx
    have bx : Bx w12 (w3.heap.size) [.float .f32 Ss0, .float .f32 Ss1, .float .f32 Ss2, .float .f32 Ss3, .float .f32 Ss4] := XBS011.out.kept hw (by have := XBS011.out.1; omega)
    have XBS012 := Lib.hid bx
    clear bx
    have bx : Bx w12 (w6.heap.size) [.float .f32 Gs0, .float .f32 Gs1, .float .f32 Gs2, .float .f32 Gs3, .float .f32 Gs4] := XBG011.out.kept hw (by have := XBG011.out.1; omega)
    have XBG012 := Lib.hid bx
    clear bx
    clear cA00 cA01 cA02 cA03 cA04 cBS00 cBS01 cBS02 cBS03 cBS04 cBG00 cBG01 cBG02 cBG03 cBG04
    have FX112 := Lib.hid hf
    have tX112 := FX112.out.2.2
    have HB12 := Lib.hid hB
    have hs12 : w.heap.size ≤ w12.heap.size := HB12.out.size
    clear hB hw hk
    have cA00 := XA012.out.c 0 rfl
    have cA01 := XA012.out.c 1 rfl
    have cA02 := XA012.out.c 2 rfl
    have cA03 := XA012.out.c 3 rfl
    have cA04 := XA012.out.c 4 rfl
    have cBS00 := XBS012.out.c 0 rfl
    have cBS01 := XBS012.out.c 1 rfl
    have cBS02 := XBS012.out.c 2 rfl
    have cBS03 := XBS012.out.c 3 rfl
    have cBS04 := XBS012.out.c 4 rfl
    have cBG00 := XBG012.out.c 0 rfl
    have cBG01 := XBG012.out.c 1 rfl
    have cBG02 := XBG012.out.c 2 rfl
    have cBG03 := XBG012.out.c 3 rfl
    have cBG04 := XBG012.out.c 4 rfl
    have hcX1 : ¬ (((1 + zs1.length) : Nat) : Int) < 0 := by omega
    go_wp2_with fail
    refine (eqSoil_o _ Gi0 Si0 Gi1 Si1 Gi2 Si2 Gi3 Si3 Gi4 Si4).mono ?_
    rintro e w13 ⟨rfl, hb⟩
    have hw : Below w12.heap.size w12 w13 := Below.trans (by repeat (first | with_reducible exact Below.refl _ _ | with_reducible refine beld ?_ _ | (with_reducible refine Below.alloc ?_ ?_ _; rotate_left; exact (by first | (simp; done) | (simp; omega) | omega)) | (with_reducible refine Below.setCell ?_ ?_ _; rotate_left; exact (by first | (simp; done) | (simp; omega) | omega)))) (hb.mono (by first | (simp; done) | (simp; omega) | omega))
    have hB : Below w.heap.size w w13 := HB12.out.trans (hw.mono HB12.out.size)
    have hz13 : w12.heap.size ≤ w13.heap.size := hw.size
    have FS113 := Lib.hid (FS112.out.below hw FS112.out.2.2)
    have tS113 := FS113.out.2.2
    have FS213 := Lib.hid (FS212.out.below hw FS212.out.2.2)
    have tS213 := FS213.out.2.2
    have FG113 := Lib.hid (FG112.out.below hw FG112.out.2.2)
    have tG113 := FG113.out.2.2
    have FG213 := Lib.hid (FG212.out.below hw FG212.out.2.2)
    have tG213 := FG213.out.2.2
    have bx : Bx w13 (w.heap.size) [.float .f32 p0, .float .f32 p1, .float .f32 p2, .float .f32 p3, .float .f32 p4] := XA012.out.below hw XA012.out.1
    have XA013 := Lib.hid bx
    clear bx
    have bx : Bx w13 (w3.heap.size) [.float .f32 Ss0, .float .f32 Ss1, .float .f32 Ss2, .float .f32 Ss3, .float .f32 Ss4] := XBS012.out.below hw XBS012.out.1
    have XBS013 := Lib.hid bx
    clear bx
    have bx : Bx w13 (w6.heap.size) [.float .f32 Gs0, .float .f32 Gs1, .float .f32 Gs2, .float .f32 Gs3, .float .f32 Gs4] := XBG012.out.below hw XBG012.out.1
    have XBG013 := Lib.hid bx
    clear bx
    clear cA00 cA01 cA02 cA03 cA04 cBS00 cBS01 cBS02 cBS03 cBS04 cBG00 cBG01 cBG02 cBG03 cBG04
    have HB13 := Lib.hid hB
    have hs13 : w.heap.size ≤ w13.heap.size := HB13.out.size
    clear hB hw hb
    have cA00 := XA013.out.c 0 rfl
    have cA01 := XA013.out.c 1 rfl
    have cA02 := XA013.out.c 2 rfl
    have cA03 := XA013.out.c 3 rfl
    have cA04 := XA013.out.c 4 rfl
    have cBS00 := XBS013.out.c 0 rfl
    have cBS01 := XBS013.out.c 1 rfl
    have cBS02 := XBS013.out.c 2 rfl
    have cBS03 := XBS013.out.c 3 rfl
    have cBS04 := XBS013.out.c 4 rfl
    have cBG00 := XBG013.out.c 0 rfl
    have cBG01 := XBG013.out.c 1 rfl
    have cBG02 := XBG013.out.c 2 rfl
    have cBG03 := XBG013.out.c 3 rfl
    have cBG04 := XBG013.out.c 4 rfl
    go_wp2_with fail
    refine (eqF_b aG1 aS1 capG1 capS1 Z1 _ (by first | exact FG113.out.row | exact (FG113.out.alloc _).row) (by first | exact FS113.out.row | exact (FS113.out.alloc _).row) hlG1).mono ?_
    rintro e w14 ⟨rfl, hb⟩
    have hw : Below w13.heap.size w13 w14 := Below.trans (by repeat (first | with_reducible exact Below.refl _ _ | with_reducible refine beld ?_ _ | (with_reducible refine Below.alloc ?_ ?_ _; rotate_left; exact (by first | (simp; done) | (simp; omega) | omega)) | (with_reducible refine Below.setCell ?_ ?_ _; rotate_left; exact (by first | (simp; done) | (simp; omega) | omega)))) (hb.mono (by first | (simp; done) | (simp; omega) | omega))
    have hB : Below w.heap.size w w14 := HB13.out.trans (hw.mono HB13.out.size)
    have hz14 : w13.heap.size ≤ w14.heap.size := hw.size
    have FS114 := Lib.hid (FS113.out.below hw FS113.out.2.2)
    have tS114 := FS114.out.2.2
    have FS214 := Lib.hid (FS213.out.below hw FS213.out.2.2)
    have tS214 := FS214.out.2.2
    have FG114 := Lib.hid (FG113.out.below hw FG113.out.2.2)
    have tG114 := FG114.out.2.2
    have FG214 := Lib.hid (FG213.out.below hw FG213.out.2.2)
    have tG214 := FG214.out.2.2
    have bx : Bx w14 (w.heap.size) [.float .f32 p0, .float .f32 p1, .float .f32 p2, .float .f32 p3, .float .f32 p4] := XA013.out.below hw XA013.out.1
    have XA014 := Lib.hid bx
    clear bx
    have bx : Bx w14 (w3.heap.size) [.float .f32 Ss0, .float .f32 Ss1, .float .f32 Ss2, .float .f32 Ss3, .float .f32 Ss4] := XBS013.out.below hw XBS013.out.1
    have XBS014 := Lib.hid bx
    clear bx
    have bx : Bx w14 (w6.heap.size) [.float .f32 Gs0, .float .f32 Gs1, .float .f32 Gs2, .float .f32 Gs3, .float .f32 Gs4] := XBG013.out.below hw XBG013.out.1
    have XBG014 := Lib.hid bx
    clear bx
    clear cA00 cA01 cA02 cA03 cA04 cBS00 cBS01 cBS02 cBS03 cBS04 cBG00 cBG01 cBG02 cBG03 cBG04
    have HB14 := Lib.hid hB
    have hs14 : w.heap.size ≤ w14.heap.size := HB14.out.size
    clear hB hw hb
    have cA00 := XA014.out.c 0 rfl
    have cA01 := XA014.out.c 1 rfl
    have cA02 := XA014.out.c 2 rfl
    have cA03 := XA014.out.c 3 rfl
    have cA04 := XA014.out.c 4 rfl
    have cBS00 := XBS014.out.c 0 rfl
    have cBS01 := XBS014.out.c 1 rfl
    have cBS02 := XBS014.out.c 2 rfl
    have cBS03 := XBS014.out.c 3 rfl
    have cBS04 := XBS014.out.c 4 rfl
    have cBG00 := XBG014.out.c 0 rfl
    have cBG01 := XBG014.out.c 1 rfl
    have cBG02 := XBG014.out.c 2 rfl
    have cBG03 := XBG014.out.c 3 rfl
    have cBG04 := XBG014.out.c 4 rfl
    go_wp2_with fail
    refine (eqF_b aG2 aS2 capG2 capS2 Z2 _ (by first | exact FG214.out.row | exact (FG214.out.alloc _).row) (by first | exact FS214.out.row | exact (FS214.out.alloc _).row) hlG2).mono ?_
    rintro e w15 ⟨rfl, hb⟩
    have hw : Below w14.heap.size w14 w15 := Below.trans (by repeat (first | with_reducible exact Below.refl _ _ | with_reducible refine beld ?_ _ | (with_reducible refine Below.alloc ?_ ?_ _; rotate_left; exact (by first | (simp; done) | (simp; omega) | omega)) | (with_reducible refine Below.setCell ?_ ?_ _; rotate_left; exact (by first | (simp; done) | (simp; omega) | omega)))) (hb.mono (by first | (simp; done) | (simp; omega) | omega))
    have hB : Below w.heap.size w w15 := HB14.out.trans (hw.mono HB14.out.size)
    have hz15 : w14.heap.size ≤ w15.heap.size := hw.size
    have FS115 := Lib.hid (FS114.out.below hw FS114.out.2.2)
    have tS115 := FS115.out.2.2
    have FS215 := Lib.hid (FS214.out.below hw FS214.out.2.2)
    have tS215 := FS215.out.2.2
    have FG115 := Lib.hid (FG114.out.below hw FG114.out.2.2)
    have tG115 := FG115.out.2.2
    have FG215 := Lib.hid (FG214.out.below hw FG214.out.2.2)
    have tG215 := FG215.out.2.2
    have bx : Bx w15 (w.heap.size) [.float .f32 p0, .float .f32 p1, .float .f32 p2, .float .f32 p3, .float .f32 p4] := XA014.out.below hw XA014.out.1
    have XA015 := Lib.hid bx
    clear bx
    have bx : Bx w15 (w3.heap.size) [.float .f32 Ss0, .float .f32 Ss1, .float .f32 Ss2, .float .f32 Ss3, .float .f32 Ss4] := XBS014.out.below hw XBS014.out.1
    have XBS015 := Lib.hid bx
    clear bx
    have bx : Bx w15 (w6.heap.size) [.float .f32 Gs0, .float .f32 Gs1, .float .f32 Gs2, .float .f32 Gs3, .float .f32 Gs4] := XBG014.out.below hw XBG014.out.1
    have XBG015 := Lib.hid bx
    clear bx
    clear cA00 cA01 cA02 cA03 cA04 cBS00 cBS01 cBS02 cBS03 cBS04 cBG00 cBG01 cBG02 cBG03 cBG04
    have HB15 := Lib.hid hB
    have hs15 : w.heap.size ≤ w15.heap.size := HB15.out.size
    clear hB hw hb
    have cA00 := XA015.out.c 0 rfl
    have cA01 := XA015.out.c 1 rfl
    have cA02 := XA015.out.c 2 rfl
    have cA03 := XA015.out.c 3 rfl
    have cA04 := XA015.out.c 4 rfl
    have cBS00 := XBS015.out.c 0 rfl
    have cBS01 := XBS015.out.c 1 rfl
    have cBS02 := XBS015.out.c 2 rfl
    have cBS03 := XBS015.out.c 3 rfl
    have cBS04 := XBS015.out.c 4 rfl
    have cBG00 := XBG015.out.c 0 rfl
    have cBG01 := XBG015.out.c 1 rfl
    have cBG02 := XBG015.out.c 2 rfl
    have cBG03 := XBG015.out.c 3 rfl
    have cBG04 := XBG015.out.c 4 rfl
    go_wp2_with fail
    refine (markF_any (loG1) (hiG1) (1) aG1 capG1 Z1 _ (by first | exact FG115.out | exact (FG115.out.alloc _)) hlG1 (by omega)).mono ?_
    rintro e w16 ⟨rfl, hf, hk⟩
    have hw : Kept (loG1) (hiG1) w15 w16 := (Kept.of_below (by repeat (first | with_reducible exact Below.refl _ _ | with_reducible refine beld ?_ _ | (with_reducible refine Below.alloc ?_ ?_ _; rotate_left; exact (by first | (simp; done) | (simp; omega) | omega)) | (with_reducible refine Below.setCell ?_ ?_ _; rotate_left; exact (by first | (simp; done) | (simp; omega) | omega)))) (Nat.le_refl _)).trans hk
    have hB : Below w.heap.size w w16 := HB15.out.trans (hw.below (by omega) (by omega))
    have hz16 : w15.heap.size ≤ w16.heap.size := hw.size
    have FS116 := Lib.hid (FS115.out.kept hw (by omega))
    have tS116 := FS116.out.2.2
    have FS216 := Lib.hid (FS215.out.kept hw (by omega))
    have tS216 := FS216.out.2.2
    have FG216 := Lib.hid (FG215.out.kept hw (by omega))
    have tG216 := FG216.out.2.2
    have bx : Bx w16 (w.heap.size) [.float .f32 p0, .float .f32 p1, .float .f32 p2, .float .f32 p3, .float .f32 p4] := XA015.out.kept hw (by have := XA015.out.1; omega)
    have XA016 := Lib.hid bx
    clear bx
    have bx : Bx w16 (w3.heap.size) [.float .f32 Ss0, .float .f32 Ss1, .float .f32 Ss2, .float .f32 Ss3, .float .f32 Ss4] := XBS015.out.kept hw (by have := XBS015.out.1; omega)
    have XBS016 := Lib.hid bx
    clear bx
    have bx : Bx w16 (w6.heap.size) [.float .f32 Gs0, .float .f32 Gs1, .float .f32 Gs2, .float .f32 Gs3, .float .f32 Gs4] := XBG015.out.kept hw (by have := XBG015.out.1; omega)
    have XBG016 := Lib.hid bx
    clear bx
    clear cA00 cA01 cA02 cA03 cA04 cBS00 cBS01 cBS02 cBS03 cBS04 cBG00 cBG01 cBG02 cBG03 cBG04
    have FG116 := Lib.hid hf
    have tG116 := FG116.out.2.2
    have HB16 := Lib.hid hB
    have hs16 : w.heap.size ≤ w16.heap.size := HB16.out.size
    clear hB hw hk
    have cA00 := XA016.out.c 0 rfl
    have cA01 := XA016.out.c 1 rfl
    have cA02 := XA016.out.c 2 rfl
    have cA03 := XA016.out.c 3 rfl
    have cA04 := XA016.out.c 4 rfl
    have cBS00 := XBS016.out.c 0 rfl
    have cBS01 := XBS016.out.c 1 rfl
    have cBS02 := XBS016.out.c 2 rfl
    have cBS03 := XBS016.out.c 3 rfl
    have cBS04 := XBS016.out.c 4 rfl
    have cBG00 := XBG016.out.c 0 rfl
    have cBG01 := XBG016.out.c 1 rfl
    have cBG02 := XBG016.out.c 2 rfl
    have cBG03 := XBG016.out.c 3 rfl
    have cBG04 := XBG016.out.c 4 rfl
    have hcG1 : ¬ (((1 + Z1.length) : Nat) : Int) < 0 := by omega
    go_wp2_with fail
    refine (markF_any (loG2) (hiG2) ((1 + Z1.length)) aG2 capG2 Z2 _ (by first | exact FG216.out | exact (FG216.out.alloc _)) hlG2 (by omega)).mono ?_
    rintro e w17 ⟨rfl, hf, hk⟩
    have hw : Kept (loG2) (hiG2) w16 w17 := (Kept.of_below (by repeat (first | with_reducible exact Below.refl _ _ | with_reducible refine beld ?_ _ | (with_reducible refine Below.alloc ?_ ?_ _; rotate_left; exact (by first | (simp; done) | (simp; omega) | omega)) | (with_reducible refine Below.setCell ?_ ?_ _; rotate_left; exact (by first | (simp; done) | (simp; omega) | omega)))) (Nat.le_refl _)).trans hk
    have hB : Below w.heap.size w w17 := HB16.out.trans (hw.below (by omega) (by omega))
    have hz17 : w16.heap.size ≤ w17.heap.size := hw.size
    have FS117 := Lib.hid (FS116.out.kept hw (by omega))
    have tS117 := FS117.out.2.2
    have FS217 := Lib.hid (FS216.out.kept hw (by omega))
    have tS217 := FS217.out.2.2
    have FG117 := Lib.hid (FG116.out.kept hw (by omega))
    have tG117 := FG117.out.2.2
    have bx : Bx w17 (w.heap.size) [.float .f32 p0, .float .f32 p1, .float .f32 p2, .float .f32 p3, .float .f32 p4] := XA016.out.kept hw (by have := XA016.out.1; omega)
    have XA017 := Lib.hid bx
    clear bx
    have bx : Bx w17 (w3.heap.size) [.float .f32 Ss0, .float .f32 Ss1, .float .f32 Ss2, .float .f32 Ss3, .float .f32 Ss4] := XBS016.out.kept hw (by have := XBS016.out.1; omega)
    have XBS017 := Lib.hid bx
    clear bx
    have bx : Bx w17 (w6.heap.size) [.float .f32 Gs0, .float .f32 Gs1, .float .f32 Gs2, .float .f32 Gs3, .float .f32 Gs4] := XBG016.out.kept hw (by have := XBG016.out.1; omega)
    have XBG017 := Lib.hid bx
    clear bx
    clear cA00 cA01 cA02 cA03 cA04 cBS00 cBS01 cBS02 cBS03 cBS04 cBG00 cBG01 cBG02 cBG03 cBG04
    have FG217 := Lib.hid hf
    have tG217 := FG217.out.2.2
    have HB17 := Lib.hid hB
    have hs17 : w.heap.size ≤ w17.heap.size := HB17.out.size
    clear hB hw hk
    have cA00 := XA017.out.c 0 rfl
    have cA01 := XA017.out.c 1 rfl
    have cA02 := XA017.out.c 2 rfl
    have cA03 := XA017.out.c 3 rfl
    have cA04 := XA017.out.c 4 rfl
    have cBS00 := XBS017.out.c 0 rfl
    have cBS01 := XBS017.out.c 1 rfl
    have cBS02 := XBS017.out.c 2 rfl
    have cBS03 := XBS017.out.c 3 rfl
    have cBS04 := XBS017.out.c 4 rfl
    have cBG00 := XBG017.out.c 0 rfl
    have cBG01 := XBG017.out.c 1 rfl
    have cBG02 := XBG017.out.c 2 rfl
    have cBG03 := XBG017.out.c 3 rfl
    have cBG04 := XBG017.out.c 4 rfl
    have hcG2 : ¬ ((((1 + Z1.length) + Z2.length) : Nat) : Int) < 0 := by omega
    go_wp2_with fail
    refine (heldF_any (loG1) (hiG1) (1) Z1.length aG1 capG1 _ (by first | exact FG117.out | exact FG117.out.alloc _) hlG1 (by omega)).mono ?_
    rintro e w' ⟨rfl, rfl⟩
    go_wp2_with fail
    refine (heldF_any (loG2) (hiG2) ((1 + Z1.length)) Z2.length aG2 capG2 _ (by first | exact FG217.out | exact FG217.out.alloc _) hlG2 (by omega)).mono ?_
    rintro e w' ⟨rfl, rfl⟩
    go_wp2_with fail
    refine (toSoil_o _ _ _ _ _  _).mono ?_
    rintro e w18 ⟨rfl, hb⟩
    have hw : Below w17.heap.size w17 w18 := Below.trans (by repeat (first | with_reducible exact Below.refl _ _ | with_reducible refine beld ?_ _ | (with_reducible refine Below.alloc ?_ ?_ _; rotate_left; exact (by first | (simp; done) | (simp; omega) | omega)) | (with_reducible refine Below.setCell ?_ ?_ _; rotate_left; exact (by first | (simp; done) | (simp; omega) | omega)))) (hb.mono (by first | (simp; done) | (simp; omega) | omega))
    have hB : Below w.heap.size w w18 := HB17.out.trans (hw.mono HB17.out.size)
    have hz18 : w17.heap.size ≤ w18.heap.size := hw.size
    have FS118 := Lib.hid (FS117.out.below hw FS117.out.2.2)
    have tS118 := FS118.out.2.2
    have FS218 := Lib.hid (FS217.out.below hw FS217.out.2.2)
    have tS218 := FS218.out.2.2
    have FG118 := Lib.hid (FG117.out.below hw FG117.out.2.2)
    have tG118 := FG118.out.2.2
    have FG218 := Lib.hid (FG217.out.below hw FG217.out.2.2)
    have tG218 := FG218.out.2.2
    have bx : Bx w18 (w.heap.size) [.float .f32 p0, .float .f32 p1, .float .f32 p2, .float .f32 p3, .float .f32 p4] := XA017.out.below hw XA017.out.1
    have XA018 := Lib.hid bx
    clear bx
    have bx : Bx w18 (w3.heap.size) [.float .f32 Ss0, .float .f32 Ss1, .float .f32 Ss2, .float .f32 Ss3, .float .f32 Ss4] := XBS017.out.below hw XBS017.out.1
    have XBS018 := Lib.hid bx
    clear bx
    have bx : Bx w18 (w6.heap.size) [.float .f32 Gs0, .float .f32 Gs1, .float .f32 Gs2, .float .f32 Gs3, .float .f32 Gs4] := XBG017.out.below hw XBG017.out.1
    have XBG018 := Lib.hid bx
    clear bx
    clear cA00 cA01 cA02 cA03 cA04 cBS00 cBS01 cBS02 cBS03 cBS04 cBG00 cBG01 cBG02 cBG03 cBG04
    have HB18 := Lib.hid hB
    have hs18 : w.heap.size ≤ w18.heap.size := HB18.out.size
    clear hB hw hb
    have cA00 := XA018.out.c 0 rfl
    have cA01 := XA018.out.c 1 rfl
    have cA02 := XA018.out.c 2 rfl
    have cA03 := XA018.out.c 3 rfl
    have cA04 := XA018.out.c 4 rfl
    have cBS00 := XBS018.out.c 0 rfl
    have cBS01 := XBS018.out.c 1 rfl
    have cBS02 := XBS018.out.c 2 rfl
    have cBS03 := XBS018.out.c 3 rfl
    have cBS04 := XBS018.out.c 4 rfl
    have cBG00 := XBG018.out.c 0 rfl
    have cBG01 := XBG018.out.c 1 rfl
    have cBG02 := XBG018.out.c 2 rfl
    have cBG03 := XBG018.out.c 3 rfl
    have cBG04 := XBG018.out.c 4 rfl
    go_wp2_with fail
    refine (copyF_any a1 cap1 zs1 _ (by first | exact (H1.out.below HB18.out (Nat.le_refl _)) | exact ((H1.out.below HB18.out (Nat.le_refl _))).below (by repeat (first | with_reducible exact Below.refl _ _ | with_reducible refine beld ?_ _ | (with_reducible refine Below.alloc ?_ ?_ _; rotate_left; exact (by first | (simp; done) | (simp; omega) | omega)) | (with_reducible refine Below.setCell ?_ ?_ _; rotate_left; exact (by first | (simp; done) | (simp; omega) | omega)))) (Nat.le_refl _)) hl1).mono ?_
    rintro e w19 ⟨aIc1, capIc1, rfl, hb, hf⟩
    have hw : Below w18.heap.size w18 w19 := Below.trans (by repeat (first | with_reducible exact Below.refl _ _ | with_reducible refine beld ?_ _ | (with_reducible refine Below.alloc ?_ ?_ _; rotate_left; exact (by first | (simp; done) | (simp; omega) | omega)) | (with_reducible refine Below.setCell ?_ ?_ _; rotate_left; exact (by first | (simp; done) | (simp; omega) | omega)))) (hb.mono (by first | (simp; done) | (simp; omega) | omega))
    have hB : Below w.heap.size w w19 := HB18.out.trans (hw.mono HB18.out.size)
    have hz19 : w18.heap.size ≤ w19.heap.size := hw.size
    have FS119 := Lib.hid (FS118.out.below hw FS118.out.2.2)
    have tS119 := FS119.out.2.2
    have FS219 := Lib.hid (FS218.out.below hw FS218.out.2.2)
    have tS219 := FS219.out.2.2
    have FG119 := Lib.hid (FG118.out.below hw FG118.out.2.2)
    have tG119 := FG119.out.2.2
    have FG219 := Lib.hid (FG218.out.below hw FG218.out.2.2)
    have tG219 := FG219.out.2.2
    have bx : Bx w19 (w.heap.size) [.float .f32 p0, .float .f32 p1, .float .f32 p2, .float .f32 p3, .float .f32 p4] := XA018.out.below hw XA018.out.1
    have XA019 := Lib.hid bx
    clear bx
    have bx : Bx w19 (w3.heap.size) [.float .f32 Ss0, .float .f32 Ss1, .float .f32 Ss2, .float .f32 Ss3, .float .f32 Ss4] := XBS018.out.below hw XBS018.out.1
    have XBS019 := Lib.hid bx
    clear bx
    have bx : Bx w19 (w6.heap.size) [.float .f32 Gs0, .float .f32 Gs1, .float .f32 Gs2, .float .f32 Gs3, .float .f32 Gs4] := XBG018.out.below hw XBG018.out.1
    have XBG019 := Lib.hid bx
    clear bx
    clear cA00 cA01 cA02 cA03 cA04 cBS00 cBS01 cBS02 cBS03 cBS04 cBG00 cBG01 cBG02 cBG03 cBG04
    have FIc119 := Lib.hid (hf.mono (lo' := w18.heap.size) (by first | (simp; done) | (simp; omega) | omega) (Nat.le_refl _) (Nat.le_refl _))
    have tIc119 := FIc119.out.2.2
    have HB19 := Lib.hid hB
    have hs19 : w.heap.size ≤ w19.heap.size := HB19.out.size
    clear hB hw hb
    have cA00 := XA019.out.c 0 rfl
    have cA01 := XA019.out.c 1 rfl
    have cA02 := XA019.out.c 2 rfl
    have cA03 := XA019.out.c 3 rfl
    have cA04 := XA019.out.c 4 rfl
    have cBS00 := XBS019.out.c 0 rfl
    have cBS01 := XBS019.out.c 1 rfl
    have cBS02 := XBS019.out.c 2 rfl
    have cBS03 := XBS019.out.c 3 rfl
    have cBS04 := XBS019.out.c 4 rfl
    have cBG00 := XBG019.out.c 0 rfl
    have cBG01 := XBG019.out.c 1 rfl
    have cBG02 := XBG019.out.c 2 rfl
    have cBG03 := XBG019.out.c 3 rfl
    have cBG04 := XBG019.out.c 4 rfl
    go_wp2_with fail
    refine (HI.out aIc1 capIc1 _ (by first | exact FIc119.out.row | exact (FIc119.out.alloc _).row)).mono ?_
    rintro e w20 ⟨Is0, Is1, Is2, Is3, Is4, aI1, capI1, loI1, hiI1, aI2, capI2, loI2, hiI2, rfl, ⟨Ii0, Ii1, Ii2, Ii3, Ii4⟩, hfI1, hfI2, hpI1, hpI2, hlI1, hlI2, disjI, hb⟩
    have hw : Below w19.heap.size w19 w20 := Below.trans (by repeat (first | with_reducible exact Below.refl _ _ | with_reducible refine beld ?_ _ | (with_reducible refine Below.alloc ?_ ?_ _; rotate_left; exact (by first | (simp; done) | (simp; omega) | omega)) | (with_reducible refine Below.setCell ?_ ?_ _; rotate_left; exact (by first | (simp; done) | (simp; omega) | omega)))) (hb.mono (by first | (simp; done) | (simp; omega) | omega))
    have hB : Below w.heap.size w w20 := HB19.out.trans (hw.mono HB19.out.size)
    have hz20 : w19.heap.size ≤ w20.heap.size := hw.size
    have FS120 := Lib.hid (FS119.out.below hw FS119.out.2.2)
    have tS120 := FS120.out.2.2
    have FS220 := Lib.hid (FS219.out.below hw FS219.out.2.2)
    have tS220 := FS220.out.2.2
    have FG120 := Lib.hid (FG119.out.below hw FG119.out.2.2)
    have tG120 := FG120.out.2.2
    have FG220 := Lib.hid (FG219.out.below hw FG219.out.2.2)
    have tG220 := FG220.out.2.2
    have FIc120 := Lib.hid (FIc119.out.below hw FIc119.out.2.2)
    have tIc120 := FIc120.out.2.2
    have bx : Bx w20 (w.heap.size) [.float .f32 p0, .float .f32 p1, .float .f32 p2, .float .f32 p3, .float .f32 p4] := XA019.out.below hw XA019.out.1
    have XA020 := Lib.hid bx
    clear bx
    have bx : Bx w20 (w3.heap.size) [.float .f32 Ss0, .float .f32 Ss1, .float .f32 Ss2, .float .f32 Ss3, .float .f32 Ss4] := XBS019.out.below hw XBS019.out.1
    have XBS020 := Lib.hid bx
    clear bx
    have bx : Bx w20 (w6.heap.size) [.float .f32 Gs0, .float .f32 Gs1, .float .f32 Gs2, .float .f32 Gs3, .float .f32 Gs4] := XBG019.out.below hw XBG019.out.1
    have XBG020 := Lib.hid bx
    clear bx
    clear cA00 cA01 cA02 cA03 cA04 cBS00 cBS01 cBS02 cBS03 cBS04 cBG00 cBG01 cBG02 cBG03 cBG04
    have FI120 := Lib.hid hfI1
    have tI120 := FI120.out.2.2
    have FI220 := Lib.hid hfI2
    have tI220 := FI220.out.2.2
    have HB20 := Lib.hid hB
    have hs20 : w.heap.size ≤ w20.heap.size := HB20.out.size
    clear hB hw hb
    have cA00 := XA020.out.c 0 rfl
    have cA01 := XA020.out.c 1 rfl
    have cA02 := XA020.out.c 2 rfl
    have cA03 := XA020.out.c 3 rfl
    have cA04 := XA020.out.c 4 rfl
    have cBS00 := XBS020.out.c 0 rfl
    have cBS01 := XBS020.out.c 1 rfl
    have cBS02 := XBS020.out.c 2 rfl
    have cBS03 := XBS020.out.c 3 rfl
    have cBS04 := XBS020.out.c 4 rfl
    have cBG00 := XBG020.out.c 0 rfl
    have cBG01 := XBG020.out.c 1 rfl
    have cBG02 := XBG020.out.c 2 rfl
    have cBG03 := XBG020.out.c 3 rfl
    have cBG04 := XBG020.out.c 4 rfl
    have hpI1' : w19.heap.size ≤ loI1 := Nat.le_trans (by first | (simp; done) | (simp; omega) | omega) hpI1
    have hpI2' : w19.heap.size ≤ loI2 := Nat.le_trans (by first | (simp; done) | (simp; omega) | omega) hpI2
    clear cA00 cA01 cA02 cA03 cA04 cBS00 cBS01 cBS02 cBS03 cBS04 cBG00 cBG01 cBG02 cBG03 cBG04
    have cA00 := (XA020.out.alloc (.cells #[.float .f32 Is0, .float .f32 Is1, .float .f32 Is2, .float .f32 Is3, .float .f32 Is4] 79)).c 0 rfl
    have cA01 := (XA020.out.alloc (.cells #[.float .f32 Is0, .float .f32 Is1, .float .f32 Is2, .float .f32 Is3, .float .f32 Is4] 79)).c 1 rfl
    have cA02 := (XA020.out.alloc (.cells #[.float .f32 Is0, .float .f32 Is1, .float .f32 Is2, .float .f32 Is3, .float .f32 Is4] 79)).c 2 rfl
    have cA03 := (XA020.out.alloc (.cells #[.float .f32 Is0, .float .f32 Is1, .float .f32 Is2, .float .f32 Is3, .float .f32 Is4] 79)).c 3 rfl
    have cA04 := (XA020.out.alloc (.cells #[.float .f32 Is0, .float .f32 Is1, .float .f32 Is2, .float .f32 Is3, .float .f32 Is4] 79)).c 4 rfl
    have cBS00 := (XBS020.out.alloc (.cells #[.float .f32 Is0, .float .f32 Is1, .float .f32 Is2, .float .f32 Is3, .float .f32 Is4] 79)).c 0 rfl
    have cBS01 := (XBS020.out.alloc (.cells #[.float .f32 Is0, .float .f32 Is1, .float .f32 Is2, .float .f32 Is3, .float .f32 Is4] 79)).c 1 rfl
    have cBS02 := (XBS020.out.alloc (.cells #[.float .f32 Is0, .float .f32 Is1, .float .f32 Is2, .float .f32 Is3, .float .f32 Is4] 79)).c 2 rfl
    have cBS03 := (XBS020.out.alloc (.cells #[.float .f32 Is0, .float .f32 Is1, .float .f32 Is2, .float .f32 Is3, .float .f32 Is4] 79)).c 3 rfl
    have cBS04 := (XBS020.out.alloc (.cells #[.float .f32 Is0, .float .f32 Is1, .float .f32 Is2, .float .f32 Is3, .float .f32 Is4] 79)).c 4 rfl
    have cBG00 := (XBG020.out.alloc (.cells #[.float .f32 Is0, .float .f32 Is1, .float .f32 Is2, .float .f32 Is3, .float .f32 Is4] 79)).c 0 rfl
    have cBG01 := (XBG020.out.alloc (.cells #[.float .f32 Is0, .float .f32 Is1, .float .f32 Is2, .float .f32 Is3, .float .f32 Is4] 79)).c 1 rfl
    have cBG02 := (XBG020.out.alloc (.cells #[.float .f32 Is0, .float .f32 Is1, .float .f32 Is2, .float .f32 Is3, .float .f32 Is4] 79)).c 2 rfl
    have cBG03 := (XBG020.out.alloc (.cells #[.float .f32 Is0, .float .f32 Is1, .float .f32 Is2, .float .f32 Is3, .float .f32 Is4] 79)).c 3 rfl
    have cBG04 := (XBG020.out.alloc (.cells #[.float .f32 Is0, .float .f32 Is1, .float .f32 Is2, .float .f32 Is3, .float .f32 Is4] 79)).c 4 rfl
    go_wp2_with fail
    refine (eqSoil_o _ Ii0 Si0 Ii1 Si1 Ii2 Si2 Ii3 Si3 Ii4 Si4).mono ?_
    rintro e w21 ⟨rfl, hb⟩
    have hw : Below w20.heap.size w20 w21 := Below.trans (by repeat (first | with_reducible exact Below.refl _ _ | with_reducible refine beld ?_ _ | (with_reducible refine Below.alloc ?_ ?_ _; rotate_left; exact (by first | (simp; done) | (simp; omega) | omega)) | (with_reducible refine Below.setCell ?_ ?_ _; rotate_left; exact (by first | (simp; done) | (simp; omega) | omega)))) (hb.mono (by first | (simp; done) | (simp; omega) | omega))
    have hB : Below w.heap.size w w21 := HB20.out.trans (hw.mono HB20.out.size)
    have hz21 : w20.heap.size ≤ w21.heap.size := hw.size
    have hy21 : w20.heap.size < w21.heap.size := (by have := hb.size; (try simp at this); omega)
    have FS121 := Lib.hid (FS120.out.below hw FS120.out.2.2)
    have tS121 := FS121.out.2.2
    have FS221 := Lib.hid (FS220.out.below hw FS220.out.2.2)
    have tS221 := FS221.out.2.2
    have FG121 := Lib.hid (FG120.out.below hw FG120.out.2.2)
    have tG121 := FG121.out.2.2
    have FG221 := Lib.hid (FG220.out.below hw FG220.out.2.2)
    have tG221 := FG221.out.2.2
    have FI121 := Lib.hid (FI120.out.below hw FI120.out.2.2)
    have tI121 := FI121.out.2.2
    have FI221 := Lib.hid (FI220.out.below hw FI220.out.2.2)
    have tI221 := FI221.out.2.2
    have bx : Bx w21 (w.heap.size) [.float .f32 p0, .float .f32 p1, .float .f32 p2, .float .f32 p3, .float .f32 p4] := XA020.out.below hw XA020.out.1
    have XA021 := Lib.hid bx
    clear bx
    have bx : Bx w21 (w3.heap.size) [.float .f32 Ss0, .float .f32 Ss1, .float .f32 Ss2, .float .f32 Ss3, .float .f32 Ss4] := XBS020.out.below hw XBS020.out.1
    have XBS021 := Lib.hid bx
    clear bx
    have bx : Bx w21 (w6.heap.size) [.float .f32 Gs0, .float .f32 Gs1, .float .f32 Gs2, .float .f32 Gs3, .float .f32 Gs4] := XBG020.out.below hw XBG020.out.1
    have XBG021 := Lib.hid bx
    clear bx
    have bx : Bx w21 (w20.heap.size) [.float .f32 Is0, .float .f32 Is1, .float .f32 Is2, .float .f32 Is3, .float .f32 Is4] := (by first | exact Bx.below (Bx.new w20 [_, _, _, _, _] _) hb (by first | (simp; done) | (simp; omega) | omega) | exact Bx.below (Bx.drewN (Bx.new w20 [_, _, _, _, _] _) _) hb (by first | (simp; done) | (simp; omega) | omega))
    have XBI021 := Lib.hid bx
    clear bx
    clear cA00 cA01 cA02 cA03 cA04 cBS00 cBS01 cBS02 cBS03 cBS04 cBG00 cBG01 cBG02 cBG03 cBG04
    have HB21 := Lib.hid hB
    have hs21 : w.heap.size ≤ w21.heap.size := HB21.out.size
    clear hB hw hb
    have cA00 := XA021.out.c 0 rfl
    have cA01 := XA021.out.c 1 rfl
    have cA02 := XA021.out.c 2 rfl
    have cA03 := XA021.out.c 3 rfl
    have cA04 := XA021.out.c 4 rfl
    have cBS00 := XBS021.out.c 0 rfl
    have cBS01 := XBS021.out.c 1 rfl
    have cBS02 := XBS021.out.c 2 rfl
    have cBS03 := XBS021.out.c 3 rfl
    have cBS04 := XBS021.out.c 4 rfl
    have cBG00 := XBG021.out.c 0 rfl
    have cBG01 := XBG021.out.c 1 rfl
    have cBG02 := XBG021.out.c 2 rfl
    have cBG03 := XBG021.out.c 3 rfl
    have cBG04 := XBG021.out.c 4 rfl
    have cBI00 := XBI021.out.c 0 rfl
    have cBI01 := XBI021.out.c 1 rfl
    have cBI02 := XBI021.out.c 2 rfl
    have cBI03 := XBI021.out.c 3 rfl
    have cBI04 := XBI021.out.c 4 rfl
    go_wp2_with fail
    refine (eqF_b aI1 aS1 capI1 capS1 Z1 _ (by first | exact FI121.out.row | exact (FI121.out.alloc _).row) (by first | exact FS121.out.row | exact (FS121.out.alloc _).row) hlI1).mono ?_
    rintro e w22 ⟨rfl, hb⟩
    have hw : Below w21.heap.size w21 w22 := Below.trans (by repeat (first | with_reducible exact Below.refl _ _ | with_reducible refine beld ?_ _ | (with_reducible refine Below.alloc ?_ ?_ _; rotate_left; exact (by first | (simp; done) | (simp; omega) | omega)) | (with_reducible refine Below.setCell ?_ ?_ _; rotate_left; exact (by first | (simp; done) | (simp; omega) | omega)))) (hb.mono (by first | (simp; done) | (simp; omega) | omega))
    have hB : Below w.heap.size w w22 := HB21.out.trans (hw.mono HB21.out.size)
    have hz22 : w21.heap.size ≤ w22.heap.size := hw.size
    have FS122 := Lib.hid (FS121.out.below hw FS121.out.2.2)
    have tS122 := FS122.out.2.2
    have FS222 := Lib.hid (FS221.out.below hw FS221.out.2.2)
    have tS222 := FS222.out.2.2
    have FG122 := Lib.hid (FG121.out.below hw FG121.out.2.2)
    have tG122 := FG122.out.2.2
    have FG222 := Lib.hid (FG221.out.below hw FG221.out.2.2)
    have tG222 := FG222.out.2.2
    have FI122 := Lib.hid (FI121.out.below hw FI121.out.2.2)
    have tI122 := FI122.out.2.2
    have FI222 := Lib.hid (FI221.out.below hw FI221.out.2.2)
    have tI222 := FI222.out.2.2
    have bx : Bx w22 (w.heap.size) [.float .f32 p0, .float .f32 p1, .float .f32 p2, .float .f32 p3, .float .f32 p4] := XA021.out.below hw XA021.out.1
    have XA022 := Lib.hid bx
    clear bx
    have bx : Bx w22 (w3.heap.size) [.float .f32 Ss0, .float .f32 Ss1, .float .f32 Ss2, .float .f32 Ss3, .float .f32 Ss4] := XBS021.out.below hw XBS021.out.1
    have XBS022 := Lib.hid bx
    clear bx
    have bx : Bx w22 (w6.heap.size) [.float .f32 Gs0, .float .f32 Gs1, .float .f32 Gs2, .float .f32 Gs3, .float .f32 Gs4] := XBG021.out.below hw XBG021.out.1
    have XBG022 := Lib.hid bx
    clear bx
    have bx : Bx w22 (w20.heap.size) [.float .f32 Is0, .float .f32 Is1, .float .f32 Is2, .float .f32 Is3, .float .f32 Is4] := XBI021.out.below hw XBI021.out.1
    have XBI022 := Lib.hid bx
    clear bx
    clear cA00 cA01 cA02 cA03 cA04 cBS00 cBS01 cBS02 cBS03 cBS04 cBG00 cBG01 cBG02 cBG03 cBG04 cBI00 cBI01 cBI02 cBI03 cBI04
    have HB22 := Lib.hid hB
    have hs22 : w.heap.size ≤ w22.heap.size := HB22.out.size
    clear hB hw hb
    have cA00 := XA022.out.c 0 rfl
    have cA01 := XA022.out.c 1 rfl
    have cA02 := XA022.out.c 2 rfl
    have cA03 := XA022.out.c 3 rfl
    have cA04 := XA022.out.c 4 rfl
    have cBS00 := XBS022.out.c 0 rfl
    have cBS01 := XBS022.out.c 1 rfl
    have cBS02 := XBS022.out.c 2 rfl
    have cBS03 := XBS022.out.c 3 rfl
    have cBS04 := XBS022.out.c 4 rfl
    have cBG00 := XBG022.out.c 0 rfl
    have cBG01 := XBG022.out.c 1 rfl
    have cBG02 := XBG022.out.c 2 rfl
    have cBG03 := XBG022.out.c 3 rfl
    have cBG04 := XBG022.out.c 4 rfl
    have cBI00 := XBI022.out.c 0 rfl
    have cBI01 := XBI022.out.c 1 rfl
    have cBI02 := XBI022.out.c 2 rfl
    have cBI03 := XBI022.out.c 3 rfl
    have cBI04 := XBI022.out.c 4 rfl
    go_wp2_with fail
    refine (eqF_b aI2 aS2 capI2 capS2 Z2 _ (by first | exact FI222.out.row | exact (FI222.out.alloc _).row) (by first | exact FS222.out.row | exact (FS222.out.alloc _).row) hlI2).mono ?_
    rintro e w23 ⟨rfl, hb⟩
    have hw : Below w22.heap.size w22 w23 := Below.trans (by repeat (first | with_reducible exact Below.refl _ _ | with_reducible refine beld ?_ _ | (with_reducible refine Below.alloc ?_ ?_ _; rotate_left; exact (by first | (simp; done) | (simp; omega) | omega)) | (with_reducible refine Below.setCell ?_ ?_ _; rotate_left; exact (by first | (simp; done) | (simp; omega) | omega)))) (hb.mono (by first | (simp; done) | (simp; omega) | omega))
    have hB : Below w.heap.size w w23 := HB22.out.trans (hw.mono HB22.out.size)
    have hz23 : w22.heap.size ≤ w23.heap.size := hw.size
    have FS123 := Lib.hid (FS122.out.below hw FS122.out.2.2)
    have tS123 := FS123.out.2.2
    have FS223 := Lib.hid (FS222.out.below hw FS222.out.2.2)
    have tS223 := FS223.out.2.2
    have FG123 := Lib.hid (FG122.out.below hw FG122.out.2.2)
    have tG123 := FG123.out.2.2
    have FG223 := Lib.hid (FG222.out.below hw FG222.out.2.2)
    have tG223 := FG223.out.2.2
    have FI123 := Lib.hid (FI122.out.below hw FI122.out.2.2)
    have tI123 := FI123.out.2.2
    have FI223 := Lib.hid (FI222.out.below hw FI222.out.2.2)
    have tI223 := FI223.out.2.2
    have bx : Bx w23 (w.heap.size) [.float .f32 p0, .float .f32 p1, .float .f32 p2, .float .f32 p3, .float .f32 p4] := XA022.out.below hw XA022.out.1
    have XA023 := Lib.hid bx
    clear bx
    have bx : Bx w23 (w3.heap.size) [.float .f32 Ss0, .float .f32 Ss1, .float .f32 Ss2, .float .f32 Ss3, .float .f32 Ss4] := XBS022.out.below hw XBS022.out.1
    have XBS023 := Lib.hid bx
    clear bx
    have bx : Bx w23 (w6.heap.size) [.float .f32 Gs0, .float .f32 Gs1, .float .f32 Gs2, .float .f32 Gs3, .float .f32 Gs4] := XBG022.out.below hw XBG022.out.1
    have XBG023 := Lib.hid bx
    clear bx
    have bx : Bx w23 (w20.heap.size) [.float .f32 Is0, .float .f32 Is1, .float .f32 Is2, .float .f32 Is3, .float .f32 Is4] := XBI022.out.below hw XBI022.out.1
    have XBI023 := Lib.hid bx
    clear bx
    clear cA00 cA01 cA02 cA03 cA04 cBS00 cBS01 cBS02 cBS03 cBS04 cBG00 cBG01 cBG02 cBG03 cBG04 cBI00 cBI01 cBI02 cBI03 cBI04
    have HB23 := Lib.hid hB
    have hs23 : w.heap.size ≤ w23.heap.size := HB23.out.size
    clear hB hw hb
    have cA00 := XA023.out.c 0 rfl
    have cA01 := XA023.out.c 1 rfl
    have cA02 := XA023.out.c 2 rfl
    have cA03 := XA023.out.c 3 rfl
    have cA04 := XA023.out.c 4 rfl
    have cBS00 := XBS023.out.c 0 rfl
    have cBS01 := XBS023.out.c 1 rfl
    have cBS02 := XBS023.out.c 2 rfl
    have cBS03 := XBS023.out.c 3 rfl
    have cBS04 := XBS023.out.c 4 rfl
    have cBG00 := XBG023.out.c 0 rfl
    have cBG01 := XBG023.out.c 1 rfl
    have cBG02 := XBG023.out.c 2 rfl
    have cBG03 := XBG023.out.c 3 rfl
    have cBG04 := XBG023.out.c 4 rfl
    have cBI00 := XBI023.out.c 0 rfl
    have cBI01 := XBI023.out.c 1 rfl
    have cBI02 := XBI023.out.c 2 rfl
    have cBI03 := XBI023.out.c 3 rfl
    have cBI04 := XBI023.out.c 4 rfl
    go_wp2_with fail
    refine (heldF_any (loG1) (hiG1) (1) Z1.length aG1 capG1 _ (by first | exact FG123.out | exact FG123.out.alloc _) hlG1 (by omega)).mono ?_
    rintro e w' ⟨rfl, rfl⟩
    go_wp2_with fail
    refine (heldF_any (loG2) (hiG2) ((1 + Z1.length)) Z2.length aG2 capG2 _ (by first | exact FG223.out | exact FG223.out.alloc _) hlG2 (by omega)).mono ?_
    rintro e w' ⟨rfl, rfl⟩
    go_wp2_with fail
    go_ret
    exact ⟨rfl, Below.trans HB23.out ((by exact (by repeat (first | with_reducible exact Below.refl _ _ | with_reducible refine beld ?_ _ | (with_reducible refine Below.alloc ?_ ?_ _; rotate_left; exact (by first | (simp; done) | (simp; omega) | omega)) | (with_reducible refine Below.setCell ?_ ?_ _; rotate_left; exact (by first | (simp; done) | (simp; omega) | omega)))) : Below w23.heap.size w23 _).mono HB23.out.size)⟩

set_option maxHeartbeats 1000000 in
theorem walk_FnExactRunSoil (p0 p1 p2 p3 p4 : Nat) (a1 : Option Addr) (len1 cap1 : Nat) (zs1 : List Nat) (t : Nat) (w : World) (hp0 : p0 < 4294967296) (hp1 : p1 < 4294967296) (hp2 : p2 < 4294967296) (hp3 : p3 < 4294967296) (hp4 : p4 < 4294967296) (h1 : IsRowF .f32 w a1 len1 cap1 zs1) (ht : t < 4294967296) :
    Calls Try.prog 7 #[.agg #[.float .f32 p0, .float .f32 p1, .float .f32 p2, .float .f32 p3, .float .f32 p4], .slice a1 len1 cap1, .float .f32 t] w fun e w' => e = .returned (.bool true) ∧ Below w.heap.size w w' := by
  obtain ⟨rfl, hcap1, hmax1, hr1, hz1⟩ := h1
  unfold maxLen at hmax1
  by_cases hl1 : zs1.length ≤ 1048576
  · exact runSoilLaw_fits p0 p1 p2 p3 p4 a1 cap1 zs1 t w hp0 hp1 hp2 hp3 hp4 hr1 hl1 hz1 ht
  · have hg : 1048576 < (zs1.length : Int) := by omega
    clear hr1 hz1
    go_enter Try.func7, Try.ntmps7
    go_wp2_with fail
    go_ret
    exact ⟨rfl, (bel1 _ _ )⟩
end Go.Proofs.Ytdoecpghlfjhiac
