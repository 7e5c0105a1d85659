/- The walk of the law on RouteReach. -/
import Derived.Test.YtdoecpghlfjhiaaRouteB
import Derived.Test.YtdoecpghlfjhiaaRouteC
import Derived.Test.YtdoecpghlfjhiaaTo
import Derived.Test.YtdoecpghlfjhiaaSame
import Derived.Test.YtdoecpghlfjhiaaEqF
import Derived.Test.YtdoecpghlfjhiaaGrow
import Derived.DataShut
namespace Go.Proofs.Ytdoecpghlfjhiaa
open Go.RowKit
set_option linter.unusedVariables false
set_option linter.unusedSimpArgs false
set_option maxRecDepth 100000
attribute [local irreducible] wpV wpList Code.wp

set_option maxHeartbeats 16000000 in
theorem routeReachLaw_fits (p0 p1 : Nat) (a1 : Option Addr) (cap1 : Nat) (zs1 : List Nat) (t : Nat) (f : Nat) (w : World) (hp0 : p0 < 4294967296) (hp1 : p1 < 4294967296) (hr1 : RowF .f32 w a1 zs1) (hl1 : zs1.length ≤ 1048576) (hz1 : ∀ z ∈ zs1, z < 4294967296) (ht : t < 4294967296) (hf : f < 4294967296) :
    Calls Try.prog 9 #[.agg #[.float .f32 p0, .float .f32 p1], .slice a1 zs1.length cap1, .float .f32 t, .float .f32 f] w fun e w' => e = .returned (.bool true) ∧ Below w.heap.size w w' := by
  obtain ⟨⟨Z0, B⟩, hR⟩ : ∃ R, routeO (some p0) (some p1) (some t) (some f) zs1 = R := ⟨_, rfl⟩
  have cS : ∀ (a1 : Option Addr) (cap1 : Nat) (W : World), RowF .f32 W a1 zs1 → Calls Try.prog 29 #[.agg #[.float .f32 p0, .float .f32 p1], .slice a1 zs1.length cap1, .float .f32 t, .float .f32 f] W (ListB (Z0, B) W) := by
    intro a1 cap1 W h1'
    have := routeReach_s a1 cap1 zs1 W (Is32.c hp0) (Is32.c hp1) h1' hl1 hz1 (Is32.c ht) (Is32.c hf)
    rw [hR] at this
    exact this
  have cI : ∀ (a1 : Option Addr) (cap1 : Nat) (W : World), RowF .f32 W a1 zs1 → Calls Try.prog 31 #[.agg #[.float .f32 p0, .float .f32 p1], .slice a1 zs1.length cap1, .float .f32 t, .float .f32 f] W (ListB (Z0, B) W) := by
    intro a1 cap1 W h1'
    have := routeReach_i a1 cap1 zs1 W (Is32.c hp0) (Is32.c hp1) h1' hl1 hz1 (Is32.c ht) (Is32.c hf)
    rw [hR] at this
    exact this
  have HS := Lib.hid cS
  have HI := Lib.hid cI
  clear cS cI hR
  have H1 := Lib.hid hr1
  clear hr1 hz1
  cases B
  all_goals
    go_enter Try.func9, Try.ntmps9
    go_wp2_with fail
    refine (toReach_o _ _  _).mono ?_
    rintro e w1 ⟨rfl, hb⟩
    have hw : Below w.heap.size w w1 := Below.trans (by repeat (first | with_reducible exact Below.refl _ _ | with_reducible refine beld ?_ _ | (with_reducible refine Below.alloc ?_ ?_ _; rotate_left; exact (by first | (simp; done) | (simp; omega) | omega)) | (with_reducible refine Below.setCell ?_ ?_ _; rotate_left; exact (by first | (simp; done) | (simp; omega) | omega)))) (hb.mono (by first | (simp; done) | (simp; omega) | omega))
    have hB : Below w.heap.size w w1 := hw
    have hz1 : w.heap.size ≤ w1.heap.size := hw.size
    have hx1 : w.heap.size + 1 ≤ w1.heap.size := (by have := hb.size; (try simp at this); omega)
    have bx : Bx w1 (w.heap.size) [.float .f32 p0, .float .f32 p1] := (by first | exact Bx.below (Bx.new w [_, _] _) hb (by first | (simp; done) | (simp; omega) | omega) | exact Bx.below (Bx.drewN (Bx.new w [_, _] _) _) hb (by first | (simp; done) | (simp; omega) | omega))
    have XA01 := Lib.hid bx
    clear bx
    have HB1 := Lib.hid hB
    have hs1 : w.heap.size ≤ w1.heap.size := HB1.out.size
    clear hB hw hb
    have cA00 := XA01.out.c 0 rfl
    have cA01 := XA01.out.c 1 rfl
    go_wp2_with fail
    refine (copyF_any a1 cap1 zs1 _ (by first | exact (H1.out.below HB1.out (Nat.le_refl _)) | exact ((H1.out.below HB1.out (Nat.le_refl _))).below (by repeat (first | with_reducible exact Below.refl _ _ | with_reducible refine beld ?_ _ | (with_reducible refine Below.alloc ?_ ?_ _; rotate_left; exact (by first | (simp; done) | (simp; omega) | omega)) | (with_reducible refine Below.setCell ?_ ?_ _; rotate_left; exact (by first | (simp; done) | (simp; omega) | omega)))) (Nat.le_refl _)) hl1).mono ?_
    rintro e w2 ⟨aSc1, capSc1, rfl, hb, hf⟩
    have hw : Below w1.heap.size w1 w2 := Below.trans (by repeat (first | with_reducible exact Below.refl _ _ | with_reducible refine beld ?_ _ | (with_reducible refine Below.alloc ?_ ?_ _; rotate_left; exact (by first | (simp; done) | (simp; omega) | omega)) | (with_reducible refine Below.setCell ?_ ?_ _; rotate_left; exact (by first | (simp; done) | (simp; omega) | omega)))) (hb.mono (by first | (simp; done) | (simp; omega) | omega))
    have hB : Below w.heap.size w w2 := HB1.out.trans (hw.mono HB1.out.size)
    have hz2 : w1.heap.size ≤ w2.heap.size := hw.size
    have bx : Bx w2 (w.heap.size) [.float .f32 p0, .float .f32 p1] := XA01.out.below hw XA01.out.1
    have XA02 := Lib.hid bx
    clear bx
    clear cA00 cA01
    have FSc12 := Lib.hid (hf.mono (lo' := w1.heap.size) (by first | (simp; done) | (simp; omega) | omega) (Nat.le_refl _) (Nat.le_refl _))
    have tSc12 := FSc12.out.2.2
    have HB2 := Lib.hid hB
    have hs2 : w.heap.size ≤ w2.heap.size := HB2.out.size
    clear hB hw hb
    have cA00 := XA02.out.c 0 rfl
    have cA01 := XA02.out.c 1 rfl
    go_wp2_with fail
    refine (HS.out aSc1 capSc1 _ (by first | exact FSc12.out.row | exact (FSc12.out.alloc _).row)).mono ?_
    rintro e w3 ⟨aS0, capS0, rfl, hfS0, hlS0, hb⟩
    have hw : Below w2.heap.size w2 w3 := Below.trans (by repeat (first | with_reducible exact Below.refl _ _ | with_reducible refine beld ?_ _ | (with_reducible refine Below.alloc ?_ ?_ _; rotate_left; exact (by first | (simp; done) | (simp; omega) | omega)) | (with_reducible refine Below.setCell ?_ ?_ _; rotate_left; exact (by first | (simp; done) | (simp; omega) | omega)))) (hb.mono (by first | (simp; done) | (simp; omega) | omega))
    have hB : Below w.heap.size w w3 := HB2.out.trans (hw.mono HB2.out.size)
    have hz3 : w2.heap.size ≤ w3.heap.size := hw.size
    have FSc13 := Lib.hid (FSc12.out.below hw FSc12.out.2.2)
    have tSc13 := FSc13.out.2.2
    have bx : Bx w3 (w.heap.size) [.float .f32 p0, .float .f32 p1] := XA02.out.below hw XA02.out.1
    have XA03 := Lib.hid bx
    clear bx
    clear cA00 cA01
    have FS03 := Lib.hid (hfS0.mono (lo' := w2.heap.size) (by first | (simp; done) | (simp; omega) | omega) (Nat.le_refl _) (Nat.le_refl _))
    have tS03 := FS03.out.2.2
    have HB3 := Lib.hid hB
    have hs3 : w.heap.size ≤ w3.heap.size := HB3.out.size
    clear hB hw hb
    have cA00 := XA03.out.c 0 rfl
    have cA01 := XA03.out.c 1 rfl
    go_wp2_with fail
    refine (copyF_any a1 cap1 zs1 _ (by first | exact (H1.out.below HB3.out (Nat.le_refl _)) | exact ((H1.out.below HB3.out (Nat.le_refl _))).below (by repeat (first | with_reducible exact Below.refl _ _ | with_reducible refine beld ?_ _ | (with_reducible refine Below.alloc ?_ ?_ _; rotate_left; exact (by first | (simp; done) | (simp; omega) | omega)) | (with_reducible refine Below.setCell ?_ ?_ _; rotate_left; exact (by first | (simp; done) | (simp; omega) | omega)))) (Nat.le_refl _)) hl1).mono ?_
    rintro e w4 ⟨aX1, capX1, rfl, hb, hf⟩
    have hw : Below w3.heap.size w3 w4 := Below.trans (by repeat (first | with_reducible exact Below.refl _ _ | with_reducible refine beld ?_ _ | (with_reducible refine Below.alloc ?_ ?_ _; rotate_left; exact (by first | (simp; done) | (simp; omega) | omega)) | (with_reducible refine Below.setCell ?_ ?_ _; rotate_left; exact (by first | (simp; done) | (simp; omega) | omega)))) (hb.mono (by first | (simp; done) | (simp; omega) | omega))
    have hB : Below w.heap.size w w4 := HB3.out.trans (hw.mono HB3.out.size)
    have hz4 : w3.heap.size ≤ w4.heap.size := hw.size
    have FS04 := Lib.hid (FS03.out.below hw FS03.out.2.2)
    have tS04 := FS04.out.2.2
    have bx : Bx w4 (w.heap.size) [.float .f32 p0, .float .f32 p1] := XA03.out.below hw XA03.out.1
    have XA04 := Lib.hid bx
    clear bx
    clear cA00 cA01
    have FX14 := Lib.hid (hf.mono (lo' := w3.heap.size) (by first | (simp; done) | (simp; omega) | omega) (Nat.le_refl _) (Nat.le_refl _))
    have tX14 := FX14.out.2.2
    have HB4 := Lib.hid hB
    have hs4 : w.heap.size ≤ w4.heap.size := HB4.out.size
    clear hB hw hb
    have cA00 := XA04.out.c 0 rfl
    have cA01 := XA04.out.c 1 rfl
    go_wp2_with fail
    refine (toReach_o _ _  _).mono ?_
    rintro e w5 ⟨rfl, hb⟩
    have hw : Below w4.heap.size w4 w5 := Below.trans (by repeat (first | with_reducible exact Below.refl _ _ | with_reducible refine beld ?_ _ | (with_reducible refine Below.alloc ?_ ?_ _; rotate_left; exact (by first | (simp; done) | (simp; omega) | omega)) | (with_reducible refine Below.setCell ?_ ?_ _; rotate_left; exact (by first | (simp; done) | (simp; omega) | omega)))) (hb.mono (by first | (simp; done) | (simp; omega) | omega))
    have hB : Below w.heap.size w w5 := HB4.out.trans (hw.mono HB4.out.size)
    have hz5 : w4.heap.size ≤ w5.heap.size := hw.size
    have FS05 := Lib.hid (FS04.out.below hw FS04.out.2.2)
    have tS05 := FS05.out.2.2
    have FX15 := Lib.hid (FX14.out.below hw FX14.out.2.2)
    have tX15 := FX15.out.2.2
    have bx : Bx w5 (w.heap.size) [.float .f32 p0, .float .f32 p1] := XA04.out.below hw XA04.out.1
    have XA05 := Lib.hid bx
    clear bx
    clear cA00 cA01
    have HB5 := Lib.hid hB
    have hs5 : w.heap.size ≤ w5.heap.size := HB5.out.size
    clear hB hw hb
    have cA00 := XA05.out.c 0 rfl
    have cA01 := XA05.out.c 1 rfl
    go_wp2_with fail
    refine (HI.out aX1 capX1 _ (by first | exact FX15.out.row | exact (FX15.out.alloc _).row)).mono ?_
    rintro e w6 ⟨aG0, capG0, rfl, hfG0, hlG0, hb⟩
    have hw : Below w5.heap.size w5 w6 := Below.trans (by repeat (first | with_reducible exact Below.refl _ _ | with_reducible refine beld ?_ _ | (with_reducible refine Below.alloc ?_ ?_ _; rotate_left; exact (by first | (simp; done) | (simp; omega) | omega)) | (with_reducible refine Below.setCell ?_ ?_ _; rotate_left; exact (by first | (simp; done) | (simp; omega) | omega)))) (hb.mono (by first | (simp; done) | (simp; omega) | omega))
    have hB : Below w.heap.size w w6 := HB5.out.trans (hw.mono HB5.out.size)
    have hz6 : w5.heap.size ≤ w6.heap.size := hw.size
    have FS06 := Lib.hid (FS05.out.below hw FS05.out.2.2)
    have tS06 := FS06.out.2.2
    have FX16 := Lib.hid (FX15.out.below hw FX15.out.2.2)
    have tX16 := FX16.out.2.2
    have bx : Bx w6 (w.heap.size) [.float .f32 p0, .float .f32 p1] := XA05.out.below hw XA05.out.1
    have XA06 := Lib.hid bx
    clear bx
    clear cA00 cA01
    have FG06 := Lib.hid (hfG0.mono (lo' := w5.heap.size) (by first | (simp; done) | (simp; omega) | omega) (Nat.le_refl _) (Nat.le_refl _))
    have tG06 := FG06.out.2.2
    have HB6 := Lib.hid hB
    have hs6 : w.heap.size ≤ w6.heap.size := HB6.out.size
    clear hB hw hb
    have cA00 := XA06.out.c 0 rfl
    have cA01 := XA06.out.c 1 rfl
    go_wp2_with fail
    refine (eqF_b aG0 aS0 capG0 capS0 Z0 _ (by first | exact FG06.out.row | exact (FG06.out.alloc _).row) (by first | exact FS06.out.row | exact (FS06.out.alloc _).row) hlG0).mono ?_
    rintro e w7 ⟨rfl, hb⟩
    have hw : Below w6.heap.size w6 w7 := Below.trans (by repeat (first | with_reducible exact Below.refl _ _ | with_reducible refine beld ?_ _ | (with_reducible refine Below.alloc ?_ ?_ _; rotate_left; exact (by first | (simp; done) | (simp; omega) | omega)) | (with_reducible refine Below.setCell ?_ ?_ _; rotate_left; exact (by first | (simp; done) | (simp; omega) | omega)))) (hb.mono (by first | (simp; done) | (simp; omega) | omega))
    have hB : Below w.heap.size w w7 := HB6.out.trans (hw.mono HB6.out.size)
    have hz7 : w6.heap.size ≤ w7.heap.size := hw.size
    have FS07 := Lib.hid (FS06.out.below hw FS06.out.2.2)
    have tS07 := FS07.out.2.2
    have FX17 := Lib.hid (FX16.out.below hw FX16.out.2.2)
    have tX17 := FX17.out.2.2
    have FG07 := Lib.hid (FG06.out.below hw FG06.out.2.2)
    have tG07 := FG07.out.2.2
    have bx : Bx w7 (w.heap.size) [.float .f32 p0, .float .f32 p1] := XA06.out.below hw XA06.out.1
    have XA07 := Lib.hid bx
    clear bx
    clear cA00 cA01
    have HB7 := Lib.hid hB
    have hs7 : w.heap.size ≤ w7.heap.size := HB7.out.size
    clear hB hw hb
    have cA00 := XA07.out.c 0 rfl
    have cA01 := XA07.out.c 1 rfl
    go_wp2_with fail
    refine (copyF_any a1 cap1 zs1 _ (by first | exact (H1.out.below HB7.out (Nat.le_refl _)) | exact ((H1.out.below HB7.out (Nat.le_refl _))).below (by repeat (first | with_reducible exact Below.refl _ _ | with_reducible refine beld ?_ _ | (with_reducible refine Below.alloc ?_ ?_ _; rotate_left; exact (by first | (simp; done) | (simp; omega) | omega)) | (with_reducible refine Below.setCell ?_ ?_ _; rotate_left; exact (by first | (simp; done) | (simp; omega) | omega)))) (Nat.le_refl _)) hl1).mono ?_
    rintro e w8 ⟨aE1, capE1, rfl, hb, hf⟩
    have hw : Below w7.heap.size w7 w8 := Below.trans (by repeat (first | with_reducible exact Below.refl _ _ | with_reducible refine beld ?_ _ | (with_reducible refine Below.alloc ?_ ?_ _; rotate_left; exact (by first | (simp; done) | (simp; omega) | omega)) | (with_reducible refine Below.setCell ?_ ?_ _; rotate_left; exact (by first | (simp; done) | (simp; omega) | omega)))) (hb.mono (by first | (simp; done) | (simp; omega) | omega))
    have hB : Below w.heap.size w w8 := HB7.out.trans (hw.mono HB7.out.size)
    have hz8 : w7.heap.size ≤ w8.heap.size := hw.size
    have FS08 := Lib.hid (FS07.out.below hw FS07.out.2.2)
    have tS08 := FS08.out.2.2
    have FX18 := Lib.hid (FX17.out.below hw FX17.out.2.2)
    have tX18 := FX18.out.2.2
    have FG08 := Lib.hid (FG07.out.below hw FG07.out.2.2)
    have tG08 := FG08.out.2.2
    have bx : Bx w8 (w.heap.size) [.float .f32 p0, .float .f32 p1] := XA07.out.below hw XA07.out.1
    have XA08 := Lib.hid bx
    clear bx
    clear cA00 cA01
    have FE18 := Lib.hid (hf.mono (lo' := w7.heap.size) (by first | (simp; done) | (simp; omega) | omega) (Nat.le_refl _) (Nat.le_refl _))
    have tE18 := FE18.out.2.2
    have HB8 := Lib.hid hB
    have hs8 : w.heap.size ≤ w8.heap.size := HB8.out.size
    clear hB hw hb
    have cA00 := XA08.out.c 0 rfl
    have cA01 := XA08.out.c 1 rfl
    go_wp2_with fail
    refine (eqF_b aX1 aE1 capX1 capE1 zs1 _ (by first | exact FX18.out.row | exact (FX18.out.alloc _).row) (by first | exact FE18.out.row | exact (FE18.out.alloc _).row) hl1).mono ?_
    rintro e w9 ⟨rfl, hb⟩
    have hw : Below w8.heap.size w8 w9 := Below.trans (by repeat (first | with_reducible exact Below.refl _ _ | with_reducible refine beld ?_ _ | (with_reducible refine Below.alloc ?_ ?_ _; rotate_left; exact (by first | (simp; done) | (simp; omega) | omega)) | (with_reducible refine Below.setCell ?_ ?_ _; rotate_left; exact (by first | (simp; done) | (simp; omega) | omega)))) (hb.mono (by first | (simp; done) | (simp; omega) | omega))
    have hB : Below w.heap.size w w9 := HB8.out.trans (hw.mono HB8.out.size)
    have hz9 : w8.heap.size ≤ w9.heap.size := hw.size
    have FS09 := Lib.hid (FS08.out.below hw FS08.out.2.2)
    have tS09 := FS09.out.2.2
    have FX19 := Lib.hid (FX18.out.below hw FX18.out.2.2)
    have tX19 := FX19.out.2.2
    have FG09 := Lib.hid (FG08.out.below hw FG08.out.2.2)
    have tG09 := FG09.out.2.2
    have FE19 := Lib.hid (FE18.out.below hw FE18.out.2.2)
    have tE19 := FE19.out.2.2
    have bx : Bx w9 (w.heap.size) [.float .f32 p0, .float .f32 p1] := XA08.out.below hw XA08.out.1
    have XA09 := Lib.hid bx
    clear bx
    clear cA00 cA01
    have HB9 := Lib.hid hB
    have hs9 : w.heap.size ≤ w9.heap.size := HB9.out.size
    clear hB hw hb
    have cA00 := XA09.out.c 0 rfl
    have cA01 := XA09.out.c 1 rfl
    go_wp2_with fail
    refine (markF_any (w3.heap.size) (w4.heap.size) (1) aX1 capX1 zs1 _ (by first | exact FX19.out | exact (FX19.out.alloc _)) hl1 (by omega)).mono ?_
    rintro e w10 ⟨rfl, hf, hk⟩
    have hw : Kept (w3.heap.size) (w4.heap.size) w9 w10 := (Kept.of_below (by repeat (first | with_reducible exact Below.refl _ _ | with_reducible refine beld ?_ _ | (with_reducible refine Below.alloc ?_ ?_ _; rotate_left; exact (by first | (simp; done) | (simp; omega) | omega)) | (with_reducible refine Below.setCell ?_ ?_ _; rotate_left; exact (by first | (simp; done) | (simp; omega) | omega)))) (Nat.le_refl _)).trans hk
    have hB : Below w.heap.size w w10 := HB9.out.trans (hw.below (by omega) (by omega))
    have hz10 : w9.heap.size ≤ w10.heap.size := hw.size
    have FS010 := Lib.hid (FS09.out.kept hw (by omega))
    have tS010 := FS010.out.2.2
    have FG010 := Lib.hid (FG09.out.kept hw (by omega))
    have tG010 := FG010.out.2.2
    have bx : Bx w10 (w.heap.size) [.float .f32 p0, .float .f32 p1] := XA09.out.kept hw (by have := XA09.out.1; omega)
    have XA010 := Lib.hid bx
    clear bx
    clear cA00 cA01
    have FX110 := Lib.hid hf
    have tX110 := FX110.out.2.2
    have HB10 := Lib.hid hB
    have hs10 : w.heap.size ≤ w10.heap.size := HB10.out.size
    clear hB hw hk
    have cA00 := XA010.out.c 0 rfl
    have cA01 := XA010.out.c 1 rfl
    have hcX1 : ¬ (((1 + zs1.length) : Nat) : Int) < 0 := by omega
    go_wp2_with fail
    refine (eqF_b aG0 aS0 capG0 capS0 Z0 _ (by first | exact FG010.out.row | exact (FG010.out.alloc _).row) (by first | exact FS010.out.row | exact (FS010.out.alloc _).row) hlG0).mono ?_
    rintro e w11 ⟨rfl, hb⟩
    have hw : Below w10.heap.size w10 w11 := Below.trans (by repeat (first | with_reducible exact Below.refl _ _ | with_reducible refine beld ?_ _ | (with_reducible refine Below.alloc ?_ ?_ _; rotate_left; exact (by first | (simp; done) | (simp; omega) | omega)) | (with_reducible refine Below.setCell ?_ ?_ _; rotate_left; exact (by first | (simp; done) | (simp; omega) | omega)))) (hb.mono (by first | (simp; done) | (simp; omega) | omega))
    have hB : Below w.heap.size w w11 := HB10.out.trans (hw.mono HB10.out.size)
    have hz11 : w10.heap.size ≤ w11.heap.size := hw.size
    have FS011 := Lib.hid (FS010.out.below hw FS010.out.2.2)
    have tS011 := FS011.out.2.2
    have FG011 := Lib.hid (FG010.out.below hw FG010.out.2.2)
    have tG011 := FG011.out.2.2
    have bx : Bx w11 (w.heap.size) [.float .f32 p0, .float .f32 p1] := XA010.out.below hw XA010.out.1
    have XA011 := Lib.hid bx
    clear bx
    clear cA00 cA01
    have HB11 := Lib.hid hB
    have hs11 : w.heap.size ≤ w11.heap.size := HB11.out.size
    clear hB hw hb
    have cA00 := XA011.out.c 0 rfl
    have cA01 := XA011.out.c 1 rfl
    go_wp2_with fail
    refine (markF_any (w5.heap.size) (w6.heap.size) (1) aG0 capG0 Z0 _ (by first | exact FG011.out | exact (FG011.out.alloc _)) hlG0 (by omega)).mono ?_
    rintro e w12 ⟨rfl, hf, hk⟩
    have hw : Kept (w5.heap.size) (w6.heap.size) w11 w12 := (Kept.of_below (by repeat (first | with_reducible exact Below.refl _ _ | with_reducible refine beld ?_ _ | (with_reducible refine Below.alloc ?_ ?_ _; rotate_left; exact (by first | (simp; done) | (simp; omega) | omega)) | (with_reducible refine Below.setCell ?_ ?_ _; rotate_left; exact (by first | (simp; done) | (simp; omega) | omega)))) (Nat.le_refl _)).trans hk
    have hB : Below w.heap.size w w12 := HB11.out.trans (hw.below (by omega) (by omega))
    have hz12 : w11.heap.size ≤ w12.heap.size := hw.size
    have FS012 := Lib.hid (FS011.out.kept hw (by omega))
    have tS012 := FS012.out.2.2
    have bx : Bx w12 (w.heap.size) [.float .f32 p0, .float .f32 p1] := XA011.out.kept hw (by have := XA011.out.1; omega)
    have XA012 := Lib.hid bx
    clear bx
    clear cA00 cA01
    have FG012 := Lib.hid hf
    have tG012 := FG012.out.2.2
    have HB12 := Lib.hid hB
    have hs12 : w.heap.size ≤ w12.heap.size := HB12.out.size
    clear hB hw hk
    have cA00 := XA012.out.c 0 rfl
    have cA01 := XA012.out.c 1 rfl
    have hcG0 : ¬ (((1 + Z0.length) : Nat) : Int) < 0 := by omega
    go_wp2_with fail
    refine (heldF_any (w5.heap.size) (w6.heap.size) (1) Z0.length aG0 capG0 _ (by first | exact FG012.out | exact FG012.out.alloc _) hlG0 (by omega)).mono ?_
    rintro e w' ⟨rfl, rfl⟩
    go_wp2_with fail
    refine (toReach_o _ _  _).mono ?_
    rintro e w13 ⟨rfl, hb⟩
    have hw : Below w12.heap.size w12 w13 := Below.trans (by repeat (first | with_reducible exact Below.refl _ _ | with_reducible refine beld ?_ _ | (with_reducible refine Below.alloc ?_ ?_ _; rotate_left; exact (by first | (simp; done) | (simp; omega) | omega)) | (with_reducible refine Below.setCell ?_ ?_ _; rotate_left; exact (by first | (simp; done) | (simp; omega) | omega)))) (hb.mono (by first | (simp; done) | (simp; omega) | omega))
    have hB : Below w.heap.size w w13 := HB12.out.trans (hw.mono HB12.out.size)
    have hz13 : w12.heap.size ≤ w13.heap.size := hw.size
    have FS013 := Lib.hid (FS012.out.below hw FS012.out.2.2)
    have tS013 := FS013.out.2.2
    have FG013 := Lib.hid (FG012.out.below hw FG012.out.2.2)
    have tG013 := FG013.out.2.2
    have bx : Bx w13 (w.heap.size) [.float .f32 p0, .float .f32 p1] := XA012.out.below hw XA012.out.1
    have XA013 := Lib.hid bx
    clear bx
    clear cA00 cA01
    have HB13 := Lib.hid hB
    have hs13 : w.heap.size ≤ w13.heap.size := HB13.out.size
    clear hB hw hb
    have cA00 := XA013.out.c 0 rfl
    have cA01 := XA013.out.c 1 rfl
    go_wp2_with fail
    refine (copyF_any a1 cap1 zs1 _ (by first | exact (H1.out.below HB13.out (Nat.le_refl _)) | exact ((H1.out.below HB13.out (Nat.le_refl _))).below (by repeat (first | with_reducible exact Below.refl _ _ | with_reducible refine beld ?_ _ | (with_reducible refine Below.alloc ?_ ?_ _; rotate_left; exact (by first | (simp; done) | (simp; omega) | omega)) | (with_reducible refine Below.setCell ?_ ?_ _; rotate_left; exact (by first | (simp; done) | (simp; omega) | omega)))) (Nat.le_refl _)) hl1).mono ?_
    rintro e w14 ⟨aIc1, capIc1, rfl, hb, hf⟩
    have hw : Below w13.heap.size w13 w14 := Below.trans (by repeat (first | with_reducible exact Below.refl _ _ | with_reducible refine beld ?_ _ | (with_reducible refine Below.alloc ?_ ?_ _; rotate_left; exact (by first | (simp; done) | (simp; omega) | omega)) | (with_reducible refine Below.setCell ?_ ?_ _; rotate_left; exact (by first | (simp; done) | (simp; omega) | omega)))) (hb.mono (by first | (simp; done) | (simp; omega) | omega))
    have hB : Below w.heap.size w w14 := HB13.out.trans (hw.mono HB13.out.size)
    have hz14 : w13.heap.size ≤ w14.heap.size := hw.size
    have FS014 := Lib.hid (FS013.out.below hw FS013.out.2.2)
    have tS014 := FS014.out.2.2
    have FG014 := Lib.hid (FG013.out.below hw FG013.out.2.2)
    have tG014 := FG014.out.2.2
    have bx : Bx w14 (w.heap.size) [.float .f32 p0, .float .f32 p1] := XA013.out.below hw XA013.out.1
    have XA014 := Lib.hid bx
    clear bx
    clear cA00 cA01
    have FIc114 := Lib.hid (hf.mono (lo' := w13.heap.size) (by first | (simp; done) | (simp; omega) | omega) (Nat.le_refl _) (Nat.le_refl _))
    have tIc114 := FIc114.out.2.2
    have HB14 := Lib.hid hB
    have hs14 : w.heap.size ≤ w14.heap.size := HB14.out.size
    clear hB hw hb
    have cA00 := XA014.out.c 0 rfl
    have cA01 := XA014.out.c 1 rfl
    go_wp2_with fail
    refine (HI.out aIc1 capIc1 _ (by first | exact FIc114.out.row | exact (FIc114.out.alloc _).row)).mono ?_
    rintro e w15 ⟨aI0, capI0, rfl, hfI0, hlI0, hb⟩
    have hw : Below w14.heap.size w14 w15 := Below.trans (by repeat (first | with_reducible exact Below.refl _ _ | with_reducible refine beld ?_ _ | (with_reducible refine Below.alloc ?_ ?_ _; rotate_left; exact (by first | (simp; done) | (simp; omega) | omega)) | (with_reducible refine Below.setCell ?_ ?_ _; rotate_left; exact (by first | (simp; done) | (simp; omega) | omega)))) (hb.mono (by first | (simp; done) | (simp; omega) | omega))
    have hB : Below w.heap.size w w15 := HB14.out.trans (hw.mono HB14.out.size)
    have hz15 : w14.heap.size ≤ w15.heap.size := hw.size
    have FS015 := Lib.hid (FS014.out.below hw FS014.out.2.2)
    have tS015 := FS015.out.2.2
    have FG015 := Lib.hid (FG014.out.below hw FG014.out.2.2)
    have tG015 := FG015.out.2.2
    have FIc115 := Lib.hid (FIc114.out.below hw FIc114.out.2.2)
    have tIc115 := FIc115.out.2.2
    have bx : Bx w15 (w.heap.size) [.float .f32 p0, .float .f32 p1] := XA014.out.below hw XA014.out.1
    have XA015 := Lib.hid bx
    clear bx
    clear cA00 cA01
    have FI015 := Lib.hid (hfI0.mono (lo' := w14.heap.size) (by first | (simp; done) | (simp; omega) | omega) (Nat.le_refl _) (Nat.le_refl _))
    have tI015 := FI015.out.2.2
    have HB15 := Lib.hid hB
    have hs15 : w.heap.size ≤ w15.heap.size := HB15.out.size
    clear hB hw hb
    have cA00 := XA015.out.c 0 rfl
    have cA01 := XA015.out.c 1 rfl
    go_wp2_with fail
    refine (eqF_b aI0 aS0 capI0 capS0 Z0 _ (by first | exact FI015.out.row | exact (FI015.out.alloc _).row) (by first | exact FS015.out.row | exact (FS015.out.alloc _).row) hlI0).mono ?_
    rintro e w16 ⟨rfl, hb⟩
    have hw : Below w15.heap.size w15 w16 := Below.trans (by repeat (first | with_reducible exact Below.refl _ _ | with_reducible refine beld ?_ _ | (with_reducible refine Below.alloc ?_ ?_ _; rotate_left; exact (by first | (simp; done) | (simp; omega) | omega)) | (with_reducible refine Below.setCell ?_ ?_ _; rotate_left; exact (by first | (simp; done) | (simp; omega) | omega)))) (hb.mono (by first | (simp; done) | (simp; omega) | omega))
    have hB : Below w.heap.size w w16 := HB15.out.trans (hw.mono HB15.out.size)
    have hz16 : w15.heap.size ≤ w16.heap.size := hw.size
    have FS016 := Lib.hid (FS015.out.below hw FS015.out.2.2)
    have tS016 := FS016.out.2.2
    have FG016 := Lib.hid (FG015.out.below hw FG015.out.2.2)
    have tG016 := FG016.out.2.2
    have FI016 := Lib.hid (FI015.out.below hw FI015.out.2.2)
    have tI016 := FI016.out.2.2
    have bx : Bx w16 (w.heap.size) [.float .f32 p0, .float .f32 p1] := XA015.out.below hw XA015.out.1
    have XA016 := Lib.hid bx
    clear bx
    clear cA00 cA01
    have HB16 := Lib.hid hB
    have hs16 : w.heap.size ≤ w16.heap.size := HB16.out.size
    clear hB hw hb
    have cA00 := XA016.out.c 0 rfl
    have cA01 := XA016.out.c 1 rfl
    go_wp2_with fail
    refine (heldF_any (w5.heap.size) (w6.heap.size) (1) Z0.length aG0 capG0 _ (by first | exact FG016.out | exact FG016.out.alloc _) hlG0 (by omega)).mono ?_
    rintro e w' ⟨rfl, rfl⟩
    go_wp2_with fail
    go_ret
    exact ⟨rfl, Below.trans HB16.out ((by exact (by repeat (first | with_reducible exact Below.refl _ _ | with_reducible refine beld ?_ _ | (with_reducible refine Below.alloc ?_ ?_ _; rotate_left; exact (by first | (simp; done) | (simp; omega) | omega)) | (with_reducible refine Below.setCell ?_ ?_ _; rotate_left; exact (by first | (simp; done) | (simp; omega) | omega)))) : Below w16.heap.size w16 _).mono HB16.out.size)⟩

set_option maxHeartbeats 1000000 in
theorem walk_FnExactRouteReach (p0 p1 : Nat) (a1 : Option Addr) (len1 cap1 : Nat) (zs1 : List Nat) (t : Nat) (f : Nat) (w : World) (hp0 : p0 < 4294967296) (hp1 : p1 < 4294967296) (h1 : IsRowF .f32 w a1 len1 cap1 zs1) (ht : t < 4294967296) (hf : f < 4294967296) :
    Calls Try.prog 9 #[.agg #[.float .f32 p0, .float .f32 p1], .slice a1 len1 cap1, .float .f32 t, .float .f32 f] w fun e w' => e = .returned (.bool true) ∧ Below w.heap.size w w' := by
  obtain ⟨rfl, hcap1, hmax1, hr1, hz1⟩ := h1
  unfold maxLen at hmax1
  by_cases hl1 : zs1.length ≤ 1048576
  · exact routeReachLaw_fits p0 p1 a1 cap1 zs1 t f w hp0 hp1 hr1 hl1 hz1 ht hf
  · have hg : 1048576 < (zs1.length : Int) := by omega
    clear hr1 hz1
    go_enter Try.func9, Try.ntmps9
    go_wp2_with fail
    go_ret
    exact ⟨rfl, (bel1 _ _ )⟩
end Go.Proofs.Ytdoecpghlfjhiaa
