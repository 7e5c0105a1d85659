/- The walk of the law on BackWater. -/
import Derived.Test.YtfdcfalkidcdnaaSecX
import Derived.Test.YtfdcfalkidcdnaaTo
import Derived.Test.YtfdcfalkidcdnaaSame
import Derived.Test.YtfdcfalkidcdnaaEqF
import Derived.Test.YtfdcfalkidcdnaaGrow
import Derived.DataShut
namespace Go.Proofs.Ytfdcfalkidcdnaa
open Go.RowKit
set_option linter.unusedVariables false
set_option linter.unusedSimpArgs false
set_option maxRecDepth 100000
attribute [local irreducible] wpV wpList Code.wp

set_option maxHeartbeats 16000000 in
theorem backWaterLaw_fits (a0 a1 a2 a3 : Nat) (d : Nat) (f : Nat) (l : Nat) (n : Int) (w : World) (ha0 : a0 < 4294967296) (ha1 : a1 < 4294967296) (ha2 : a2 < 4294967296) (ha3 : a3 < 4294967296) (hd : d < 4294967296) (hf : f < 4294967296) (hl : l < 4294967296) (hnn : -9223372036854775808 ≤ n ∧ n ≤ 9223372036854775807) :
    Calls Try.prog 9 #[.agg #[.float .f32 a0, .float .f32 a1, .float .f32 a2, .float .f32 a3], .float .f32 d, .float .f32 f, .float .f32 l, .int .i64 n] w fun e w' => e = .returned (.bool true) ∧ Below w.heap.size w w' := by
  obtain ⟨⟨Z0, B⟩, hR⟩ : ∃ R, waterO (some a0) (some a1) (some a2) (some a3) (some d) (some f) (some l) n = R := ⟨_, rfl⟩
  have cS : ∀  (W : World), Calls Try.prog 29 #[.agg #[.float .f32 a0, .float .f32 a1, .float .f32 a2, .float .f32 a3], .float .f32 d, .float .f32 f, .float .f32 l, .int .i64 n] W (ListB (Z0, B) W) := by
    intro  W 
    have := backWater_s n W (Is32.c ha0) (Is32.c ha1) (Is32.c ha2) (Is32.c ha3) (Is32.c hd) (Is32.c hf) (Is32.c hl)
    rw [hR] at this
    exact this
  have cI : ∀  (W : World), Calls Try.prog 30 #[.agg #[.float .f32 a0, .float .f32 a1, .float .f32 a2, .float .f32 a3], .float .f32 d, .float .f32 f, .float .f32 l, .int .i64 n] W (ListB (Z0, B) W) := by
    intro  W 
    have := backWater_i n W (Is32.c ha0) (Is32.c ha1) (Is32.c ha2) (Is32.c ha3) (Is32.c hd) (Is32.c hf) (Is32.c hl)
    rw [hR] at this
    exact this
  have HS := Lib.hid cS
  have HI := Lib.hid cI
  clear cS cI hR
  cases B
  all_goals
    go_enter Try.func9, Try.ntmps9
    go_wp2_with fail
    refine (toSection_o _ _ _ _  _).mono ?_
    rintro e w1 ⟨rfl, hb⟩
    have hw : Below w.heap.size w w1 := Below.trans (by repeat (first | with_reducible exact Below.refl _ _ | with_reducible refine beld ?_ _ | (with_reducible refine Below.alloc ?_ ?_ _; rotate_left; exact (by first | (simp; done) | (simp; omega) | omega)) | (with_reducible refine Below.setCell ?_ ?_ _; rotate_left; exact (by first | (simp; done) | (simp; omega) | omega)))) (hb.mono (by first | (simp; done) | (simp; omega) | omega))
    have hB : Below w.heap.size w w1 := hw
    have hz1 : w.heap.size ≤ w1.heap.size := hw.size
    have hx1 : w.heap.size + 1 ≤ w1.heap.size := (by have := hb.size; (try simp at this); omega)
    have bx : Bx w1 (w.heap.size) [.float .f32 a0, .float .f32 a1, .float .f32 a2, .float .f32 a3] := (by first | exact Bx.below (Bx.new w [_, _, _, _] _) hb (by first | (simp; done) | (simp; omega) | omega) | exact Bx.below (Bx.drewN (Bx.new w [_, _, _, _] _) _) hb (by first | (simp; done) | (simp; omega) | omega))
    have XA01 := Lib.hid bx
    clear bx
    have HB1 := Lib.hid hB
    have hs1 : w.heap.size ≤ w1.heap.size := HB1.out.size
    clear hB hw hb
    have cA00 := XA01.out.c 0 rfl
    have cA01 := XA01.out.c 1 rfl
    have cA02 := XA01.out.c 2 rfl
    have cA03 := XA01.out.c 3 rfl
    go_wp2_with fail
    refine (HS.out  _ ).mono ?_
    rintro e w2 ⟨aS0, capS0, rfl, hfS0, hlS0, hb⟩
    have hw : Below w1.heap.size w1 w2 := Below.trans (by repeat (first | with_reducible exact Below.refl _ _ | with_reducible refine beld ?_ _ | (with_reducible refine Below.alloc ?_ ?_ _; rotate_left; exact (by first | (simp; done) | (simp; omega) | omega)) | (with_reducible refine Below.setCell ?_ ?_ _; rotate_left; exact (by first | (simp; done) | (simp; omega) | omega)))) (hb.mono (by first | (simp; done) | (simp; omega) | omega))
    have hB : Below w.heap.size w w2 := HB1.out.trans (hw.mono HB1.out.size)
    have hz2 : w1.heap.size ≤ w2.heap.size := hw.size
    have bx : Bx w2 (w.heap.size) [.float .f32 a0, .float .f32 a1, .float .f32 a2, .float .f32 a3] := XA01.out.below hw XA01.out.1
    have XA02 := Lib.hid bx
    clear bx
    clear cA00 cA01 cA02 cA03
    have FS02 := Lib.hid (hfS0.mono (lo' := w1.heap.size) (by first | (simp; done) | (simp; omega) | omega) (Nat.le_refl _) (Nat.le_refl _))
    have tS02 := FS02.out.2.2
    have HB2 := Lib.hid hB
    have hs2 : w.heap.size ≤ w2.heap.size := HB2.out.size
    clear hB hw hb
    have cA00 := XA02.out.c 0 rfl
    have cA01 := XA02.out.c 1 rfl
    have cA02 := XA02.out.c 2 rfl
    have cA03 := XA02.out.c 3 rfl
    go_wp2_with fail
    refine (toSection_o _ _ _ _  _).mono ?_
    rintro e w3 ⟨rfl, hb⟩
    have hw : Below w2.heap.size w2 w3 := Below.trans (by repeat (first | with_reducible exact Below.refl _ _ | with_reducible refine beld ?_ _ | (with_reducible refine Below.alloc ?_ ?_ _; rotate_left; exact (by first | (simp; done) | (simp; omega) | omega)) | (with_reducible refine Below.setCell ?_ ?_ _; rotate_left; exact (by first | (simp; done) | (simp; omega) | omega)))) (hb.mono (by first | (simp; done) | (simp; omega) | omega))
    have hB : Below w.heap.size w w3 := HB2.out.trans (hw.mono HB2.out.size)
    have hz3 : w2.heap.size ≤ w3.heap.size := hw.size
    have FS03 := Lib.hid (FS02.out.below hw FS02.out.2.2)
    have tS03 := FS03.out.2.2
    have bx : Bx w3 (w.heap.size) [.float .f32 a0, .float .f32 a1, .float .f32 a2, .float .f32 a3] := XA02.out.below hw XA02.out.1
    have XA03 := Lib.hid bx
    clear bx
    clear cA00 cA01 cA02 cA03
    have HB3 := Lib.hid hB
    have hs3 : w.heap.size ≤ w3.heap.size := HB3.out.size
    clear hB hw hb
    have cA00 := XA03.out.c 0 rfl
    have cA01 := XA03.out.c 1 rfl
    have cA02 := XA03.out.c 2 rfl
    have cA03 := XA03.out.c 3 rfl
    go_wp2_with fail
    refine (HI.out  _ ).mono ?_
    rintro e w4 ⟨aG0, capG0, rfl, hfG0, hlG0, hb⟩
    have hw : Below w3.heap.size w3 w4 := Below.trans (by repeat (first | with_reducible exact Below.refl _ _ | with_reducible refine beld ?_ _ | (with_reducible refine Below.alloc ?_ ?_ _; rotate_left; exact (by first | (simp; done) | (simp; omega) | omega)) | (with_reducible refine Below.setCell ?_ ?_ _; rotate_left; exact (by first | (simp; done) | (simp; omega) | omega)))) (hb.mono (by first | (simp; done) | (simp; omega) | omega))
    have hB : Below w.heap.size w w4 := HB3.out.trans (hw.mono HB3.out.size)
    have hz4 : w3.heap.size ≤ w4.heap.size := hw.size
    have FS04 := Lib.hid (FS03.out.below hw FS03.out.2.2)
    have tS04 := FS04.out.2.2
    have bx : Bx w4 (w.heap.size) [.float .f32 a0, .float .f32 a1, .float .f32 a2, .float .f32 a3] := XA03.out.below hw XA03.out.1
    have XA04 := Lib.hid bx
    clear bx
    clear cA00 cA01 cA02 cA03
    have FG04 := Lib.hid (hfG0.mono (lo' := w3.heap.size) (by first | (simp; done) | (simp; omega) | omega) (Nat.le_refl _) (Nat.le_refl _))
    have tG04 := FG04.out.2.2
    have HB4 := Lib.hid hB
    have hs4 : w.heap.size ≤ w4.heap.size := HB4.out.size
    clear hB hw hb
    have cA00 := XA04.out.c 0 rfl
    have cA01 := XA04.out.c 1 rfl
    have cA02 := XA04.out.c 2 rfl
    have cA03 := XA04.out.c 3 rfl
    go_wp2_with fail
    refine (eqF_b aG0 aS0 capG0 capS0 Z0 _ (by first | exact FG04.out.row | exact (FG04.out.alloc _).row) (by first | exact FS04.out.row | exact (FS04.out.alloc _).row) hlG0).mono ?_
    rintro e w5 ⟨rfl, hb⟩
    have hw : Below w4.heap.size w4 w5 := Below.trans (by repeat (first | with_reducible exact Below.refl _ _ | with_reducible refine beld ?_ _ | (with_reducible refine Below.alloc ?_ ?_ _; rotate_left; exact (by first | (simp; done) | (simp; omega) | omega)) | (with_reducible refine Below.setCell ?_ ?_ _; rotate_left; exact (by first | (simp; done) | (simp; omega) | omega)))) (hb.mono (by first | (simp; done) | (simp; omega) | omega))
    have hB : Below w.heap.size w w5 := HB4.out.trans (hw.mono HB4.out.size)
    have hz5 : w4.heap.size ≤ w5.heap.size := hw.size
    have FS05 := Lib.hid (FS04.out.below hw FS04.out.2.2)
    have tS05 := FS05.out.2.2
    have FG05 := Lib.hid (FG04.out.below hw FG04.out.2.2)
    have tG05 := FG05.out.2.2
    have bx : Bx w5 (w.heap.size) [.float .f32 a0, .float .f32 a1, .float .f32 a2, .float .f32 a3] := XA04.out.below hw XA04.out.1
    have XA05 := Lib.hid bx
    clear bx
    clear cA00 cA01 cA02 cA03
    have HB5 := Lib.hid hB
    have hs5 : w.heap.size ≤ w5.heap.size := HB5.out.size
    clear hB hw hb
    have cA00 := XA05.out.c 0 rfl
    have cA01 := XA05.out.c 1 rfl
    have cA02 := XA05.out.c 2 rfl
    have cA03 := XA05.out.c 3 rfl
    go_wp2_with fail
    refine (markF_any (w3.heap.size) (w4.heap.size) (1) aG0 capG0 Z0 _ (by first | exact FG05.out | exact (FG05.out.alloc _)) hlG0 (by omega)).mono ?_
    rintro e w6 ⟨rfl, hf, hk⟩
    have hw : Kept (w3.heap.size) (w4.heap.size) w5 w6 := (Kept.of_below (by repeat (first | with_reducible exact Below.refl _ _ | with_reducible refine beld ?_ _ | (with_reducible refine Below.alloc ?_ ?_ _; rotate_left; exact (by first | (simp; done) | (simp; omega) | omega)) | (with_reducible refine Below.setCell ?_ ?_ _; rotate_left; exact (by first | (simp; done) | (simp; omega) | omega)))) (Nat.le_refl _)).trans hk
    have hB : Below w.heap.size w w6 := HB5.out.trans (hw.below (by omega) (by omega))
    have hz6 : w5.heap.size ≤ w6.heap.size := hw.size
    have FS06 := Lib.hid (FS05.out.kept hw (by omega))
    have tS06 := FS06.out.2.2
    have bx : Bx w6 (w.heap.size) [.float .f32 a0, .float .f32 a1, .float .f32 a2, .float .f32 a3] := XA05.out.kept hw (by have := XA05.out.1; omega)
    have XA06 := Lib.hid bx
    clear bx
    clear cA00 cA01 cA02 cA03
    have FG06 := Lib.hid hf
    have tG06 := FG06.out.2.2
    have HB6 := Lib.hid hB
    have hs6 : w.heap.size ≤ w6.heap.size := HB6.out.size
    clear hB hw hk
    have cA00 := XA06.out.c 0 rfl
    have cA01 := XA06.out.c 1 rfl
    have cA02 := XA06.out.c 2 rfl
    have cA03 := XA06.out.c 3 rfl
    have hcG0 : ¬ (((1 + Z0.length) : Nat) : Int) < 0 := by omega
    go_wp2_with fail
    refine (heldF_any (w3.heap.size) (w4.heap.size) (1) Z0.length aG0 capG0 _ (by first | exact FG06.out | exact FG06.out.alloc _) hlG0 (by omega)).mono ?_
    rintro e w' ⟨rfl, rfl⟩
    go_wp2_with fail
    refine (toSection_o _ _ _ _  _).mono ?_
    rintro e w7 ⟨rfl, hb⟩
    have hw : Below w6.heap.size w6 w7 := Below.trans (by repeat (first | with_reducible exact Below.refl _ _ | with_reducible refine beld ?_ _ | (with_reducible refine Below.alloc ?_ ?_ _; rotate_left; exact (by first | (simp; done) | (simp; omega) | omega)) | (with_reducible refine Below.setCell ?_ ?_ _; rotate_left; exact (by first | (simp; done) | (simp; omega) | omega)))) (hb.mono (by first | (simp; done) | (simp; omega) | omega))
    have hB : Below w.heap.size w w7 := HB6.out.trans (hw.mono HB6.out.size)
    have hz7 : w6.heap.size ≤ w7.heap.size := hw.size
    have FS07 := Lib.hid (FS06.out.below hw FS06.out.2.2)
    have tS07 := FS07.out.2.2
    have FG07 := Lib.hid (FG06.out.below hw FG06.out.2.2)
    have tG07 := FG07.out.2.2
    have bx : Bx w7 (w.heap.size) [.float .f32 a0, .float .f32 a1, .float .f32 a2, .float .f32 a3] := XA06.out.below hw XA06.out.1
    have XA07 := Lib.hid bx
    clear bx
    clear cA00 cA01 cA02 cA03
    have HB7 := Lib.hid hB
    have hs7 : w.heap.size ≤ w7.heap.size := HB7.out.size
    clear hB hw hb
    have cA00 := XA07.out.c 0 rfl
    have cA01 := XA07.out.c 1 rfl
    have cA02 := XA07.out.c 2 rfl
    have cA03 := XA07.out.c 3 rfl
    go_wp2_with fail
    refine (HI.out  _ ).mono ?_
    rintro e w8 ⟨aI0, capI0, rfl, hfI0, hlI0, hb⟩
    have hw : Below w7.heap.size w7 w8 := Below.trans (by repeat (first | with_reducible exact Below.refl _ _ | with_reducible refine beld ?_ _ | (with_reducible refine Below.alloc ?_ ?_ _; rotate_left; exact (by first | (simp; done) | (simp; omega) | omega)) | (with_reducible refine Below.setCell ?_ ?_ _; rotate_left; exact (by first | (simp; done) | (simp; omega) | omega)))) (hb.mono (by first | (simp; done) | (simp; omega) | omega))
    have hB : Below w.heap.size w w8 := HB7.out.trans (hw.mono HB7.out.size)
    have hz8 : w7.heap.size ≤ w8.heap.size := hw.size
    have FS08 := Lib.hid (FS07.out.below hw FS07.out.2.2)
    have tS08 := FS08.out.2.2
    have FG08 := Lib.hid (FG07.out.below hw FG07.out.2.2)
    have tG08 := FG08.out.2.2
    have bx : Bx w8 (w.heap.size) [.float .f32 a0, .float .f32 a1, .float .f32 a2, .float .f32 a3] := XA07.out.below hw XA07.out.1
    have XA08 := Lib.hid bx
    clear bx
    clear cA00 cA01 cA02 cA03
    have FI08 := Lib.hid (hfI0.mono (lo' := w7.heap.size) (by first | (simp; done) | (simp; omega) | omega) (Nat.le_refl _) (Nat.le_refl _))
    have tI08 := FI08.out.2.2
    have HB8 := Lib.hid hB
    have hs8 : w.heap.size ≤ w8.heap.size := HB8.out.size
    clear hB hw hb
    have cA00 := XA08.out.c 0 rfl
    have cA01 := XA08.out.c 1 rfl
    have cA02 := XA08.out.c 2 rfl
    have cA03 := XA08.out.c 3 rfl
    go_wp2_with fail
    refine (eqF_b aI0 aS0 capI0 capS0 Z0 _ (by first | exact FI08.out.row | exact (FI08.out.alloc _).row) (by first | exact FS08.out.row | exact (FS08.out.alloc _).row) hlI0).mono ?_
    rintro e w9 ⟨rfl, hb⟩
    have hw : Below w8.heap.size w8 w9 := Below.trans (by repeat (first | with_reducible exact Below.refl _ _ | with_reducible refine beld ?_ _ | (with_reducible refine Below.alloc ?_ ?_ _; rotate_left; exact (by first | (simp; done) | (simp; omega) | omega)) | (with_reducible refine Below.setCell ?_ ?_ _; rotate_left; exact (by first | (simp; done) | (simp; omega) | omega)))) (hb.mono (by first | (simp; done) | (simp; omega) | omega))
    have hB : Below w.heap.size w w9 := HB8.out.trans (hw.mono HB8.out.size)
    have hz9 : w8.heap.size ≤ w9.heap.size := hw.size
    have FS09 := Lib.hid (FS08.out.below hw FS08.out.2.2)
    have tS09 := FS09.out.2.2
    have FG09 := Lib.hid (FG08.out.below hw FG08.out.2.2)
    have tG09 := FG09.out.2.2
    have FI09 := Lib.hid (FI08.out.below hw FI08.out.2.2)
    have tI09 := FI09.out.2.2
    have bx : Bx w9 (w.heap.size) [.float .f32 a0, .float .f32 a1, .float .f32 a2, .float .f32 a3] := XA08.out.below hw XA08.out.1
    have XA09 := Lib.hid bx
    clear bx
    clear cA00 cA01 cA02 cA03
    have HB9 := Lib.hid hB
    have hs9 : w.heap.size ≤ w9.heap.size := HB9.out.size
    clear hB hw hb
    have cA00 := XA09.out.c 0 rfl
    have cA01 := XA09.out.c 1 rfl
    have cA02 := XA09.out.c 2 rfl
    have cA03 := XA09.out.c 3 rfl
    go_wp2_with fail
    refine (heldF_any (w3.heap.size) (w4.heap.size) (1) Z0.length aG0 capG0 _ (by first | exact FG09.out | exact FG09.out.alloc _) hlG0 (by omega)).mono ?_
    rintro e w' ⟨rfl, rfl⟩
    go_wp2_with fail
    go_ret
    exact ⟨rfl, Below.trans HB9.out ((by exact (by repeat (first | with_reducible exact Below.refl _ _ | with_reducible refine beld ?_ _ | (with_reducible refine Below.alloc ?_ ?_ _; rotate_left; exact (by first | (simp; done) | (simp; omega) | omega)) | (with_reducible refine Below.setCell ?_ ?_ _; rotate_left; exact (by first | (simp; done) | (simp; omega) | omega)))) : Below w9.heap.size w9 _).mono HB9.out.size)⟩

set_option maxHeartbeats 1000000 in
theorem walk_FnExactBackWater (a0 a1 a2 a3 : Nat) (d : Nat) (f : Nat) (l : Nat) (n : Int) (w : World) (ha0 : a0 < 4294967296) (ha1 : a1 < 4294967296) (ha2 : a2 < 4294967296) (ha3 : a3 < 4294967296) (hd : d < 4294967296) (hf : f < 4294967296) (hl : l < 4294967296) (hwn : (Lit.int .i64 n).wf = true) :
    Calls Try.prog 9 #[.agg #[.float .f32 a0, .float .f32 a1, .float .f32 a2, .float .f32 a3], .float .f32 d, .float .f32 f, .float .f32 l, .int .i64 n] w fun e w' => e = .returned (.bool true) ∧ Below w.heap.size w w' := by
  have hnn : -9223372036854775808 ≤ n ∧ n ≤ 9223372036854775807 := by have h9 := (Lit.wf_int_iff .i64 n).1 hwn; have e1 : IntKind.min .i64 = -9223372036854775808 := (by decide +kernel); have e2 : IntKind.max .i64 = 9223372036854775807 := (by decide +kernel); omega
  exact backWaterLaw_fits a0 a1 a2 a3 d f l n w ha0 ha1 ha2 ha3 hd hf hl hnn
end Go.Proofs.Ytfdcfalkidcdnaa
