/- The walk of the law on UnitList. -/
import Derived.Test.YtfdcfalkidcdnabUnit
import Derived.Test.YtfdcfalkidcdnabTo
import Derived.Test.YtfdcfalkidcdnabSame
import Derived.Test.YtfdcfalkidcdnabEqF
import Derived.Test.YtfdcfalkidcdnabGrow
import Derived.DataShut
namespace Go.Proofs.Ytfdcfalkidcdnab
open Go.RowKit
set_option linter.unusedVariables false
set_option linter.unusedSimpArgs false
set_option maxRecDepth 100000
attribute [local irreducible] wpV wpList Code.wp

set_option maxHeartbeats 16000000 in
theorem unitListLaw_fits (n : Int) (r : Nat) (t : Nat) (c : Int) (w : World) (hnn : -9223372036854775808 ≤ n ∧ n ≤ 9223372036854775807) (hr : r < 4294967296) (ht : t < 4294967296) (hnc : -9223372036854775808 ≤ c ∧ c ≤ 9223372036854775807) :
    Calls Try.prog 6 #[.int .i64 n, .float .f32 r, .float .f32 t, .int .i64 c] w fun e w' => e = .returned (.bool true) ∧ Below w.heap.size w w' := by
  obtain ⟨⟨Z0, B⟩, hR⟩ : ∃ R, unitO n (some r) (some t) c = R := ⟨_, rfl⟩
  have cS : ∀  (W : World), Calls Try.prog 29 #[.int .i64 n, .float .f32 r, .float .f32 t, .int .i64 c] W (ListB (Z0, B) W) := by
    intro  W 
    have := unitList_s n c W (Is32.c hr) (Is32.c ht)
    rw [hR] at this
    exact this
  have cI : ∀  (W : World), Calls Try.prog 30 #[.int .i64 n, .float .f32 r, .float .f32 t, .int .i64 c] W (ListB (Z0, B) W) := by
    intro  W 
    have := unitList_i n c W (Is32.c hr) (Is32.c ht)
    rw [hR] at this
    exact this
  have HS := Lib.hid cS
  have HI := Lib.hid cI
  clear cS cI hR
  cases B
  all_goals
    go_enter Try.func6, Try.ntmps6
    go_wp2_with fail
    refine (HS.out  _ ).mono ?_
    rintro e w1 ⟨aS0, capS0, rfl, hfS0, hlS0, hb⟩
    have hw : Below w.heap.size w w1 := Below.trans (by repeat (first | with_reducible exact Below.refl _ _ | with_reducible refine beld ?_ _ | (with_reducible refine Below.alloc ?_ ?_ _; rotate_left; exact (by first | (simp; done) | (simp; omega) | omega)) | (with_reducible refine Below.setCell ?_ ?_ _; rotate_left; exact (by first | (simp; done) | (simp; omega) | omega)))) (hb.mono (by first | (simp; done) | (simp; omega) | omega))
    have hB : Below w.heap.size w w1 := hw
    have hz1 : w.heap.size ≤ w1.heap.size := hw.size
    have FS01 := Lib.hid (hfS0.mono (lo' := w.heap.size) (by first | (simp; done) | (simp; omega) | omega) (Nat.le_refl _) (Nat.le_refl _))
    have tS01 := FS01.out.2.2
    have HB1 := Lib.hid hB
    have hs1 : w.heap.size ≤ w1.heap.size := HB1.out.size
    clear hB hw hb
    go_wp2_with fail
    refine (HI.out  _ ).mono ?_
    rintro e w2 ⟨aG0, capG0, rfl, hfG0, hlG0, hb⟩
    have hw : Below w1.heap.size w1 w2 := Below.trans (by repeat (first | with_reducible exact Below.refl _ _ | with_reducible refine beld ?_ _ | (with_reducible refine Below.alloc ?_ ?_ _; rotate_left; exact (by first | (simp; done) | (simp; omega) | omega)) | (with_reducible refine Below.setCell ?_ ?_ _; rotate_left; exact (by first | (simp; done) | (simp; omega) | omega)))) (hb.mono (by first | (simp; done) | (simp; omega) | omega))
    have hB : Below w.heap.size w w2 := HB1.out.trans (hw.mono HB1.out.size)
    have hz2 : w1.heap.size ≤ w2.heap.size := hw.size
    have FS02 := Lib.hid (FS01.out.below hw FS01.out.2.2)
    have tS02 := FS02.out.2.2
    have FG02 := Lib.hid (hfG0.mono (lo' := w1.heap.size) (by first | (simp; done) | (simp; omega) | omega) (Nat.le_refl _) (Nat.le_refl _))
    have tG02 := FG02.out.2.2
    have HB2 := Lib.hid hB
    have hs2 : w.heap.size ≤ w2.heap.size := HB2.out.size
    clear hB hw hb
    go_wp2_with fail
    refine (eqF_b aG0 aS0 capG0 capS0 Z0 _ (by first | exact FG02.out.row | exact (FG02.out.alloc _).row) (by first | exact FS02.out.row | exact (FS02.out.alloc _).row) hlG0).mono ?_
    rintro e w3 ⟨rfl, hb⟩
    have hw : Below w2.heap.size w2 w3 := Below.trans (by repeat (first | with_reducible exact Below.refl _ _ | with_reducible refine beld ?_ _ | (with_reducible refine Below.alloc ?_ ?_ _; rotate_left; exact (by first | (simp; done) | (simp; omega) | omega)) | (with_reducible refine Below.setCell ?_ ?_ _; rotate_left; exact (by first | (simp; done) | (simp; omega) | omega)))) (hb.mono (by first | (simp; done) | (simp; omega) | omega))
    have hB : Below w.heap.size w w3 := HB2.out.trans (hw.mono HB2.out.size)
    have hz3 : w2.heap.size ≤ w3.heap.size := hw.size
    have FS03 := Lib.hid (FS02.out.below hw FS02.out.2.2)
    have tS03 := FS03.out.2.2
    have FG03 := Lib.hid (FG02.out.below hw FG02.out.2.2)
    have tG03 := FG03.out.2.2
    have HB3 := Lib.hid hB
    have hs3 : w.heap.size ≤ w3.heap.size := HB3.out.size
    clear hB hw hb
    go_wp2_with fail
    refine (markF_any (w1.heap.size) (w2.heap.size) (1) aG0 capG0 Z0 _ (by first | exact FG03.out | exact (FG03.out.alloc _)) hlG0 (by omega)).mono ?_
    rintro e w4 ⟨rfl, hf, hk⟩
    have hw : Kept (w1.heap.size) (w2.heap.size) w3 w4 := (Kept.of_below (by repeat (first | with_reducible exact Below.refl _ _ | with_reducible refine beld ?_ _ | (with_reducible refine Below.alloc ?_ ?_ _; rotate_left; exact (by first | (simp; done) | (simp; omega) | omega)) | (with_reducible refine Below.setCell ?_ ?_ _; rotate_left; exact (by first | (simp; done) | (simp; omega) | omega)))) (Nat.le_refl _)).trans hk
    have hB : Below w.heap.size w w4 := HB3.out.trans (hw.below (by omega) (by omega))
    have hz4 : w3.heap.size ≤ w4.heap.size := hw.size
    have FS04 := Lib.hid (FS03.out.kept hw (by omega))
    have tS04 := FS04.out.2.2
    have FG04 := Lib.hid hf
    have tG04 := FG04.out.2.2
    have HB4 := Lib.hid hB
    have hs4 : w.heap.size ≤ w4.heap.size := HB4.out.size
    clear hB hw hk
    have hcG0 : ¬ (((1 + Z0.length) : Nat) : Int) < 0 := by omega
    go_wp2_with fail
    refine (heldF_any (w1.heap.size) (w2.heap.size) (1) Z0.length aG0 capG0 _ (by first | exact FG04.out | exact FG04.out.alloc _) hlG0 (by omega)).mono ?_
    rintro e w' ⟨rfl, rfl⟩
    go_wp2_with fail
    refine (HI.out  _ ).mono ?_
    rintro e w5 ⟨aI0, capI0, rfl, hfI0, hlI0, hb⟩
    have hw : Below w4.heap.size w4 w5 := Below.trans (by repeat (first | with_reducible exact Below.refl _ _ | with_reducible refine beld ?_ _ | (with_reducible refine Below.alloc ?_ ?_ _; rotate_left; exact (by first | (simp; done) | (simp; omega) | omega)) | (with_reducible refine Below.setCell ?_ ?_ _; rotate_left; exact (by first | (simp; done) | (simp; omega) | omega)))) (hb.mono (by first | (simp; done) | (simp; omega) | omega))
    have hB : Below w.heap.size w w5 := HB4.out.trans (hw.mono HB4.out.size)
    have hz5 : w4.heap.size ≤ w5.heap.size := hw.size
    have FS05 := Lib.hid (FS04.out.below hw FS04.out.2.2)
    have tS05 := FS05.out.2.2
    have FG05 := Lib.hid (FG04.out.below hw FG04.out.2.2)
    have tG05 := FG05.out.2.2
    have FI05 := Lib.hid (hfI0.mono (lo' := w4.heap.size) (by first | (simp; done) | (simp; omega) | omega) (Nat.le_refl _) (Nat.le_refl _))
    have tI05 := FI05.out.2.2
    have HB5 := Lib.hid hB
    have hs5 : w.heap.size ≤ w5.heap.size := HB5.out.size
    clear hB hw hb
    go_wp2_with fail
    refine (eqF_b aI0 aS0 capI0 capS0 Z0 _ (by first | exact FI05.out.row | exact (FI05.out.alloc _).row) (by first | exact FS05.out.row | exact (FS05.out.alloc _).row) hlI0).mono ?_
    rintro e w6 ⟨rfl, hb⟩
    have hw : Below w5.heap.size w5 w6 := Below.trans (by repeat (first | with_reducible exact Below.refl _ _ | with_reducible refine beld ?_ _ | (with_reducible refine Below.alloc ?_ ?_ _; rotate_left; exact (by first | (simp; done) | (simp; omega) | omega)) | (with_reducible refine Below.setCell ?_ ?_ _; rotate_left; exact (by first | (simp; done) | (simp; omega) | omega)))) (hb.mono (by first | (simp; done) | (simp; omega) | omega))
    have hB : Below w.heap.size w w6 := HB5.out.trans (hw.mono HB5.out.size)
    have hz6 : w5.heap.size ≤ w6.heap.size := hw.size
    have FS06 := Lib.hid (FS05.out.below hw FS05.out.2.2)
    have tS06 := FS06.out.2.2
    have FG06 := Lib.hid (FG05.out.below hw FG05.out.2.2)
    have tG06 := FG06.out.2.2
    have FI06 := Lib.hid (FI05.out.below hw FI05.out.2.2)
    have tI06 := FI06.out.2.2
    have HB6 := Lib.hid hB
    have hs6 : w.heap.size ≤ w6.heap.size := HB6.out.size
    clear hB hw hb
    go_wp2_with fail
    refine (heldF_any (w1.heap.size) (w2.heap.size) (1) Z0.length aG0 capG0 _ (by first | exact FG06.out | exact FG06.out.alloc _) hlG0 (by omega)).mono ?_
    rintro e w' ⟨rfl, rfl⟩
    go_wp2_with fail
    go_ret
    exact ⟨rfl, Below.trans HB6.out ((by exact (by repeat (first | with_reducible exact Below.refl _ _ | with_reducible refine beld ?_ _ | (with_reducible refine Below.alloc ?_ ?_ _; rotate_left; exact (by first | (simp; done) | (simp; omega) | omega)) | (with_reducible refine Below.setCell ?_ ?_ _; rotate_left; exact (by first | (simp; done) | (simp; omega) | omega)))) : Below w6.heap.size w6 _).mono HB6.out.size)⟩

set_option maxHeartbeats 1000000 in
theorem walk_FnExactUnitList (n : Int) (r : Nat) (t : Nat) (c : Int) (w : World) (hwn : (Lit.int .i64 n).wf = true) (hr : r < 4294967296) (ht : t < 4294967296) (hwc : (Lit.int .i64 c).wf = true) :
    Calls Try.prog 6 #[.int .i64 n, .float .f32 r, .float .f32 t, .int .i64 c] w fun e w' => e = .returned (.bool true) ∧ Below w.heap.size w w' := by
  have hnn : -9223372036854775808 ≤ n ∧ n ≤ 9223372036854775807 := by have h9 := (Lit.wf_int_iff .i64 n).1 hwn; have e1 : IntKind.min .i64 = -9223372036854775808 := (by decide +kernel); have e2 : IntKind.max .i64 = 9223372036854775807 := (by decide +kernel); omega
  have hnc : -9223372036854775808 ≤ c ∧ c ≤ 9223372036854775807 := by have h9 := (Lit.wf_int_iff .i64 c).1 hwc; have e1 : IntKind.min .i64 = -9223372036854775808 := (by decide +kernel); have e2 : IntKind.max .i64 = 9223372036854775807 := (by decide +kernel); omega
  exact unitListLaw_fits n r t c w hnn hr ht hnc
end Go.Proofs.Ytfdcfalkidcdnab
