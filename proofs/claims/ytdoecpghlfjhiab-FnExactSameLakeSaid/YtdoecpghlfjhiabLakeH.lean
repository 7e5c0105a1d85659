/- The law's helpers on structs with two lists (Lake). -/
import Derived.Test.YtdoecpghlfjhiabSame
import Derived.Test.YtdoecpghlfjhiabBw
import Derived.Test.YtdoecpghlfjhiabNegO
namespace Go.Proofs.Ytdoecpghlfjhiab
open Go.RowKit
set_option linter.unusedVariables false
set_option linter.unusedSimpArgs false
set_option maxRecDepth 100000
attribute [local irreducible] wpV wpList Code.wp

set_option maxHeartbeats 800000 in
theorem szLake_fits (a0 a1 : Option Addr) (l0 l1 c0 c1 : Nat) (left : Int) (h : (l0 : Int) + (l1 : Int) ≤ left) (hl : left ≤ 1048576) (w : World) :
    Calls Try.prog 40 #[.agg #[.slice a0 l0 c0, .slice a1 l1 c1], .int .i64 left] w fun e w' => e = .returned (.int .i64 (left - l0 - l1)) ∧ Below w.heap.size w w' := by
  have h2 : ¬ left - (l0 : Int) < 0 := by omega
  have h3 : ¬ left - (l0 : Int) - (l1 : Int) < 0 := by omega
  go_enter Try.func40, Try.ntmps40
  go_wp2
  go_ret
  exact ⟨rfl, (by repeat (first | with_reducible exact Below.refl _ _ | with_reducible refine beld ?_ _ | (with_reducible refine Below.alloc ?_ ?_ _; rotate_left; exact (by first | (simp; done) | (simp; omega) | omega)) | (with_reducible refine Below.setCell ?_ ?_ _; rotate_left; exact (by first | (simp; done) | (simp; omega) | omega))))⟩

set_option maxHeartbeats 800000 in
theorem szLake_not (a0 a1 : Option Addr) (l0 l1 c0 c1 : Nat) (left : Int) (h : left < (l0 : Int) + (l1 : Int)) (h0 : 0 ≤ left) (hl : left ≤ 1048576) (hm0 : l0 ≤ 9223372036854775807) (hm1 : l1 ≤ 9223372036854775807) (w : World) :
    Calls Try.prog 40 #[.agg #[.slice a0 l0 c0, .slice a1 l1 c1], .int .i64 left] w fun e w' => e = .returned (.int .i64 (-1)) ∧ Below w.heap.size w w' := by
  by_cases h2 : left - (l0 : Int) < 0
  · go_enter Try.func40, Try.ntmps40
    go_wp2
    go_ret
    exact ⟨rfl, (by repeat (first | with_reducible exact Below.refl _ _ | with_reducible refine beld ?_ _ | (with_reducible refine Below.alloc ?_ ?_ _; rotate_left; exact (by first | (simp; done) | (simp; omega) | omega)) | (with_reducible refine Below.setCell ?_ ?_ _; rotate_left; exact (by first | (simp; done) | (simp; omega) | omega))))⟩
  · have h3 : left - (l0 : Int) - (l1 : Int) < 0 := by omega
    go_enter Try.func40, Try.ntmps40
    go_wp2
    go_ret
    exact ⟨rfl, (by repeat (first | with_reducible exact Below.refl _ _ | with_reducible refine beld ?_ _ | (with_reducible refine Below.alloc ?_ ?_ _; rotate_left; exact (by first | (simp; done) | (simp; omega) | omega)) | (with_reducible refine Below.setCell ?_ ?_ _; rotate_left; exact (by first | (simp; done) | (simp; omega) | omega))))⟩

/-- A copy: its lists in blocks of their own. -/
def CopyLake (w : World) (zs0 zs1 : List Nat) (e : Ending) (w' : World) : Prop :=
  ∃ a0 c0 a1 c1 mid, e = .returned (.agg #[.slice a0 zs0.length c0, .slice a1 zs1.length c1]) ∧ Below w.heap.size w w' ∧ FRow w' w.heap.size mid (.slice a0 zs0.length c0) zs0 ∧ FRow w' mid w'.heap.size (.slice a1 zs1.length c1) zs1 ∧ w.heap.size ≤ mid ∧ mid ≤ w'.heap.size
set_option maxHeartbeats 4000000 in
theorem toLake_any (a0 a1 : Option Addr) (c0 c1 : Nat) (zs0 zs1 : List Nat) (w : World) (hr0 : RowF .f32 w a0 zs0) (hl0 : zs0.length ≤ 1048576) (hr1 : RowF .f32 w a1 zs1) (hl1 : zs1.length ≤ 1048576) :
    Calls Try.prog 42 #[.agg #[.slice a0 zs0.length c0, .slice a1 zs1.length c1]] w (CopyLake w zs0 zs1) := by
  have Hr0 := Lib.hid hr0
  have Hr1 := Lib.hid hr1
  clear hr0 hr1
  go_enter Try.func42, Try.ntmps42
  go_wp2_with fail
  refine (copyF_any a0 c0 zs0 _ (Hr0.out.below (by repeat (first | with_reducible exact Below.refl _ _ | with_reducible refine beld ?_ _ | (with_reducible refine Below.alloc ?_ ?_ _; rotate_left; exact (by first | (simp; done) | (simp; omega) | omega)) | (with_reducible refine Below.setCell ?_ ?_ _; rotate_left; exact (by first | (simp; done) | (simp; omega) | omega)))) (Nat.le_refl _)) hl0).mono ?_
  rintro e w1 ⟨b0, d0, rfl, hb1, hf1⟩
  have hB1 : Below w.heap.size w w1 := Below.trans (by repeat (first | with_reducible exact Below.refl _ _ | with_reducible refine beld ?_ _ | (with_reducible refine Below.alloc ?_ ?_ _; rotate_left; exact (by first | (simp; done) | (simp; omega) | omega)) | (with_reducible refine Below.setCell ?_ ?_ _; rotate_left; exact (by first | (simp; done) | (simp; omega) | omega)))) (hb1.mono (by first | (simp; done) | (simp; omega) | omega))
  have hz1 : w.heap.size + 3 ≤ w1.heap.size := (by have := hb1.size; simp at this; omega)
  have hp0 : w1.cell? ⟨w.heap.size, 0, none⟩ = some (.slice a0 zs0.length c0) := by rw [hb1.cell (p := ⟨w.heap.size, 0, none⟩) (by first | (simp; done) | (simp; omega) | omega)]; simp [go_sem]
  have hp1 : w1.cell? ⟨w.heap.size, 1, none⟩ = some (.slice a1 zs1.length c1) := by rw [hb1.cell (p := ⟨w.heap.size, 1, none⟩) (by first | (simp; done) | (simp; omega) | omega)]; simp [go_sem]
  have bw1 : Bw w1 (w.heap.size + 1) [.slice none 0 0, .slice none 0 0] := Bw.of2 (by omega) (by first | (rw [hb1.cell (p := ⟨w.heap.size + 1, 0, none⟩) (by first | (simp; done) | (simp; omega) | omega)]; simp [go_sem]; done) | (rw [hb1.cell (p := ⟨w.heap.size + 1, 0, none⟩) (by first | (simp; done) | (simp; omega) | omega)]; simp (maxDischargeDepth := 12) [go_sem]; done) | (rw [hb1.cell (p := ⟨w.heap.size + 1, 0, none⟩) (by first | (simp; done) | (simp; omega) | omega)]; simp (maxDischargeDepth := 12) [go_sem]; rfl)) (by first | (rw [hb1.cell (p := ⟨w.heap.size + 1, 1, none⟩) (by first | (simp; done) | (simp; omega) | omega)]; simp [go_sem]; done) | (rw [hb1.cell (p := ⟨w.heap.size + 1, 1, none⟩) (by first | (simp; done) | (simp; omega) | omega)]; simp (maxDischargeDepth := 12) [go_sem]; done) | (rw [hb1.cell (p := ⟨w.heap.size + 1, 1, none⟩) (by first | (simp; done) | (simp; omega) | omega)]; simp (maxDischargeDepth := 12) [go_sem]; rfl)) (by first | (rw [hb1.frozen (p := ⟨w.heap.size + 1, 0, none⟩) (by first | (simp; done) | (simp; omega) | omega)]; simp [go_sem]; done) | (rw [hb1.frozen (p := ⟨w.heap.size + 1, 0, none⟩) (by first | (simp; done) | (simp; omega) | omega)]; simp (maxDischargeDepth := 12) [go_sem]; done)) (by first | (rw [hb1.frozen (p := ⟨w.heap.size + 1, 1, none⟩) (by first | (simp; done) | (simp; omega) | omega)]; simp [go_sem]; done) | (rw [hb1.frozen (p := ⟨w.heap.size + 1, 1, none⟩) (by first | (simp; done) | (simp; omega) | omega)]; simp (maxDischargeDepth := 12) [go_sem]; done))
  have bw2 : Bw w1 (w.heap.size + 2) [.slice none 0 0, .slice none 0 0] := Bw.of2 (by omega) (by first | (rw [hb1.cell (p := ⟨w.heap.size + 2, 0, none⟩) (by first | (simp; done) | (simp; omega) | omega)]; simp [go_sem]; done) | (rw [hb1.cell (p := ⟨w.heap.size + 2, 0, none⟩) (by first | (simp; done) | (simp; omega) | omega)]; simp (maxDischargeDepth := 12) [go_sem]; done) | (rw [hb1.cell (p := ⟨w.heap.size + 2, 0, none⟩) (by first | (simp; done) | (simp; omega) | omega)]; simp (maxDischargeDepth := 12) [go_sem]; rfl)) (by first | (rw [hb1.cell (p := ⟨w.heap.size + 2, 1, none⟩) (by first | (simp; done) | (simp; omega) | omega)]; simp [go_sem]; done) | (rw [hb1.cell (p := ⟨w.heap.size + 2, 1, none⟩) (by first | (simp; done) | (simp; omega) | omega)]; simp (maxDischargeDepth := 12) [go_sem]; done) | (rw [hb1.cell (p := ⟨w.heap.size + 2, 1, none⟩) (by first | (simp; done) | (simp; omega) | omega)]; simp (maxDischargeDepth := 12) [go_sem]; rfl)) (by first | (rw [hb1.frozen (p := ⟨w.heap.size + 2, 0, none⟩) (by first | (simp; done) | (simp; omega) | omega)]; simp [go_sem]; done) | (rw [hb1.frozen (p := ⟨w.heap.size + 2, 0, none⟩) (by first | (simp; done) | (simp; omega) | omega)]; simp (maxDischargeDepth := 12) [go_sem]; done)) (by first | (rw [hb1.frozen (p := ⟨w.heap.size + 2, 1, none⟩) (by first | (simp; done) | (simp; omega) | omega)]; simp [go_sem]; done) | (rw [hb1.frozen (p := ⟨w.heap.size + 2, 1, none⟩) (by first | (simp; done) | (simp; omega) | omega)]; simp (maxDischargeDepth := 12) [go_sem]; done))
  have k1_0 := bw1.c 0 rfl
  have q1_0 := bw1.f 0 (by simp)
  have k1_1 := bw1.c 1 rfl
  have q1_1 := bw1.f 1 (by simp)
  have k2_0 := bw2.c 0 rfl
  have q2_0 := bw2.f 0 (by simp)
  have k2_1 := bw2.c 1 rfl
  have q2_1 := bw2.f 1 (by simp)
  have Hb1 := Lib.hid hB1
  have Hf1 := Lib.hid hf1
  have Bw1 := Lib.hid bw1
  have Bw2 := Lib.hid bw2
  clear hb1 hf1 hB1 bw1 bw2
  go_wp2_with fail
  refine (copyF_any a1 c1 zs1 _ (Hr1.out.below (by repeat (first | with_reducible exact Hb1.out | with_reducible refine beld ?_ _ | (with_reducible refine Below.alloc ?_ ?_ _; rotate_left; exact (by first | (simp; done) | (simp; omega) | omega)) | (with_reducible refine Below.setCell ?_ ?_ _; rotate_left; exact (by first | (simp; done) | (simp; omega) | omega)))) (Nat.le_refl _)) hl1).mono ?_
  rintro e w2 ⟨b1, d1, rfl, hb2, hf2⟩
  have hB2 : Below w.heap.size w w2 := Below.trans (by repeat (first | with_reducible exact Hb1.out | with_reducible refine beld ?_ _ | (with_reducible refine Below.alloc ?_ ?_ _; rotate_left; exact (by first | (simp; done) | (simp; omega) | omega)) | (with_reducible refine Below.setCell ?_ ?_ _; rotate_left; exact (by first | (simp; done) | (simp; omega) | omega)))) (hb2.mono (by first | (simp; done) | (simp; omega) | omega))
  have hz2 : w1.heap.size ≤ w2.heap.size := (by have := hb2.size; simp at this; omega)
  have hf1 : FRow w2 (w.heap.size + 3) w1.heap.size (.slice b0 zs0.length d0) zs0 := by
    have h9 := (Hf1.out.mono (lo' := w.heap.size + 3) (by first | (simp; done) | (simp; omega) | omega) (Nat.le_refl _) (Nat.le_refl _)).setCell (p := ⟨w.heap.size + 2, 0, none⟩) (by show w.heap.size + 2 < w.heap.size + 3; omega) (.slice b0 zs0.length d0)
    exact h9.below hb2 (by simp)
  have bw1 := (Bw1.out.setOther (p := ⟨w.heap.size + 2, 0, none⟩) (by show w.heap.size + 2 ≠ w.heap.size + 1; omega) (.slice b0 zs0.length d0)).below hb2 (by first | (simp; done) | (simp; omega) | omega)
  have bw2 : Bw w2 (w.heap.size + 2) [.slice b0 zs0.length d0, .slice none 0 0] := Bw.of2 (by omega) (by first | (rw [hb2.cell (p := ⟨w.heap.size + 2, 0, none⟩) (by first | (simp; done) | (simp; omega) | omega)]; simp [go_sem, *]; done) | (rw [hb2.cell (p := ⟨w.heap.size + 2, 0, none⟩) (by first | (simp; done) | (simp; omega) | omega)]; simp (maxDischargeDepth := 12) [go_sem, *]; done) | (rw [hb2.cell (p := ⟨w.heap.size + 2, 0, none⟩) (by first | (simp; done) | (simp; omega) | omega)]; simp (maxDischargeDepth := 12) [go_sem, *]; rfl)) (by first | (rw [hb2.cell (p := ⟨w.heap.size + 2, 1, none⟩) (by first | (simp; done) | (simp; omega) | omega)]; simp [go_sem, *]; done) | (rw [hb2.cell (p := ⟨w.heap.size + 2, 1, none⟩) (by first | (simp; done) | (simp; omega) | omega)]; simp (maxDischargeDepth := 12) [go_sem, *]; done) | (rw [hb2.cell (p := ⟨w.heap.size + 2, 1, none⟩) (by first | (simp; done) | (simp; omega) | omega)]; simp (maxDischargeDepth := 12) [go_sem, *]; rfl)) (by rw [hb2.frozen (p := ⟨w.heap.size + 2, 0, none⟩) (by first | (simp; done) | (simp; omega) | omega)]; simp (maxDischargeDepth := 12) [go_sem, *]) (by rw [hb2.frozen (p := ⟨w.heap.size + 2, 1, none⟩) (by first | (simp; done) | (simp; omega) | omega)]; simp (maxDischargeDepth := 12) [go_sem, *])
  clear hp0 hp1 k1_0 q1_0 k1_1 q1_1 k2_0 q2_0 k2_1 q2_1
  have k1_0 := bw1.c 0 rfl
  have q1_0 := bw1.f 0 (by simp)
  have k1_1 := bw1.c 1 rfl
  have q1_1 := bw1.f 1 (by simp)
  have k2_0 := bw2.c 0 rfl
  have q2_0 := bw2.f 0 (by simp)
  have k2_1 := bw2.c 1 rfl
  have q2_1 := bw2.f 1 (by simp)
  have Hb2 := Lib.hid hB2
  have Hf1' := Lib.hid hf1
  have Hf2 := Lib.hid hf2
  clear hb2 hf2 hB2 hf1 bw1 bw2 Bw1 Bw2 Hf1 Hb1
  go_wp2_with fail
  refine bodyPost_ret (v := .agg #[.slice b0 zs0.length d0, .slice b1 zs1.length d1]) (by first | (simp [results, Try.results42, go_sem, *]; done) | (simp (maxDischargeDepth := 12) [results, Try.results42, go_sem, *]; done) | (simp (maxDischargeDepth := 12) [results, Try.results42, go_sem, *]; rfl)) rfl ⟨b0, d0, b1, d1, w1.heap.size, rfl, ?_, ?_, ?_, by omega, by simp; omega⟩
  · exact (by repeat (first | with_reducible exact Hb2.out | with_reducible refine beld ?_ _ | (with_reducible refine Below.alloc ?_ ?_ _; rotate_left; exact (by first | (simp; done) | (simp; omega) | omega)) | (with_reducible refine Below.setCell ?_ ?_ _; rotate_left; exact (by first | (simp; done) | (simp; omega) | omega))))
  · refine FRow.mono (lo := w.heap.size + 3) (hi := w1.heap.size) (by repeat (first | with_reducible exact Hf1'.out | (with_reducible refine FRow.setCell ?_ ?_ _; rotate_left; exact (by first | (simp; done) | (simp; omega) | omega)))) (by omega) (Nat.le_refl _) (by simp; omega)
  · refine FRow.mono (lo := w1.heap.size) (hi := w2.heap.size) (by repeat (first | with_reducible exact Hf2.out.mono (lo' := w1.heap.size) (by simp) (Nat.le_refl _) (Nat.le_refl _) | (with_reducible refine FRow.setCell ?_ ?_ _; rotate_left; exact (by first | (simp; done) | (simp; omega) | omega)))) (Nat.le_refl _) (by simp) (Nat.le_refl _)

set_option maxHeartbeats 4000000 in
theorem eqLake_any (a0 a1 e0 e1 : Option Addr) (c0 c1 d0 d1 : Nat) (zs0 zs1 : List Nat) (w : World)  (hr0 : RowF .f32 w a0 zs0) (hq0 : RowF .f32 w e0 zs0) (hl0 : zs0.length ≤ 1048576) (hr1 : RowF .f32 w a1 zs1) (hq1 : RowF .f32 w e1 zs1) (hl1 : zs1.length ≤ 1048576) :
    Calls Try.prog 44 #[.agg #[.slice a0 zs0.length c0, .slice a1 zs1.length c1], .agg #[.slice e0 zs0.length d0, .slice e1 zs1.length d1]] w fun e w' => e = .returned (.bool true) ∧ Below w.heap.size w w' := by
  have Hr0 := Lib.hid hr0
  have Hr1 := Lib.hid hr1
  have Hq0 := Lib.hid hq0
  have Hq1 := Lib.hid hq1
  clear hr0 hr1 hq0 hq1
  go_enter Try.func44, Try.ntmps44
  go_wp2_with fail
  refine (eqFloat32S_any a0 e0 c0 d0 zs0 _ (Hr0.out.below (by repeat (first | with_reducible exact Below.refl _ _ | with_reducible refine beld ?_ _ | (with_reducible refine Below.alloc ?_ ?_ _; rotate_left; exact (by first | (simp; done) | (simp; omega) | omega)) | (with_reducible refine Below.setCell ?_ ?_ _; rotate_left; exact (by first | (simp; done) | (simp; omega) | omega)))) (Nat.le_refl _)) (Hq0.out.below (by repeat (first | with_reducible exact Below.refl _ _ | with_reducible refine beld ?_ _ | (with_reducible refine Below.alloc ?_ ?_ _; rotate_left; exact (by first | (simp; done) | (simp; omega) | omega)) | (with_reducible refine Below.setCell ?_ ?_ _; rotate_left; exact (by first | (simp; done) | (simp; omega) | omega)))) (Nat.le_refl _)) hl0).mono ?_
  rintro e w1 ⟨rfl, m1, rfl⟩
  go_wp2_with fail
  refine (eqFloat32S_any a1 e1 c1 d1 zs1 _ (Hr1.out.below (by repeat (first | with_reducible exact Below.refl _ _ | with_reducible refine beld ?_ _ | (with_reducible refine Below.alloc ?_ ?_ _; rotate_left; exact (by first | (simp; done) | (simp; omega) | omega)) | (with_reducible refine Below.setCell ?_ ?_ _; rotate_left; exact (by first | (simp; done) | (simp; omega) | omega)))) (Nat.le_refl _)) (Hq1.out.below (by repeat (first | with_reducible exact Below.refl _ _ | with_reducible refine beld ?_ _ | (with_reducible refine Below.alloc ?_ ?_ _; rotate_left; exact (by first | (simp; done) | (simp; omega) | omega)) | (with_reducible refine Below.setCell ?_ ?_ _; rotate_left; exact (by first | (simp; done) | (simp; omega) | omega)))) (Nat.le_refl _)) hl1).mono ?_
  rintro e w2 ⟨rfl, m2, rfl⟩
  go_wp2_with fail
  go_ret
  exact ⟨rfl, (by repeat (first | with_reducible exact Below.refl _ _ | with_reducible refine beld ?_ _ | (with_reducible refine Below.alloc ?_ ?_ _; rotate_left; exact (by first | (simp; done) | (simp; omega) | omega)) | (with_reducible refine Below.setCell ?_ ?_ _; rotate_left; exact (by first | (simp; done) | (simp; omega) | omega))))⟩

end Go.Proofs.Ytdoecpghlfjhiab
