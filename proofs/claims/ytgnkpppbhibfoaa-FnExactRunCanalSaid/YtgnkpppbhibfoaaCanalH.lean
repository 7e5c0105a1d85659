/- The law's helpers on structs with two lists (Canal). -/
import Derived.Test.YtgnkpppbhibfoaaSame
import Derived.Test.YtgnkpppbhibfoaaBw
import Derived.Test.YtgnkpppbhibfoaaNegO
namespace Go.Proofs.Ytgnkpppbhibfoaa
open Go.RowKit
set_option linter.unusedVariables false
set_option linter.unusedSimpArgs false
set_option maxRecDepth 100000
attribute [local irreducible] wpV wpList Code.wp

set_option maxHeartbeats 800000 in
theorem szCanal_fits (n0 n1 n2 : Nat) (a0 a1 : Option Addr) (l0 l1 c0 c1 : Nat) (left : Int) (h : (l0 : Int) + (l1 : Int) ≤ left) (hl : left ≤ 1048576) (w : World) :
    Calls Try.prog 29 #[.agg #[.float .f32 n0, .float .f32 n1, .float .f32 n2, .slice a0 l0 c0, .slice a1 l1 c1], .int .i64 left] w fun e w' => e = .returned (.int .i64 (left - l0 - l1)) ∧ Below w.heap.size w w' := by
  have h2 : ¬ left - (l0 : Int) < 0 := by omega
  have h3 : ¬ left - (l0 : Int) - (l1 : Int) < 0 := by omega
  go_enter Try.func29, Try.ntmps29
  go_wp2
  go_ret
  exact ⟨rfl, (by repeat (first | with_reducible exact Below.refl _ _ | with_reducible refine beld ?_ _ | (with_reducible refine Below.alloc ?_ ?_ _; rotate_left; exact (by first | (simp; done) | (simp; omega) | omega)) | (with_reducible refine Below.setCell ?_ ?_ _; rotate_left; exact (by first | (simp; done) | (simp; omega) | omega))))⟩

set_option maxHeartbeats 800000 in
theorem szCanal_not (n0 n1 n2 : Nat) (a0 a1 : Option Addr) (l0 l1 c0 c1 : Nat) (left : Int) (h : left < (l0 : Int) + (l1 : Int)) (h0 : 0 ≤ left) (hl : left ≤ 1048576) (hm0 : l0 ≤ 9223372036854775807) (hm1 : l1 ≤ 9223372036854775807) (w : World) :
    Calls Try.prog 29 #[.agg #[.float .f32 n0, .float .f32 n1, .float .f32 n2, .slice a0 l0 c0, .slice a1 l1 c1], .int .i64 left] w fun e w' => e = .returned (.int .i64 (-1)) ∧ Below w.heap.size w w' := by
  by_cases h2 : left - (l0 : Int) < 0
  · go_enter Try.func29, Try.ntmps29
    go_wp2
    go_ret
    exact ⟨rfl, (by repeat (first | with_reducible exact Below.refl _ _ | with_reducible refine beld ?_ _ | (with_reducible refine Below.alloc ?_ ?_ _; rotate_left; exact (by first | (simp; done) | (simp; omega) | omega)) | (with_reducible refine Below.setCell ?_ ?_ _; rotate_left; exact (by first | (simp; done) | (simp; omega) | omega))))⟩
  · have h3 : left - (l0 : Int) - (l1 : Int) < 0 := by omega
    go_enter Try.func29, Try.ntmps29
    go_wp2
    go_ret
    exact ⟨rfl, (by repeat (first | with_reducible exact Below.refl _ _ | with_reducible refine beld ?_ _ | (with_reducible refine Below.alloc ?_ ?_ _; rotate_left; exact (by first | (simp; done) | (simp; omega) | omega)) | (with_reducible refine Below.setCell ?_ ?_ _; rotate_left; exact (by first | (simp; done) | (simp; omega) | omega))))⟩

/-- A copy: its lists in blocks of their own. -/
def CopyCanal (w : World) (n0 n1 n2 : Nat) (zs0 zs1 : List Nat) (e : Ending) (w' : World) : Prop :=
  ∃ a0 c0 a1 c1 mid, e = .returned (.agg #[.float .f32 n0, .float .f32 n1, .float .f32 n2, .slice a0 zs0.length c0, .slice a1 zs1.length c1]) ∧ Below w.heap.size w w' ∧ FRow w' w.heap.size mid (.slice a0 zs0.length c0) zs0 ∧ FRow w' mid w'.heap.size (.slice a1 zs1.length c1) zs1 ∧ w.heap.size ≤ mid ∧ mid ≤ w'.heap.size
set_option maxHeartbeats 4000000 in
theorem toCanal_any (n0 n1 n2 : Nat) (a0 a1 : Option Addr) (c0 c1 : Nat) (zs0 zs1 : List Nat) (w : World) (hr0 : RowF .f32 w a0 zs0) (hl0 : zs0.length ≤ 1048576) (hr1 : RowF .f32 w a1 zs1) (hl1 : zs1.length ≤ 1048576) :
    Calls Try.prog 31 #[.agg #[.float .f32 n0, .float .f32 n1, .float .f32 n2, .slice a0 zs0.length c0, .slice a1 zs1.length c1]] w (CopyCanal w n0 n1 n2 zs0 zs1) := by
  have Hr0 := Lib.hid hr0
  have Hr1 := Lib.hid hr1
  clear hr0 hr1
  go_enter Try.func31, Try.ntmps31
  go_wp2_with fail
  refine (copyF_any a0 c0 zs0 _ (Hr0.out.below (by repeat (first | with_reducible exact Below.refl _ _ | with_reducible refine beld ?_ _ | (with_reducible refine Below.alloc ?_ ?_ _; rotate_left; exact (by first | (simp; done) | (simp; omega) | omega)) | (with_reducible refine Below.setCell ?_ ?_ _; rotate_left; exact (by first | (simp; done) | (simp; omega) | omega)))) (Nat.le_refl _)) hl0).mono ?_
  rintro e w1 ⟨b0, d0, rfl, hb1, hf1⟩
  have hB1 : Below w.heap.size w w1 := Below.trans (by repeat (first | with_reducible exact Below.refl _ _ | with_reducible refine beld ?_ _ | (with_reducible refine Below.alloc ?_ ?_ _; rotate_left; exact (by first | (simp; done) | (simp; omega) | omega)) | (with_reducible refine Below.setCell ?_ ?_ _; rotate_left; exact (by first | (simp; done) | (simp; omega) | omega)))) (hb1.mono (by first | (simp; done) | (simp; omega) | omega))
  have hz1 : w.heap.size + 3 ≤ w1.heap.size := (by have := hb1.size; simp at this; omega)
  have hp0 : w1.cell? ⟨w.heap.size, 0, none⟩ = some (.float .f32 n0) := by rw [hb1.cell (p := ⟨w.heap.size, 0, none⟩) (by first | (simp; done) | (simp; omega) | omega)]; simp [go_sem]
  have hp1 : w1.cell? ⟨w.heap.size, 1, none⟩ = some (.float .f32 n1) := by rw [hb1.cell (p := ⟨w.heap.size, 1, none⟩) (by first | (simp; done) | (simp; omega) | omega)]; simp [go_sem]
  have hp2 : w1.cell? ⟨w.heap.size, 2, none⟩ = some (.float .f32 n2) := by rw [hb1.cell (p := ⟨w.heap.size, 2, none⟩) (by first | (simp; done) | (simp; omega) | omega)]; simp [go_sem]
  have hp3 : w1.cell? ⟨w.heap.size, 3, none⟩ = some (.slice a0 zs0.length c0) := by rw [hb1.cell (p := ⟨w.heap.size, 3, none⟩) (by first | (simp; done) | (simp; omega) | omega)]; simp [go_sem]
  have hp4 : w1.cell? ⟨w.heap.size, 4, none⟩ = some (.slice a1 zs1.length c1) := by rw [hb1.cell (p := ⟨w.heap.size, 4, none⟩) (by first | (simp; done) | (simp; omega) | omega)]; simp [go_sem]
  have bw1 : Bw w1 (w.heap.size + 1) [.float .f32 0, .float .f32 0, .float .f32 0, .slice none 0 0, .slice none 0 0] := Bw.of5 (by omega) (by first | (rw [hb1.cell (p := ⟨w.heap.size + 1, 0, none⟩) (by first | (simp; done) | (simp; omega) | omega)]; simp [go_sem]; done) | (rw [hb1.cell (p := ⟨w.heap.size + 1, 0, none⟩) (by first | (simp; done) | (simp; omega) | omega)]; simp (maxDischargeDepth := 12) [go_sem]; done) | (rw [hb1.cell (p := ⟨w.heap.size + 1, 0, none⟩) (by first | (simp; done) | (simp; omega) | omega)]; simp (maxDischargeDepth := 12) [go_sem]; rfl)) (by first | (rw [hb1.cell (p := ⟨w.heap.size + 1, 1, none⟩) (by first | (simp; done) | (simp; omega) | omega)]; simp [go_sem]; done) | (rw [hb1.cell (p := ⟨w.heap.size + 1, 1, none⟩) (by first | (simp; done) | (simp; omega) | omega)]; simp (maxDischargeDepth := 12) [go_sem]; done) | (rw [hb1.cell (p := ⟨w.heap.size + 1, 1, none⟩) (by first | (simp; done) | (simp; omega) | omega)]; simp (maxDischargeDepth := 12) [go_sem]; rfl)) (by first | (rw [hb1.cell (p := ⟨w.heap.size + 1, 2, none⟩) (by first | (simp; done) | (simp; omega) | omega)]; simp [go_sem]; done) | (rw [hb1.cell (p := ⟨w.heap.size + 1, 2, none⟩) (by first | (simp; done) | (simp; omega) | omega)]; simp (maxDischargeDepth := 12) [go_sem]; done) | (rw [hb1.cell (p := ⟨w.heap.size + 1, 2, none⟩) (by first | (simp; done) | (simp; omega) | omega)]; simp (maxDischargeDepth := 12) [go_sem]; rfl)) (by first | (rw [hb1.cell (p := ⟨w.heap.size + 1, 3, none⟩) (by first | (simp; done) | (simp; omega) | omega)]; simp [go_sem]; done) | (rw [hb1.cell (p := ⟨w.heap.size + 1, 3, none⟩) (by first | (simp; done) | (simp; omega) | omega)]; simp (maxDischargeDepth := 12) [go_sem]; done) | (rw [hb1.cell (p := ⟨w.heap.size + 1, 3, none⟩) (by first | (simp; done) | (simp; omega) | omega)]; simp (maxDischargeDepth := 12) [go_sem]; rfl)) (by first | (rw [hb1.cell (p := ⟨w.heap.size + 1, 4, none⟩) (by first | (simp; done) | (simp; omega) | omega)]; simp [go_sem]; done) | (rw [hb1.cell (p := ⟨w.heap.size + 1, 4, none⟩) (by first | (simp; done) | (simp; omega) | omega)]; simp (maxDischargeDepth := 12) [go_sem]; done) | (rw [hb1.cell (p := ⟨w.heap.size + 1, 4, none⟩) (by first | (simp; done) | (simp; omega) | omega)]; simp (maxDischargeDepth := 12) [go_sem]; rfl)) (by first | (rw [hb1.frozen (p := ⟨w.heap.size + 1, 0, none⟩) (by first | (simp; done) | (simp; omega) | omega)]; simp [go_sem]; done) | (rw [hb1.frozen (p := ⟨w.heap.size + 1, 0, none⟩) (by first | (simp; done) | (simp; omega) | omega)]; simp (maxDischargeDepth := 12) [go_sem]; done)) (by first | (rw [hb1.frozen (p := ⟨w.heap.size + 1, 1, none⟩) (by first | (simp; done) | (simp; omega) | omega)]; simp [go_sem]; done) | (rw [hb1.frozen (p := ⟨w.heap.size + 1, 1, none⟩) (by first | (simp; done) | (simp; omega) | omega)]; simp (maxDischargeDepth := 12) [go_sem]; done)) (by first | (rw [hb1.frozen (p := ⟨w.heap.size + 1, 2, none⟩) (by first | (simp; done) | (simp; omega) | omega)]; simp [go_sem]; done) | (rw [hb1.frozen (p := ⟨w.heap.size + 1, 2, none⟩) (by first | (simp; done) | (simp; omega) | omega)]; simp (maxDischargeDepth := 12) [go_sem]; done)) (by first | (rw [hb1.frozen (p := ⟨w.heap.size + 1, 3, none⟩) (by first | (simp; done) | (simp; omega) | omega)]; simp [go_sem]; done) | (rw [hb1.frozen (p := ⟨w.heap.size + 1, 3, none⟩) (by first | (simp; done) | (simp; omega) | omega)]; simp (maxDischargeDepth := 12) [go_sem]; done)) (by first | (rw [hb1.frozen (p := ⟨w.heap.size + 1, 4, none⟩) (by first | (simp; done) | (simp; omega) | omega)]; simp [go_sem]; done) | (rw [hb1.frozen (p := ⟨w.heap.size + 1, 4, none⟩) (by first | (simp; done) | (simp; omega) | omega)]; simp (maxDischargeDepth := 12) [go_sem]; done))
  have bw2 : Bw w1 (w.heap.size + 2) [.float .f32 n0, .float .f32 n1, .float .f32 n2, .slice none 0 0, .slice none 0 0] := Bw.of5 (by omega) (by first | (rw [hb1.cell (p := ⟨w.heap.size + 2, 0, none⟩) (by first | (simp; done) | (simp; omega) | omega)]; simp [go_sem]; done) | (rw [hb1.cell (p := ⟨w.heap.size + 2, 0, none⟩) (by first | (simp; done) | (simp; omega) | omega)]; simp (maxDischargeDepth := 12) [go_sem]; done) | (rw [hb1.cell (p := ⟨w.heap.size + 2, 0, none⟩) (by first | (simp; done) | (simp; omega) | omega)]; simp (maxDischargeDepth := 12) [go_sem]; rfl)) (by first | (rw [hb1.cell (p := ⟨w.heap.size + 2, 1, none⟩) (by first | (simp; done) | (simp; omega) | omega)]; simp [go_sem]; done) | (rw [hb1.cell (p := ⟨w.heap.size + 2, 1, none⟩) (by first | (simp; done) | (simp; omega) | omega)]; simp (maxDischargeDepth := 12) [go_sem]; done) | (rw [hb1.cell (p := ⟨w.heap.size + 2, 1, none⟩) (by first | (simp; done) | (simp; omega) | omega)]; simp (maxDischargeDepth := 12) [go_sem]; rfl)) (by first | (rw [hb1.cell (p := ⟨w.heap.size + 2, 2, none⟩) (by first | (simp; done) | (simp; omega) | omega)]; simp [go_sem]; done) | (rw [hb1.cell (p := ⟨w.heap.size + 2, 2, none⟩) (by first | (simp; done) | (simp; omega) | omega)]; simp (maxDischargeDepth := 12) [go_sem]; done) | (rw [hb1.cell (p := ⟨w.heap.size + 2, 2, none⟩) (by first | (simp; done) | (simp; omega) | omega)]; simp (maxDischargeDepth := 12) [go_sem]; rfl)) (by first | (rw [hb1.cell (p := ⟨w.heap.size + 2, 3, none⟩) (by first | (simp; done) | (simp; omega) | omega)]; simp [go_sem]; done) | (rw [hb1.cell (p := ⟨w.heap.size + 2, 3, none⟩) (by first | (simp; done) | (simp; omega) | omega)]; simp (maxDischargeDepth := 12) [go_sem]; done) | (rw [hb1.cell (p := ⟨w.heap.size + 2, 3, none⟩) (by first | (simp; done) | (simp; omega) | omega)]; simp (maxDischargeDepth := 12) [go_sem]; rfl)) (by first | (rw [hb1.cell (p := ⟨w.heap.size + 2, 4, none⟩) (by first | (simp; done) | (simp; omega) | omega)]; simp [go_sem]; done) | (rw [hb1.cell (p := ⟨w.heap.size + 2, 4, none⟩) (by first | (simp; done) | (simp; omega) | omega)]; simp (maxDischargeDepth := 12) [go_sem]; done) | (rw [hb1.cell (p := ⟨w.heap.size + 2, 4, none⟩) (by first | (simp; done) | (simp; omega) | omega)]; simp (maxDischargeDepth := 12) [go_sem]; rfl)) (by first | (rw [hb1.frozen (p := ⟨w.heap.size + 2, 0, none⟩) (by first | (simp; done) | (simp; omega) | omega)]; simp [go_sem]; done) | (rw [hb1.frozen (p := ⟨w.heap.size + 2, 0, none⟩) (by first | (simp; done) | (simp; omega) | omega)]; simp (maxDischargeDepth := 12) [go_sem]; done)) (by first | (rw [hb1.frozen (p := ⟨w.heap.size + 2, 1, none⟩) (by first | (simp; done) | (simp; omega) | omega)]; simp [go_sem]; done) | (rw [hb1.frozen (p := ⟨w.heap.size + 2, 1, none⟩) (by first | (simp; done) | (simp; omega) | omega)]; simp (maxDischargeDepth := 12) [go_sem]; done)) (by first | (rw [hb1.frozen (p := ⟨w.heap.size + 2, 2, none⟩) (by first | (simp; done) | (simp; omega) | omega)]; simp [go_sem]; done) | (rw [hb1.frozen (p := ⟨w.heap.size + 2, 2, none⟩) (by first | (simp; done) | (simp; omega) | omega)]; simp (maxDischargeDepth := 12) [go_sem]; done)) (by first | (rw [hb1.frozen (p := ⟨w.heap.size + 2, 3, none⟩) (by first | (simp; done) | (simp; omega) | omega)]; simp [go_sem]; done) | (rw [hb1.frozen (p := ⟨w.heap.size + 2, 3, none⟩) (by first | (simp; done) | (simp; omega) | omega)]; simp (maxDischargeDepth := 12) [go_sem]; done)) (by first | (rw [hb1.frozen (p := ⟨w.heap.size + 2, 4, none⟩) (by first | (simp; done) | (simp; omega) | omega)]; simp [go_sem]; done) | (rw [hb1.frozen (p := ⟨w.heap.size + 2, 4, none⟩) (by first | (simp; done) | (simp; omega) | omega)]; simp (maxDischargeDepth := 12) [go_sem]; done))
  have k1_0 := bw1.c 0 rfl
  have q1_0 := bw1.f 0 (by simp)
  have k1_1 := bw1.c 1 rfl
  have q1_1 := bw1.f 1 (by simp)
  have k1_2 := bw1.c 2 rfl
  have q1_2 := bw1.f 2 (by simp)
  have k1_3 := bw1.c 3 rfl
  have q1_3 := bw1.f 3 (by simp)
  have k1_4 := bw1.c 4 rfl
  have q1_4 := bw1.f 4 (by simp)
  have k2_0 := bw2.c 0 rfl
  have q2_0 := bw2.f 0 (by simp)
  have k2_1 := bw2.c 1 rfl
  have q2_1 := bw2.f 1 (by simp)
  have k2_2 := bw2.c 2 rfl
  have q2_2 := bw2.f 2 (by simp)
  have k2_3 := bw2.c 3 rfl
  have q2_3 := bw2.f 3 (by simp)
  have k2_4 := bw2.c 4 rfl
  have q2_4 := bw2.f 4 (by simp)
  have Hb1 := Lib.hid hB1
  have Hf1 := Lib.hid hf1
  have Bw1 := Lib.hid bw1
  have Bw2 := Lib.hid bw2
  clear hb1 hf1 hB1 bw1 bw2
  go_wp2_with fail
  refine (copyF_any a1 c1 zs1 _ (Hr1.out.below (by repeat (first | with_reducible exact Hb1.out | with_reducible refine beld ?_ _ | (with_reducible refine Below.alloc ?_ ?_ _; rotate_left; exact (by first | (simp; done) | (simp; omega) | omega)) | (with_reducible refine Below.setCell ?_ ?_ _; rotate_left; exact (by first | (simp; done) | (simp; omega) | omega)))) (Nat.le_refl _)) hl1).mono ?_
  rintro e w2 ⟨b1, d1, rfl, hb2, hf2⟩
  have hB2 : Below w.heap.size w w2 := Below.trans (by repeat (first | with_reducible exact Hb1.out | with_reducible refine beld ?_ _ | (with_reducible refine Below.alloc ?_ ?_ _; rotate_left; exact (by first | (simp; done) | (simp; omega) | omega)) | (with_reducible refine Below.setCell ?_ ?_ _; rotate_left; exact (by first | (simp; done) | (simp; omega) | omega)))) (hb2.mono (by first | (simp; done) | (simp; omega) | omega))
  have hz2 : w1.heap.size ≤ w2.heap.size := (by have := hb2.size; simp at this; omega)
  have hf1 : FRow w2 (w.heap.size + 3) w1.heap.size (.slice b0 zs0.length d0) zs0 := by
    have h9 := (Hf1.out.mono (lo' := w.heap.size + 3) (by first | (simp; done) | (simp; omega) | omega) (Nat.le_refl _) (Nat.le_refl _)).setCell (p := ⟨w.heap.size + 2, 3, none⟩) (by show w.heap.size + 2 < w.heap.size + 3; omega) (.slice b0 zs0.length d0)
    exact h9.below hb2 (by simp)
  have bw1 := (Bw1.out.setOther (p := ⟨w.heap.size + 2, 3, none⟩) (by show w.heap.size + 2 ≠ w.heap.size + 1; omega) (.slice b0 zs0.length d0)).below hb2 (by first | (simp; done) | (simp; omega) | omega)
  have bw2 : Bw w2 (w.heap.size + 2) [.float .f32 n0, .float .f32 n1, .float .f32 n2, .slice b0 zs0.length d0, .slice none 0 0] := Bw.of5 (by omega) (by first | (rw [hb2.cell (p := ⟨w.heap.size + 2, 0, none⟩) (by first | (simp; done) | (simp; omega) | omega)]; simp [go_sem, *]; done) | (rw [hb2.cell (p := ⟨w.heap.size + 2, 0, none⟩) (by first | (simp; done) | (simp; omega) | omega)]; simp (maxDischargeDepth := 12) [go_sem, *]; done) | (rw [hb2.cell (p := ⟨w.heap.size + 2, 0, none⟩) (by first | (simp; done) | (simp; omega) | omega)]; simp (maxDischargeDepth := 12) [go_sem, *]; rfl)) (by first | (rw [hb2.cell (p := ⟨w.heap.size + 2, 1, none⟩) (by first | (simp; done) | (simp; omega) | omega)]; simp [go_sem, *]; done) | (rw [hb2.cell (p := ⟨w.heap.size + 2, 1, none⟩) (by first | (simp; done) | (simp; omega) | omega)]; simp (maxDischargeDepth := 12) [go_sem, *]; done) | (rw [hb2.cell (p := ⟨w.heap.size + 2, 1, none⟩) (by first | (simp; done) | (simp; omega) | omega)]; simp (maxDischargeDepth := 12) [go_sem, *]; rfl)) (by first | (rw [hb2.cell (p := ⟨w.heap.size + 2, 2, none⟩) (by first | (simp; done) | (simp; omega) | omega)]; simp [go_sem, *]; done) | (rw [hb2.cell (p := ⟨w.heap.size + 2, 2, none⟩) (by first | (simp; done) | (simp; omega) | omega)]; simp (maxDischargeDepth := 12) [go_sem, *]; done) | (rw [hb2.cell (p := ⟨w.heap.size + 2, 2, none⟩) (by first | (simp; done) | (simp; omega) | omega)]; simp (maxDischargeDepth := 12) [go_sem, *]; rfl)) (by first | (rw [hb2.cell (p := ⟨w.heap.size + 2, 3, none⟩) (by first | (simp; done) | (simp; omega) | omega)]; simp [go_sem, *]; done) | (rw [hb2.cell (p := ⟨w.heap.size + 2, 3, none⟩) (by first | (simp; done) | (simp; omega) | omega)]; simp (maxDischargeDepth := 12) [go_sem, *]; done) | (rw [hb2.cell (p := ⟨w.heap.size + 2, 3, none⟩) (by first | (simp; done) | (simp; omega) | omega)]; simp (maxDischargeDepth := 12) [go_sem, *]; rfl)) (by first | (rw [hb2.cell (p := ⟨w.heap.size + 2, 4, none⟩) (by first | (simp; done) | (simp; omega) | omega)]; simp [go_sem, *]; done) | (rw [hb2.cell (p := ⟨w.heap.size + 2, 4, none⟩) (by first | (simp; done) | (simp; omega) | omega)]; simp (maxDischargeDepth := 12) [go_sem, *]; done) | (rw [hb2.cell (p := ⟨w.heap.size + 2, 4, none⟩) (by first | (simp; done) | (simp; omega) | omega)]; simp (maxDischargeDepth := 12) [go_sem, *]; rfl)) (by rw [hb2.frozen (p := ⟨w.heap.size + 2, 0, none⟩) (by first | (simp; done) | (simp; omega) | omega)]; simp (maxDischargeDepth := 12) [go_sem, *]) (by rw [hb2.frozen (p := ⟨w.heap.size + 2, 1, none⟩) (by first | (simp; done) | (simp; omega) | omega)]; simp (maxDischargeDepth := 12) [go_sem, *]) (by rw [hb2.frozen (p := ⟨w.heap.size + 2, 2, none⟩) (by first | (simp; done) | (simp; omega) | omega)]; simp (maxDischargeDepth := 12) [go_sem, *]) (by rw [hb2.frozen (p := ⟨w.heap.size + 2, 3, none⟩) (by first | (simp; done) | (simp; omega) | omega)]; simp (maxDischargeDepth := 12) [go_sem, *]) (by rw [hb2.frozen (p := ⟨w.heap.size + 2, 4, none⟩) (by first | (simp; done) | (simp; omega) | omega)]; simp (maxDischargeDepth := 12) [go_sem, *])
  clear hp0 hp1 hp2 hp3 hp4 k1_0 q1_0 k1_1 q1_1 k1_2 q1_2 k1_3 q1_3 k1_4 q1_4 k2_0 q2_0 k2_1 q2_1 k2_2 q2_2 k2_3 q2_3 k2_4 q2_4
  have k1_0 := bw1.c 0 rfl
  have q1_0 := bw1.f 0 (by simp)
  have k1_1 := bw1.c 1 rfl
  have q1_1 := bw1.f 1 (by simp)
  have k1_2 := bw1.c 2 rfl
  have q1_2 := bw1.f 2 (by simp)
  have k1_3 := bw1.c 3 rfl
  have q1_3 := bw1.f 3 (by simp)
  have k1_4 := bw1.c 4 rfl
  have q1_4 := bw1.f 4 (by simp)
  have k2_0 := bw2.c 0 rfl
  have q2_0 := bw2.f 0 (by simp)
  have k2_1 := bw2.c 1 rfl
  have q2_1 := bw2.f 1 (by simp)
  have k2_2 := bw2.c 2 rfl
  have q2_2 := bw2.f 2 (by simp)
  have k2_3 := bw2.c 3 rfl
  have q2_3 := bw2.f 3 (by simp)
  have k2_4 := bw2.c 4 rfl
  have q2_4 := bw2.f 4 (by simp)
  have Hb2 := Lib.hid hB2
  have Hf1' := Lib.hid hf1
  have Hf2 := Lib.hid hf2
  clear hb2 hf2 hB2 hf1 bw1 bw2 Bw1 Bw2 Hf1 Hb1
  go_wp2_with fail
  refine bodyPost_ret (v := .agg #[.float .f32 n0, .float .f32 n1, .float .f32 n2, .slice b0 zs0.length d0, .slice b1 zs1.length d1]) (by first | (simp [results, Try.results31, go_sem, *]; done) | (simp (maxDischargeDepth := 12) [results, Try.results31, go_sem, *]; done) | (simp (maxDischargeDepth := 12) [results, Try.results31, go_sem, *]; rfl)) rfl ⟨b0, d0, b1, d1, w1.heap.size, rfl, ?_, ?_, ?_, by omega, by simp; omega⟩
  · exact (by repeat (first | with_reducible exact Hb2.out | with_reducible refine beld ?_ _ | (with_reducible refine Below.alloc ?_ ?_ _; rotate_left; exact (by first | (simp; done) | (simp; omega) | omega)) | (with_reducible refine Below.setCell ?_ ?_ _; rotate_left; exact (by first | (simp; done) | (simp; omega) | omega))))
  · refine FRow.mono (lo := w.heap.size + 3) (hi := w1.heap.size) (by repeat (first | with_reducible exact Hf1'.out | (with_reducible refine FRow.setCell ?_ ?_ _; rotate_left; exact (by first | (simp; done) | (simp; omega) | omega)))) (by omega) (Nat.le_refl _) (by simp; omega)
  · refine FRow.mono (lo := w1.heap.size) (hi := w2.heap.size) (by repeat (first | with_reducible exact Hf2.out.mono (lo' := w1.heap.size) (by simp) (Nat.le_refl _) (Nat.le_refl _) | (with_reducible refine FRow.setCell ?_ ?_ _; rotate_left; exact (by first | (simp; done) | (simp; omega) | omega)))) (Nat.le_refl _) (by simp) (Nat.le_refl _)

set_option maxHeartbeats 4000000 in
theorem eqCanal_any {O0 O1 O2 : Option Nat} {x0 x1 x2 y0 y1 y2 : Nat} (a0 a1 e0 e1 : Option Addr) (c0 c1 d0 d1 : Nat) (zs0 zs1 : List Nat) (w : World) (hx0 : Is32 O0 x0) (hy0 : Is32 O0 y0) (hx1 : Is32 O1 x1) (hy1 : Is32 O1 y1) (hx2 : Is32 O2 x2) (hy2 : Is32 O2 y2) (hr0 : RowF .f32 w a0 zs0) (hq0 : RowF .f32 w e0 zs0) (hl0 : zs0.length ≤ 1048576) (hr1 : RowF .f32 w a1 zs1) (hq1 : RowF .f32 w e1 zs1) (hl1 : zs1.length ≤ 1048576) :
    Calls Try.prog 26 #[.agg #[.float .f32 x0, .float .f32 x1, .float .f32 x2, .slice a0 zs0.length c0, .slice a1 zs1.length c1], .agg #[.float .f32 y0, .float .f32 y1, .float .f32 y2, .slice e0 zs0.length d0, .slice e1 zs1.length d1]] w fun e w' => e = .returned (.bool true) ∧ Below w.heap.size w w' := by
  have Hr0 := Lib.hid hr0
  have Hr1 := Lib.hid hr1
  have Hq0 := Lib.hid hq0
  have Hq1 := Lib.hid hq1
  clear hr0 hr1 hq0 hq1
  go_enter Try.func26, Try.ntmps26
  go_wp2_with (first | ((with_reducible refine wpList_cv ?_); refine wpList_widen rfl _ _ _ rfl rfl (by kernel_rfl) Try.underlying29 (by assumption) ?_; intro y q hy) | (go_at_call 19; refine (sameFloat_true _ _ _ (by assumption) (by assumption) _).mono ?_; rintro e w' ⟨rfl, n3, rfl⟩))
  refine (eqFloat32S_any a0 e0 c0 d0 zs0 _ (Hr0.out.below (by repeat (first | with_reducible exact Below.refl _ _ | with_reducible refine beld ?_ _ | (with_reducible refine Below.alloc ?_ ?_ _; rotate_left; exact (by first | (simp; done) | (simp; omega) | omega)) | (with_reducible refine Below.setCell ?_ ?_ _; rotate_left; exact (by first | (simp; done) | (simp; omega) | omega)))) (Nat.le_refl _)) (Hq0.out.below (by repeat (first | with_reducible exact Below.refl _ _ | with_reducible refine beld ?_ _ | (with_reducible refine Below.alloc ?_ ?_ _; rotate_left; exact (by first | (simp; done) | (simp; omega) | omega)) | (with_reducible refine Below.setCell ?_ ?_ _; rotate_left; exact (by first | (simp; done) | (simp; omega) | omega)))) (Nat.le_refl _)) hl0).mono ?_
  rintro e w1 ⟨rfl, m1, rfl⟩
  go_wp2_with fail
  refine (eqFloat32S_any a1 e1 c1 d1 zs1 _ (Hr1.out.below (by repeat (first | with_reducible exact Below.refl _ _ | with_reducible refine beld ?_ _ | (with_reducible refine Below.alloc ?_ ?_ _; rotate_left; exact (by first | (simp; done) | (simp; omega) | omega)) | (with_reducible refine Below.setCell ?_ ?_ _; rotate_left; exact (by first | (simp; done) | (simp; omega) | omega)))) (Nat.le_refl _)) (Hq1.out.below (by repeat (first | with_reducible exact Below.refl _ _ | with_reducible refine beld ?_ _ | (with_reducible refine Below.alloc ?_ ?_ _; rotate_left; exact (by first | (simp; done) | (simp; omega) | omega)) | (with_reducible refine Below.setCell ?_ ?_ _; rotate_left; exact (by first | (simp; done) | (simp; omega) | omega)))) (Nat.le_refl _)) hl1).mono ?_
  rintro e w2 ⟨rfl, m2, rfl⟩
  go_wp2_with fail
  go_ret
  exact ⟨rfl, (by repeat (first | with_reducible exact Below.refl _ _ | with_reducible refine beld ?_ _ | (with_reducible refine Below.alloc ?_ ?_ _; rotate_left; exact (by first | (simp; done) | (simp; omega) | omega)) | (with_reducible refine Below.setCell ?_ ?_ _; rotate_left; exact (by first | (simp; done) | (simp; omega) | omega))))⟩

set_option maxHeartbeats 4000000 in
theorem markCanal_any (lo mid hi k : Nat) (n0 n1 n2 : Nat) (a0 a1 : Option Addr) (c0 c1 : Nat) (zs0 zs1 : List Nat) (w : World) (h0 : FRow w lo mid (.slice a0 zs0.length c0) zs0) (h1 : FRow w mid hi (.slice a1 zs1.length c1) zs1) (hlm : lo ≤ mid) (hmh : mid ≤ hi) (hl0 : zs0.length ≤ 1048576) (hl1 : zs1.length ≤ 1048576) (hk : k ≤ 3145728) :
    Calls Try.prog 27 #[.agg #[.float .f32 n0, .float .f32 n1, .float .f32 n2, .slice a0 zs0.length c0, .slice a1 zs1.length c1], .int .i64 (k : Int)] w fun e w' => e = .returned (.int .i64 ((k + zs0.length + zs1.length : Nat) : Int)) ∧ FRow w' lo mid (.slice a0 zs0.length c0) (marks k zs0.length) ∧ FRow w' mid hi (.slice a1 zs1.length c1) (marks (k + zs0.length) zs1.length) ∧ Kept lo hi w w' := by
  have H0 := Lib.hid h0
  have H1 := Lib.hid h1
  clear h0 h1
  go_enter Try.func27, Try.ntmps27
  go_wp2_with fail
  refine (markF_any lo mid k a0 c0 zs0 _ (H0.out.alloc _) hl0 (by omega)).mono ?_
  rintro e w1 ⟨rfl, hf, hk2⟩
  have hs : w.heap.size < w1.heap.size := by have := hk2.size; simp at this; omega
  have hm9 := H0.out.2.2
  have hh9 := H1.out.2.2
  have hp0 : w1.cell? ⟨w.heap.size, 0, none⟩ = some (.float .f32 n0) := by rw [World.cell?_of_block (w := w.alloc _) (a := ⟨w.heap.size, 0, none⟩) (hk2.block w.heap.size (.inr (by omega)) (by simp))]; simp [go_sem]
  have hp1 : w1.cell? ⟨w.heap.size, 1, none⟩ = some (.float .f32 n1) := by rw [World.cell?_of_block (w := w.alloc _) (a := ⟨w.heap.size, 1, none⟩) (hk2.block w.heap.size (.inr (by omega)) (by simp))]; simp [go_sem]
  have hp2 : w1.cell? ⟨w.heap.size, 2, none⟩ = some (.float .f32 n2) := by rw [World.cell?_of_block (w := w.alloc _) (a := ⟨w.heap.size, 2, none⟩) (hk2.block w.heap.size (.inr (by omega)) (by simp))]; simp [go_sem]
  have hp3 : w1.cell? ⟨w.heap.size, 3, none⟩ = some (.slice a0 zs0.length c0) := by rw [World.cell?_of_block (w := w.alloc _) (a := ⟨w.heap.size, 3, none⟩) (hk2.block w.heap.size (.inr (by omega)) (by simp))]; simp [go_sem]
  have hp4 : w1.cell? ⟨w.heap.size, 4, none⟩ = some (.slice a1 zs1.length c1) := by rw [World.cell?_of_block (w := w.alloc _) (a := ⟨w.heap.size, 4, none⟩) (hk2.block w.heap.size (.inr (by omega)) (by simp))]; simp [go_sem]
  have hf1 : FRow w1 mid hi (.slice a1 zs1.length c1) zs1 := (H1.out.alloc _).kept hk2 (.inr (Nat.le_refl _))
  have HF0 := Lib.hid hf
  have HF1 := Lib.hid hf1
  have HK : Hid (Kept lo hi w w1) := Lib.hid ((Kept.of_below (below1 _ _) (Nat.le_refl _)).trans ⟨hk2.os, hk2.tape, hk2.output, hk2.size, fun i hi1 hi2 => hk2.block i (by omega) hi2⟩)
  clear hf hf1 hk2
  go_wp2_with fail
  refine (markF_any mid hi (k + zs0.length) a1 c1 zs1 _ HF1.out hl1 (by omega)).mono ?_
  rintro e w2 ⟨rfl, hf, hk2⟩
  have HG0 := Lib.hid (HF0.out.kept hk2 (.inl (Nat.le_refl _)))
  have HG1 := Lib.hid hf
  have HK2 := Lib.hid (HK.out.trans ⟨hk2.os, hk2.tape, hk2.output, hk2.size, fun i hi1 hi2 => hk2.block i (by omega) hi2⟩)
  clear hf hk2
  go_wp2_with fail
  go_ret
  exact ⟨rfl, HG0.out, HG1.out, HK2.out⟩

set_option maxHeartbeats 4000000 in
theorem heldCanal_any (lo mid hi k m0 m1 : Nat) (n0 n1 n2 : Nat) (a0 a1 : Option Addr) (c0 c1 : Nat) (w : World) (h0 : FRow w lo mid (.slice a0 m0 c0) (marks k m0)) (h1 : FRow w mid hi (.slice a1 m1 c1) (marks (k + m0) m1)) (hl0 : m0 ≤ 1048576) (hl1 : m1 ≤ 1048576) (hk : k ≤ 3145728) :
    Calls Try.prog 28 #[.agg #[.float .f32 n0, .float .f32 n1, .float .f32 n2, .slice a0 m0 c0, .slice a1 m1 c1], .int .i64 (k : Int)] w fun e w' => e = .returned (.int .i64 ((k + m0 + m1 : Nat) : Int)) ∧ Below w.heap.size w w' := by
  have H0 := Lib.hid h0
  have H1 := Lib.hid h1
  clear h0 h1
  have h2 : ¬ ((k + m0 : Nat) : Int) < 0 := by omega
  have h3 : ¬ ((k + m0 + m1 : Nat) : Int) < 0 := by omega
  go_enter Try.func28, Try.ntmps28
  go_wp2_with fail
  refine (heldF_any lo mid k m0 a0 c0 _ (H0.out.alloc _) hl0 (by omega)).mono ?_
  rintro e w1 ⟨rfl, rfl⟩
  go_wp2_with fail
  refine (heldF_any mid hi (k + m0) m1 a1 c1 _ (H1.out.alloc _) hl1 (by omega)).mono ?_
  rintro e w1 ⟨rfl, rfl⟩
  go_wp2_with fail
  go_ret
  exact ⟨rfl, below1 _ _⟩

end Go.Proofs.Ytgnkpppbhibfoaa
