/- The law's helpers on hills. -/
import Derived.Test.YtdpnkpgfepckdaaMarkF
namespace Go.Proofs.Ytdpnkpgfepckdaa
open Go.RowKit

set_option maxHeartbeats 400000 in
theorem szHill_fits (wide high : Int) (a : Option Addr) (len cap : Nat) (left : Int) (h : (len : Int) ≤ left) (hl : left ≤ 1048576) (w : World) :
    Calls Try.prog 20 #[.agg #[.int .i64 wide, .int .i64 high, .slice a len cap], .int .i64 left] w fun e w' => e = .returned (.int .i64 (left - len)) ∧ Below w.heap.size w w' := by
  have h2 : ¬ left - (len : Int) < 0 := by omega
  go_enter Try.func20, Try.ntmps20
  go_wp2
  go_ret
  exact ⟨rfl, (Below.refl _ _).alloc (Nat.le_refl _) _⟩

set_option maxHeartbeats 400000 in
theorem szHill_not (wide high : Int) (a : Option Addr) (len cap : Nat) (left : Int) (h : left < (len : Int)) (h0 : 0 ≤ left) (hm : len ≤ 9223372036854775807) (w : World) :
    Calls Try.prog 20 #[.agg #[.int .i64 wide, .int .i64 high, .slice a len cap], .int .i64 left] w fun e w' => e = .returned (.int .i64 (-1)) ∧ Below w.heap.size w w' := by
  have h2 : left - (len : Int) < 0 := by omega
  go_enter Try.func20, Try.ntmps20
  go_wp2
  go_ret
  exact ⟨rfl, (Below.refl _ _).alloc (Nat.le_refl _) _⟩

/-- A copy of a hill. -/
def CopyH (w : World) (wide high : Int) (zs : List Nat) (e : Ending) (w' : World) : Prop :=
  ∃ a cap, e = .returned (.agg #[.int .i64 wide, .int .i64 high, .slice a zs.length cap]) ∧ Below w.heap.size w w' ∧ FRow w' w.heap.size w'.heap.size (.slice a zs.length cap) zs

set_option maxHeartbeats 1000000 in
theorem toHill_any (wide high : Int) (a : Option Addr) (cap : Nat) (zs : List Nat) (w : World) (hr : RowF .f32 w a zs) (hl : zs.length ≤ 1048576) :
    Calls Try.prog 22 #[.agg #[.int .i64 wide, .int .i64 high, .slice a zs.length cap]] w (CopyH w wide high zs) := by
  have Hr := Lib.hid hr
  clear hr
  go_enter Try.func22, Try.ntmps22
  go_wp2_with fail
  refine (copyF_any a cap zs _ (Hr.out.below (below3 _ _ _ _) (Nat.le_refl _)) hl).mono ?_
  rintro e w1 ⟨a1, cap1, rfl, hb1, hf1⟩
  obtain ⟨hc, hf⟩ := bcell hb1
  have hz : w.heap.size + 2 < w1.heap.size := by have := hb1.size; simp at this; omega
  have Hb := Lib.hid ((below3 _ _ _ _).trans (hb1.mono (by simp; omega)))
  have Hf := Lib.hid hf1
  clear hb1 hf1
  go_wp2_with fail
  refine bodyPost_ret (v := .agg #[.int .i64 wide, .int .i64 high, .slice a1 zs.length cap1]) (by simp [results, Try.results22, go_sem, hc]) rfl ⟨a1, cap1, rfl, ?_, ?_⟩
  · exact (((Hb.out.setCell (by simp; omega) _).setCell (by simp) _).setCell (by simp) _).setCell (by simp) _
  · have h4 := (((Hf.out.setCell (p := ⟨w.heap.size + 1 + 1, 2, none⟩) (by simp) (.slice a1 zs.length cap1)).setCell (p := ⟨w.heap.size + 1, 0, none⟩) (by simp) (.int .i64 wide)).setCell (p := ⟨w.heap.size + 1, 1, none⟩) (by simp) (.int .i64 high)).setCell (p := ⟨w.heap.size + 1, 2, none⟩) (by simp) (.slice a1 zs.length cap1)
    exact h4.mono (by simp; omega) (by simp only [setCell_size]; exact Nat.le_refl _) (Nat.le_refl _)

set_option maxHeartbeats 1000000 in
theorem eqHill_any (wide high : Int) (a a' : Option Addr) (cap cap' : Nat) (zs : List Nat) (w : World) (hr : RowF .f32 w a zs) (hr' : RowF .f32 w a' zs) (hl : zs.length ≤ 1048576) :
    Calls Try.prog 25 #[.agg #[.int .i64 wide, .int .i64 high, .slice a zs.length cap], .agg #[.int .i64 wide, .int .i64 high, .slice a' zs.length cap']] w
      fun e w' => e = .returned (.bool true) ∧ Below w.heap.size w w' := by
  have Hr := Lib.hid hr
  have Hr' := Lib.hid hr'
  clear hr hr'
  go_enter Try.func25, Try.ntmps25
  go_wp2_with fail
  refine (eqFloat32S_any a a' cap cap' zs _ (Hr.out.below (below2 _ _ _) (Nat.le_refl _)) (Hr'.out.below (below2 _ _ _) (Nat.le_refl _)) hl).mono ?_
  rintro e w1 ⟨rfl, n, rfl⟩
  go_wp2_with fail
  go_ret
  exact ⟨rfl, below_drewN (below2 _ _ _) _⟩

set_option maxHeartbeats 1000000 in
theorem markHill_any (lo hi k : Nat) (wide high : Int) (a : Option Addr) (cap : Nat) (zs : List Nat) (w : World) (h : FRow w lo hi (.slice a zs.length cap) zs) (hl : zs.length ≤ 1048576) (hk : k ≤ 4194304) :
    Calls Try.prog 28 #[.agg #[.int .i64 wide, .int .i64 high, .slice a zs.length cap], .int .i64 (k : Int)] w (Marks k lo hi (.slice a zs.length cap) zs.length w) := by
  have H := Lib.hid h
  clear h
  go_enter Try.func28, Try.ntmps28
  go_wp2_with fail
  refine (markF_any lo hi k a cap zs _ (H.out.alloc _) hl hk).mono ?_
  rintro e w1 ⟨rfl, hf, hk2⟩
  have Hf := Lib.hid hf
  have Hk := Lib.hid hk2
  clear hf hk2
  go_wp2_with fail
  go_ret
  exact ⟨rfl, Hf.out, (Kept.of_below (below1 _ _) (Nat.le_refl _)).trans Hk.out⟩


/-- A box that holds a hill. -/
def BoxH (w : World) (b : Nat) (wide high : Int) (v : Value) : Prop :=
  w.cell? ⟨b, 0, none⟩ = some (.int .i64 wide) ∧ w.cell? ⟨b, 1, none⟩ = some (.int .i64 high) ∧ w.cell? ⟨b, 2, none⟩ = some v ∧ b < w.heap.size

theorem BoxH.below {w w' : World} {b B : Nat} {wide high : Int} {v : Value} (h : BoxH w b wide high v) (hb : Below B w w') (hB : b < B) : BoxH w' b wide high v := by
  obtain ⟨h0, h1, h2, h3⟩ := h
  exact ⟨by rw [hb.cell (p := ⟨b, 0, none⟩) hB, h0], by rw [hb.cell (p := ⟨b, 1, none⟩) hB, h1], by rw [hb.cell (p := ⟨b, 2, none⟩) hB, h2], Nat.lt_of_lt_of_le h3 hb.size⟩

theorem BoxH.kept {w w' : World} {b lo hi : Nat} {wide high : Int} {v : Value} (h : BoxH w b wide high v) (hk : Kept lo hi w w') (hB : b < lo ∨ hi ≤ b) : BoxH w' b wide high v := by
  have hb := hk.block b hB h.2.2.2
  obtain ⟨h0, h1, h2, h3⟩ := h
  exact ⟨by rw [World.cell?_of_block (w := w) (a := ⟨b, 0, none⟩) hb, h0], by rw [World.cell?_of_block (w := w) (a := ⟨b, 1, none⟩) hb, h1], by rw [World.cell?_of_block (w := w) (a := ⟨b, 2, none⟩) hb, h2], Nat.lt_of_lt_of_le h3 hk.size⟩

theorem BoxH.new (w : World) (wide high : Int) (v : Value) (t : TypeId) : BoxH (w.alloc (.cells #[.int .i64 wide, .int .i64 high, v] t)) w.heap.size wide high v :=
  ⟨by simp [go_sem], by simp [go_sem], by simp [go_sem], by simp⟩
end Go.Proofs.Ytdpnkpgfepckdaa
