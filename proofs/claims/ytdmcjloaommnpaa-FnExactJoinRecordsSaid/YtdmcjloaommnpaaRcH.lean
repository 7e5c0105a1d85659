/- The law's helpers on records (the names of the texts on hills, with a name ahead). -/
import Derived.Test.YtdmcjloaommnpaaMarkF
import Derived.IntWalk
namespace Go.Proofs.Ytdmcjloaommnpaa
open Go.RowKit

set_option maxHeartbeats 400000 in
theorem szF_fits (a : Option Addr) (len cap : Nat) (left : Int) (h : (len : Int) ≤ left) (hl : left ≤ 1048576) (w : World) :
    Calls Try.prog 81 #[.slice a len cap, .int .i64 left] w fun e w' => e = .returned (.int .i64 (left - len)) ∧ w = w' := by
  have h2 : ¬ left - (len : Int) < 0 := by omega
  go_enter Try.func81, Try.ntmps81
  go_wp2_with fail
  go_ret
  exact ⟨rfl, rfl⟩
set_option maxHeartbeats 400000 in
theorem szF_not (a : Option Addr) (len cap : Nat) (left : Int) (h : left < (len : Int)) (h0 : 0 ≤ left) (hm : len ≤ 9223372036854775807) (w : World) :
    Calls Try.prog 81 #[.slice a len cap, .int .i64 left] w fun e w' => e = .returned (.int .i64 (-1)) ∧ w = w' := by
  have h2 : left - (len : Int) < 0 := by omega
  go_enter Try.func81, Try.ntmps81
  go_wp2_with fail
  go_ret
  exact ⟨rfl, rfl⟩
set_option maxHeartbeats 1000000 in
theorem szHill_fits (nm : ByteArray) (wide high : Int) (a : Option Addr) (len cap : Nat) (left : Int) (h : (nm.size : Int) + (len : Int) ≤ left) (hl : left ≤ 1048576) (w : World) :
    Calls Try.prog 36 #[.agg #[.string nm, .int .i64 wide, .int .i64 high, .slice a len cap], .int .i64 left] w fun e w' => e = .returned (.int .i64 (left - nm.size - len)) ∧ Below w.heap.size w w' := by
  have h2 : ¬ left - (nm.size : Int) < 0 := by omega
  have h3 : ¬ left - (nm.size : Int) - (len : Int) < 0 := by omega
  have hw : IntKind.i64.wrap (left - (nm.size : Int)) = left - (nm.size : Int) := IntWalk.i64_in _ (by omega)
  go_enter Try.func36, Try.ntmps36
  go_wp2_with fail
  refine (szF_fits a len cap (left - nm.size) (by omega) (by omega) _).mono ?_
  rintro e w' ⟨rfl, rfl⟩
  go_wp2_with fail
  go_ret
  exact ⟨rfl, (Below.refl _ _).alloc (Nat.le_refl _) _⟩
set_option maxHeartbeats 1000000 in
theorem szHill_not (nm : ByteArray) (wide high : Int) (a : Option Addr) (len cap : Nat) (left : Int) (h : left < (nm.size : Int) + (len : Int)) (h0 : 0 ≤ left) (hl : left ≤ 1048576) (hs : nm.size ≤ 9223372036854775807) (hm : len ≤ 9223372036854775807) (w : World) :
    Calls Try.prog 36 #[.agg #[.string nm, .int .i64 wide, .int .i64 high, .slice a len cap], .int .i64 left] w fun e w' => e = .returned (.int .i64 (-1)) ∧ Below w.heap.size w w' := by
  have hw : IntKind.i64.wrap (left - (nm.size : Int)) = left - (nm.size : Int) := IntWalk.i64_in _ (by omega)
  by_cases h2 : left - (nm.size : Int) < 0
  · go_enter Try.func36, Try.ntmps36
    go_wp2_with fail
    go_ret
    exact ⟨rfl, (Below.refl _ _).alloc (Nat.le_refl _) _⟩
  · go_enter Try.func36, Try.ntmps36
    go_wp2_with fail
    refine (szF_not a len cap (left - nm.size) (by omega) (by omega) hm _).mono ?_
    rintro e w' ⟨rfl, rfl⟩
    go_wp2_with fail
    go_ret
    exact ⟨rfl, (Below.refl _ _).alloc (Nat.le_refl _) _⟩

/-- A copy of a hill. -/
def CopyH (w : World) (nm : ByteArray) (wide high : Int) (zs : List Nat) (e : Ending) (w' : World) : Prop :=
  ∃ a cap, e = .returned (.agg #[.string nm, .int .i64 wide, .int .i64 high, .slice a zs.length cap]) ∧ Below w.heap.size w w' ∧ FRow w' w.heap.size w'.heap.size (.slice a zs.length cap) zs

set_option maxHeartbeats 1000000 in
theorem toHill_any (nm : ByteArray) (wide high : Int) (a : Option Addr) (cap : Nat) (zs : List Nat) (w : World) (hr : RowF .f32 w a zs) (hl : zs.length ≤ 1048576) :
    Calls Try.prog 38 #[.agg #[.string nm, .int .i64 wide, .int .i64 high, .slice a zs.length cap]] w (CopyH w nm wide high zs) := by
  have Hr := Lib.hid hr
  clear hr
  go_enter Try.func38, Try.ntmps38
  go_wp2_with fail
  refine (copyF_any a cap zs _ (Hr.out.below (below3 _ _ _ _) (Nat.le_refl _)) hl).mono ?_
  rintro e w1 ⟨a1, cap1, rfl, hb1, hf1⟩
  obtain ⟨hc, hf⟩ := bcell hb1
  have hz : w.heap.size + 2 < w1.heap.size := by have := hb1.size; simp at this; omega
  have Hb := Lib.hid ((below3 _ _ _ _).trans (hb1.mono (by simp; omega)))
  have Hf := Lib.hid hf1
  clear hb1 hf1
  go_wp2_with fail
  refine bodyPost_ret (v := .agg #[.string nm, .int .i64 wide, .int .i64 high, .slice a1 zs.length cap1]) (by simp [results, Try.results38, go_sem, hc]) rfl ⟨a1, cap1, rfl, ?_, ?_⟩
  · exact ((((Hb.out.setCell (by simp; omega) _).setCell (by simp) _).setCell (by simp) _).setCell (by simp) _).setCell (by simp) _
  · have h4 := ((((Hf.out.setCell (p := ⟨w.heap.size + 1 + 1, 3, none⟩) (by simp) (.slice a1 zs.length cap1)).setCell (p := ⟨w.heap.size + 1, 0, none⟩) (by simp) (.string nm)).setCell (p := ⟨w.heap.size + 1, 1, none⟩) (by simp) (.int .i64 wide)).setCell (p := ⟨w.heap.size + 1, 2, none⟩) (by simp) (.int .i64 high)).setCell (p := ⟨w.heap.size + 1, 3, none⟩) (by simp) (.slice a1 zs.length cap1)
    exact h4.mono (by simp; omega) (by simp only [setCell_size]; exact Nat.le_refl _) (Nat.le_refl _)

set_option maxHeartbeats 1000000 in
theorem eqHill_any (nm : ByteArray) (wide high : Int) (a a' : Option Addr) (cap cap' : Nat) (zs : List Nat) (w : World) (hr : RowF .f32 w a zs) (hr' : RowF .f32 w a' zs) (hl : zs.length ≤ 1048576) :
    Calls Try.prog 40 #[.agg #[.string nm, .int .i64 wide, .int .i64 high, .slice a zs.length cap], .agg #[.string nm, .int .i64 wide, .int .i64 high, .slice a' zs.length cap']] w
      fun e w' => e = .returned (.bool true) ∧ Below w.heap.size w w' := by
  have Hr := Lib.hid hr
  have Hr' := Lib.hid hr'
  clear hr hr'
  go_enter Try.func40, Try.ntmps40
  go_wp2_with fail
  refine (eqFloat32S_any a a' cap cap' zs _ (Hr.out.below (below2 _ _ _) (Nat.le_refl _)) (Hr'.out.below (below2 _ _ _) (Nat.le_refl _)) hl).mono ?_
  rintro e w1 ⟨rfl, n, rfl⟩
  go_wp2_with fail
  go_ret
  exact ⟨rfl, below_drewN (below2 _ _ _) _⟩

set_option maxHeartbeats 1000000 in
theorem markHill_any (lo hi k : Nat) (nm : ByteArray) (wide high : Int) (a : Option Addr) (cap : Nat) (zs : List Nat) (w : World) (h : FRow w lo hi (.slice a zs.length cap) zs) (hl : zs.length ≤ 1048576) (hk : k ≤ 4194304) :
    Calls Try.prog 43 #[.agg #[.string nm, .int .i64 wide, .int .i64 high, .slice a zs.length cap], .int .i64 (k : Int)] w (Marks k lo hi (.slice a zs.length cap) zs.length w) := by
  have H := Lib.hid h
  clear h
  go_enter Try.func43, Try.ntmps43
  go_wp2_with fail
  refine (markF_any lo hi k a cap zs _ (H.out.alloc _) hl hk).mono ?_
  rintro e w1 ⟨rfl, hf, hk2⟩
  have Hf := Lib.hid hf
  have Hk := Lib.hid hk2
  clear hf hk2
  go_wp2_with fail
  go_ret
  exact ⟨rfl, Hf.out, (Kept.of_below (below1 _ _) (Nat.le_refl _)).trans Hk.out⟩

set_option maxHeartbeats 1000000 in
theorem heldHill_any (lo hi k n : Nat) (nm : ByteArray) (wide high : Int) (a : Option Addr) (cap : Nat) (w : World) (h : FRow w lo hi (.slice a n cap) (marks k n)) (hl : n ≤ 1048576) (hk : k ≤ 4194304) :
    Calls Try.prog 44 #[.agg #[.string nm, .int .i64 wide, .int .i64 high, .slice a n cap], .int .i64 (k : Int)] w fun e w' => e = .returned (.int .i64 ((k + n : Nat) : Int)) ∧ Below w.heap.size w w' := by
  have H := Lib.hid h
  clear h
  have h2 : ¬ ((k + n : Nat) : Int) < 0 := by omega
  go_enter Try.func44, Try.ntmps44
  go_wp2_with fail
  refine (heldF_any lo hi k n a cap _ (H.out.alloc _) hl hk).mono ?_
  rintro e w1 ⟨rfl, rfl⟩
  go_wp2_with fail
  go_ret
  exact ⟨rfl, below1 _ _⟩

/-- A box that holds a record. -/
def BoxH (w : World) (b : Nat) (nm : ByteArray) (wide high : Int) (v : Value) : Prop :=
  w.cell? ⟨b, 0, none⟩ = some (.string nm) ∧ w.cell? ⟨b, 1, none⟩ = some (.int .i64 wide) ∧ w.cell? ⟨b, 2, none⟩ = some (.int .i64 high) ∧ w.cell? ⟨b, 3, none⟩ = some v ∧ b < w.heap.size
theorem BoxH.below {w w' : World} {b B : Nat} {nm : ByteArray} {wide high : Int} {v : Value} (h : BoxH w b nm wide high v) (hb : Below B w w') (hB : b < B) : BoxH w' b nm wide high v := by
  obtain ⟨h0, h1, h2, h4, h3⟩ := h
  exact ⟨by rw [hb.cell (p := ⟨b, 0, none⟩) hB, h0], by rw [hb.cell (p := ⟨b, 1, none⟩) hB, h1], by rw [hb.cell (p := ⟨b, 2, none⟩) hB, h2], by rw [hb.cell (p := ⟨b, 3, none⟩) hB, h4], Nat.lt_of_lt_of_le h3 hb.size⟩
theorem BoxH.kept {w w' : World} {b lo hi : Nat} {nm : ByteArray} {wide high : Int} {v : Value} (h : BoxH w b nm wide high v) (hk : Kept lo hi w w') (hB : b < lo ∨ hi ≤ b) : BoxH w' b nm wide high v := by
  have hb := hk.block b hB h.2.2.2.2
  obtain ⟨h0, h1, h2, h4, h3⟩ := h
  exact ⟨by rw [World.cell?_of_block (w := w) (a := ⟨b, 0, none⟩) hb, h0], by rw [World.cell?_of_block (w := w) (a := ⟨b, 1, none⟩) hb, h1], by rw [World.cell?_of_block (w := w) (a := ⟨b, 2, none⟩) hb, h2], by rw [World.cell?_of_block (w := w) (a := ⟨b, 3, none⟩) hb, h4], Nat.lt_of_lt_of_le h3 hk.size⟩
theorem BoxH.new (w : World) (nm : ByteArray) (wide high : Int) (v : Value) (t : TypeId) : BoxH (w.alloc (.cells #[.string nm, .int .i64 wide, .int .i64 high, v] t)) w.heap.size nm wide high v :=
  ⟨by simp [go_sem], by simp [go_sem], by simp [go_sem], by simp [go_sem], by simp⟩
theorem BoxH.at (w : World) (b : Nat) (hb : b = w.heap.size) (nm : ByteArray) (wide high : Int) (v : Value) (t : TypeId) : BoxH (w.alloc (.cells #[.string nm, .int .i64 wide, .int .i64 high, v] t)) b nm wide high v := hb ▸ BoxH.new w nm wide high v t
theorem BoxH.alloc {w : World} {b : Nat} {nm : ByteArray} {wide high : Int} {v : Value} (h : BoxH w b nm wide high v) (o : Obj) : BoxH (w.alloc o) b nm wide high v := h.below (below1 w o) h.2.2.2.2
theorem BoxH.drew {w : World} {b : Nat} {nm : ByteArray} {wide high : Int} {v : Value} (h : BoxH w b nm wide high v) : BoxH w.drew b nm wide high v := h
theorem BoxH.c0 {w : World} {b : Nat} {nm : ByteArray} {wide high : Int} {v : Value} (h : BoxH w b nm wide high v) : w.cell? ⟨b, 0, none⟩ = some (.string nm) := h.1
theorem BoxH.c1 {w : World} {b : Nat} {nm : ByteArray} {wide high : Int} {v : Value} (h : BoxH w b nm wide high v) : w.cell? ⟨b, 1, none⟩ = some (.int .i64 wide) := h.2.1
theorem BoxH.c2 {w : World} {b : Nat} {nm : ByteArray} {wide high : Int} {v : Value} (h : BoxH w b nm wide high v) : w.cell? ⟨b, 2, none⟩ = some (.int .i64 high) := h.2.2.1
theorem BoxH.c3 {w : World} {b : Nat} {nm : ByteArray} {wide high : Int} {v : Value} (h : BoxH w b nm wide high v) : w.cell? ⟨b, 3, none⟩ = some v := h.2.2.2.1
end Go.Proofs.Ytdmcjloaommnpaa
