/- Marks on rows of numbers, and looks at them. -/
import Derived.Test.YtdmcjloaommnpaaOwnF
namespace Go.Proofs.Ytdmcjloaommnpaa
open Go.RowKit

theorem below1 (w : World) (o : Obj) : Below w.heap.size w (w.alloc o) := (Below.refl _ _).alloc (Nat.le_refl _) _

theorem below2 (w : World) (o o' : Obj) : Below w.heap.size w ((w.alloc o).alloc o') := (below1 w o).alloc (by simp) _

theorem below3 (w : World) (o o' o'' : Obj) : Below w.heap.size w (((w.alloc o).alloc o').alloc o'') := (below2 w o o').alloc (by simp; omega) _

theorem bcell {W w1 : World} (hb : Below W.heap.size W w1) : (∀ b o, b < W.heap.size → w1.cell? ⟨b, o, none⟩ = W.cell? ⟨b, o, none⟩) ∧ (∀ b o, b < W.heap.size → w1.frozen? ⟨b, o, none⟩ = W.frozen? ⟨b, o, none⟩) :=
  ⟨fun b o h => hb.cell (p := ⟨b, o, none⟩) h, fun b o h => hb.frozen (p := ⟨b, o, none⟩) h⟩

theorem FRow.at {w : World} {lo hi : Nat} {g n cap : Nat} {zs : List Nat} (h : FRow w lo hi (.slice (some ⟨g, 0, none⟩) n cap) zs) (j : Nat) (hj : j < zs.length) (hn : n = zs.length) : w.cell? ⟨g, j, none⟩ = some (.float .f32 (zs.getD j 0)) ∧ w.frozen? ⟨g, j, none⟩ = false := by
  subst hn
  refine ⟨?_, h.1.frozenAt j⟩
  rw [h.1.cellAt j (by omega), List.getElem?_map, List.getElem?_eq_getElem hj, List.getD_eq_getElem?_getD, List.getElem?_eq_getElem hj]
  rfl

theorem FRow.cases {w : World} {lo hi : Nat} {v : Value} {zs : List Nat} (h : FRow w lo hi v zs) : (v = .slice none 0 0 ∧ zs = []) ∨ ∃ g cap, v = .slice (some ⟨g, 0, none⟩) zs.length cap ∧ lo ≤ g ∧ g < hi := by
  obtain ⟨h1, h2⟩ := h.1
  rcases h2 with ⟨rfl, h0⟩ | ⟨g, cap, cur, rfl, hg, _⟩
  · exact .inl ⟨rfl, List.length_eq_zero_iff.1 h0⟩
  · exact .inr ⟨g, cap, rfl, hg, h.2.1 g rfl⟩

/-- A store into the row. -/
theorem FRow.store {w : World} {lo hi : Nat} {g cap : Nat} {zs : List Nat} (h : FRow w lo hi (.slice (some ⟨g, 0, none⟩) zs.length cap) zs) (j z : Nat) :
    FRow (w.setCell ⟨g, j, none⟩ (.float .f32 z)) lo hi (.slice (some ⟨g, 0, none⟩) (zs.set j z).length cap) (zs.set j z) ∧ Kept lo hi w (w.setCell ⟨g, j, none⟩ (.float .f32 z)) := by
  have h2 := h.1.stored j (.float .f32 z)
  have hlt := (h.1.lt g rfl)
  have hgh := h.2.1 g rfl
  refine ⟨⟨?_, h.2.1, by rw [setCell_size]; exact h.2.2⟩, ⟨rfl, rfl, rfl, by rw [setCell_size]; exact Nat.le_refl _, fun k hk _ => Below.heap_setCell _ _ _ _ (by show k ≠ g; omega)⟩⟩
  rw [List.length_set, List.map_set]
  exact h2.1

theorem Kept.refl (lo hi : Nat) (w : World) : Kept lo hi w w := ⟨rfl, rfl, rfl, Nat.le_refl _, fun _ _ _ => rfl⟩

theorem Kept.trans {lo hi : Nat} {a b c : World} (h : Kept lo hi a b) (k : Kept lo hi b c) : Kept lo hi a c :=
  ⟨k.os.trans h.os, k.tape.trans h.tape, k.output.trans h.output, Nat.le_trans h.size k.size, fun i hi1 hi2 => (k.block i hi1 (Nat.lt_of_lt_of_le hi2 h.size)).trans (h.block i hi1 hi2)⟩

theorem Kept.of_below {lo hi B : Nat} {w w' : World} (h : Below B w w') (hB : w.heap.size ≤ B) : Kept lo hi w w' := ⟨h.os, h.tape, h.output, h.size, fun k _ hk => h.block k (by omega)⟩

/-- What marking leaves. -/
def Marks (k : Nat) (lo hi : Nat) (v : Value) (n : Nat) (w : World) (e : Ending) (w' : World) : Prop :=
  e = .returned (.int .i64 ((k + n : Nat) : Int)) ∧ FRow w' lo hi v (marks k n) ∧ Kept lo hi w w'

set_option maxHeartbeats 1000000 in
theorem markF_row (lo hi g cap k : Nat) (zs : List Nat) (w : World) (h : FRow w lo hi (.slice (some ⟨g, 0, none⟩) zs.length cap) zs) (hl : zs.length ≤ 1048576) (hk : k ≤ 4194304) :
    Calls Try.prog 34 #[.slice (some ⟨g, 0, none⟩) zs.length cap, .int .i64 (k : Int)] w (Marks k lo hi (.slice (some ⟨g, 0, none⟩) zs.length cap) zs.length w) := by
  obtain ⟨len, hlen⟩ : ∃ len, zs.length = len := ⟨_, rfl⟩
  have H := Lib.hid h
  have Hlen := Lib.hid hlen
  rw [hlen] at hl
  clear h
  rw [hlen]
  clear hlen
  go_enter Try.func34, Try.ntmps34
  go_wp2_with fail
  go_loopw [1, 5] (fun kk i wr => ∃ j : Nat, j ≤ len ∧ i = .int .i64 j ∧ kk = .int .i64 ((k + j : Nat) : Int) ∧ FRow wr lo hi (.slice (some ⟨g, 0, none⟩) len cap) (marked k zs j) ∧ Kept lo hi w wr) (fun _ i _ => len - (intOf i).toNat)
  case atStart => exact ⟨0, Nat.zero_le _, rfl, rfl, by rw [marked_zero, ← Hlen.out]; exact H.out, Kept.refl _ _ _⟩
  case round =>
    obtain ⟨j, hj, rfl, rfl, hf, hk2⟩ := hrel
    have hml : (marked k zs j).length = len := by rw [marked_length _ _ _ (by rw [Hlen.out]; exact hj), Hlen.out]
    by_cases hlt : j < len
    · obtain ⟨hcell, hfz⟩ := hf.at j (by rw [hml]; exact hlt) hml.symm
      have hst := FRow.store (by rw [hml]; exact hf) j (FloatKind.f32.nearest ((k + j : Nat) : Int))
      rw [show (marked k zs j).set j (FloatKind.f32.nearest ((k + j : Nat) : Int)) = marked k zs (j + 1) from marked_set k zs j (by rw [Hlen.out]; exact hlt), marked_length k zs (j + 1) (by rw [Hlen.out]; omega), Hlen.out] at hst
      have Hst := Lib.hid hst
      have Hk := Lib.hid hk2
      clear hst hk2 hf hml
      generalize (marked k zs j).getD j 0 = old at *
      go_wp2
      go_roundw
      case rel => exact ⟨j + 1, by omega, by go_num, by go_num, Hst.out.1, Hk.out.trans Hst.out.2⟩
      case measure => simp [intOf]; omega
    · obtain rfl : j = len := by omega
      have Hf := Lib.hid hf
      have Hk := Lib.hid hk2
      clear hf hk2 hml
      go_wp2
      go_ret
      refine ⟨rfl, ?_, Hk.out⟩
      have := Hf.out
      rw [← Hlen.out, marked_all] at this
      rw [← Hlen.out]
      exact this

set_option maxHeartbeats 1000000 in
theorem markF_nil (lo hi k : Nat) (w : World) (h : FRow w lo hi (.slice none 0 0) []) :
    Calls Try.prog 34 #[.slice none 0 0, .int .i64 (k : Int)] w (Marks k lo hi (.slice none 0 0) 0 w) := by
  have H := Lib.hid h
  clear h
  go_enter Try.func34, Try.ntmps34
  go_wp2_with fail
  go_loop [1, 5] (fun kk i => i = .int .i64 0 ∧ kk = .int .i64 (k : Int)) (fun _ i => 0)
  case atStart => exact ⟨rfl, rfl⟩
  case round =>
    obtain ⟨rfl, rfl⟩ := hrel
    go_wp2_with fail
    go_ret
    exact ⟨rfl, H.out, Kept.refl _ _ _⟩

theorem markF_any (lo hi k : Nat) (a : Option Addr) (cap : Nat) (zs : List Nat) (w : World) (h : FRow w lo hi (.slice a zs.length cap) zs) (hl : zs.length ≤ 1048576) (hk : k ≤ 4194304) :
    Calls Try.prog 34 #[.slice a zs.length cap, .int .i64 (k : Int)] w (Marks k lo hi (.slice a zs.length cap) zs.length w) := by
  rcases h.cases with ⟨h1, rfl⟩ | ⟨g, cap', h1, _, _⟩
  · cases h1; exact markF_nil lo hi k w h
  · cases h1; exact markF_row lo hi g cap k zs w h hl hk

theorem marks_getD (k n j : Nat) (h : j < n) : (marks k n).getD j 0 = FloatKind.f32.nearest ((k + j : Nat) : Int) := by
  rw [List.getD_eq_getElem?_getD, marks, List.getElem?_map, List.getElem?_range h]; rfl

set_option maxHeartbeats 1000000 in
theorem heldF_row (g off len cap k : Nat) (w : World) (hc : ∀ j, j < len → w.cell? ⟨g, off + j, none⟩ = some (.float .f32 ((marks k len).getD j 0))) (hl : len ≤ 1048576) (hk : k ≤ 4194304) :
    Calls Try.prog 35 #[.slice (some ⟨g, off, none⟩) len cap, .int .i64 (k : Int)] w fun e w' => e = .returned (.int .i64 ((k + len : Nat) : Int)) ∧ w = w' := by
  have Hc := Lib.hid hc
  clear hc
  go_enter Try.func35, Try.ntmps35
  go_wp2_with fail
  go_loop [1, 5] (fun kk i => ∃ j : Nat, j ≤ len ∧ i = .int .i64 j ∧ kk = .int .i64 ((k + j : Nat) : Int)) (fun _ i => len - (intOf i).toNat)
  case atStart => exact ⟨0, Nat.zero_le _, rfl, rfl⟩
  case round =>
    obtain ⟨j, hj, rfl, rfl⟩ := hrel
    by_cases hlt : j < len
    · have hcell := Hc.out j hlt
      rw [marks_getD k len j hlt] at hcell
      have ho := nearest_own ((k + j : Nat) : Int)
      have hr2 : floatOfInt .f32 ((k : Int) + (j : Int)) = FloatKind.f32.nearest ((k + j : Nat) : Int) := by rw [Int.natCast_add]; rfl
      generalize FloatKind.f32.nearest ((k + j : Nat) : Int) = r at *
      go_wp2
      go_round
      case rel => exact ⟨j + 1, by omega, by go_num, by go_num⟩
      case measure => simp [intOf]; omega
    · obtain rfl : j = len := by omega
      go_wp2
      go_ret
      exact ⟨rfl, rfl⟩

set_option maxHeartbeats 1000000 in
theorem heldF_nil (k : Nat) (w : World) :
    Calls Try.prog 35 #[.slice none 0 0, .int .i64 (k : Int)] w fun e w' => e = .returned (.int .i64 (k : Int)) ∧ w = w' := by
  go_enter Try.func35, Try.ntmps35
  go_wp2_with fail
  go_loop [1, 5] (fun kk i => i = .int .i64 0 ∧ kk = .int .i64 (k : Int)) (fun _ i => 0)
  case atStart => exact ⟨rfl, rfl⟩
  case round =>
    obtain ⟨rfl, rfl⟩ := hrel
    go_wp2_with fail
    go_ret
    exact ⟨rfl, rfl⟩

theorem heldF_any (lo hi k n : Nat) (a : Option Addr) (cap : Nat) (w : World) (h : FRow w lo hi (.slice a n cap) (marks k n)) (hl : n ≤ 1048576) (hk : k ≤ 4194304) :
    Calls Try.prog 35 #[.slice a n cap, .int .i64 (k : Int)] w fun e w' => e = .returned (.int .i64 ((k + n : Nat) : Int)) ∧ w = w' := by
  rcases h.cases with ⟨h1, h2⟩ | ⟨g, cap', h1, _, _⟩
  · cases h1
    exact heldF_nil k w
  · rw [marks_length] at h1
    cases h1
    exact heldF_row g 0 n cap k w (fun j hj => by rw [Nat.zero_add]; exact (h.at j (by rw [marks_length]; exact hj) (marks_length k n).symm).1) hl hk

theorem FRow.row {w : World} {lo hi : Nat} {a : Option Addr} {cap : Nat} {zs : List Nat} (h : FRow w lo hi (.slice a zs.length cap) zs) : RowF .f32 w a zs := by
  obtain ⟨a', cap', h1, h2⟩ := h.slice
  cases h1
  exact h2
end Go.Proofs.Ytdmcjloaommnpaa
