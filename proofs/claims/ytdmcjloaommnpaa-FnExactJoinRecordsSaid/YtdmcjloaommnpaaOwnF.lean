/- Rows of floating-point numbers that a call made: where they lie, what they hold, what leaves them alone; the law's copies, marks and looks at marks. -/
import Derived.Test.YtdmcjloaommnpaaEqF
namespace Go.Proofs.Ytdmcjloaommnpaa
open Go.RowKit

/-- A row that lies in a block from lo on and below hi. -/
def FRow (w : World) (lo hi : Nat) (v : Value) (zs : List Nat) : Prop :=
  w.ownsRow lo 26 1 v zs.length (zs.map (.float .f32)) ∧ (∀ k, v.ownBlock = some k → k < hi) ∧ hi ≤ w.heap.size

/-- But for blocks from lo on and below hi all is as it was. -/
structure Kept (lo hi : Nat) (w w' : World) : Prop where
  os : w'.os = w.os
  tape : w'.tape = w.tape
  output : w'.output = w.output
  size : w.heap.size ≤ w'.heap.size
  block : ∀ k, k < lo ∨ hi ≤ k → k < w.heap.size → w'.heap[k]? = w.heap[k]?

theorem Kept.below {lo hi B : Nat} {w w' : World} (h : Kept lo hi w w') (hB : B ≤ lo) (hs : B ≤ w.heap.size) : Below B w w' :=
  ⟨h.os, h.tape, h.output, h.size, fun k hk => h.block k (.inl (by omega)) (by omega)⟩

theorem ownsRow_same {w w' : World} {base : Nat} {e : TypeId} {v : Value} {n : Nat} {xs : List Value} (h : w.ownsRow base e 1 v n xs) (hb : ∀ k, v.ownBlock = some k → w'.heap[k]? = w.heap[k]?) : w'.ownsRow base e 1 v n xs := by
  obtain ⟨h1, h2⟩ := h
  refine ⟨h1, ?_⟩
  rcases h2 with h2 | ⟨g, cap, cur, hv, hg, hh, r⟩
  · exact .inl h2
  · exact .inr ⟨g, cap, cur, hv, hg, by rw [hb g (by rw [hv]; rfl)]; exact hh, r⟩

theorem FRow.below {w w' : World} {lo hi B : Nat} {v : Value} {zs : List Nat} (h : FRow w lo hi v zs) (hb : Below B w w') (hB : hi ≤ B) : FRow w' lo hi v zs :=
  ⟨ownsRow_same h.1 fun k hk => hb.block k (by have := h.2.1 k hk; omega), h.2.1, Nat.le_trans h.2.2 hb.size⟩
theorem FRow.kept {w w' : World} {lo hi lo2 hi2 : Nat} {v : Value} {zs : List Nat} (h : FRow w lo hi v zs) (hk : Kept lo2 hi2 w w') (hd : hi ≤ lo2 ∨ hi2 ≤ lo) : FRow w' lo hi v zs :=
  ⟨ownsRow_same h.1 fun k hv => hk.block k (by have := h.2.1 k hv; have := (h.1.lt k hv).1; omega) (by have := (h.1.lt k hv).2; omega), h.2.1, Nat.le_trans h.2.2 hk.size⟩
theorem FRow.drewN {w : World} {lo hi : Nat} {v : Value} {zs : List Nat} (h : FRow w lo hi v zs) (n : Nat) : FRow (w.drewN n) lo hi v zs := h
theorem FRow.slice {w : World} {lo hi : Nat} {v : Value} {zs : List Nat} (h : FRow w lo hi v zs) : ∃ a cap, v = .slice a zs.length cap ∧ RowF .f32 w a zs := by
  obtain ⟨h1, h2⟩ := h.1
  rcases h2 with ⟨rfl, h0⟩ | ⟨g, cap, cur, rfl, _⟩
  · exact ⟨none, 0, by rw [h0], .inl (List.length_eq_zero_iff.1 h0)⟩
  · exact ⟨_, cap, rfl, RowF.of_owns h.1 rfl⟩
theorem FRow.mk {w : World} {lo : Nat} {v : Value} {zs : List Nat} (h : w.ownsRow lo 26 1 v zs.length (zs.map (.float .f32))) : FRow w lo w.heap.size v zs :=
  ⟨h, fun k hk => (h.lt k hk).2, Nat.le_refl _⟩
theorem FRow.nil (w : World) (lo : Nat) : FRow w lo w.heap.size (.slice none 0 0) [] := FRow.mk (World.ownsRow_nil w lo _ 1)

theorem FRow.mono {w : World} {lo hi lo' hi' : Nat} {v : Value} {zs : List Nat} (h : FRow w lo hi v zs) (hl : lo' ≤ lo) (hh : hi ≤ hi') (hs : hi' ≤ w.heap.size) : FRow w lo' hi' v zs := by
  obtain ⟨⟨h1, h2⟩, h3, h4⟩ := h
  refine ⟨⟨h1, ?_⟩, fun k hk => Nat.lt_of_lt_of_le (h3 k hk) hh, hs⟩
  rcases h2 with h2 | ⟨g, cap, cur, hv, hg, r⟩
  · exact .inl h2
  · exact .inr ⟨g, cap, cur, hv, Nat.le_trans hl hg, r⟩
theorem FRow.setCell {w : World} {lo hi : Nat} {v : Value} {zs : List Nat} (h : FRow w lo hi v zs) {p : Addr} (hp : p.block < lo) (u : Value) : FRow (w.setCell p u) lo hi v zs :=
  ⟨ownsRow_setCell_below h.1 hp u, h.2.1, by have := h.2.2; simpa [World.setCell] using this⟩
theorem FRow.alloc {w : World} {lo hi : Nat} {v : Value} {zs : List Nat} (h : FRow w lo hi v zs) (o : Obj) : FRow (w.alloc o) lo hi v zs := h.below ((Below.refl _ _).alloc h.2.2 o) (Nat.le_refl _)
theorem setCell_size (w : World) (p : Addr) (u : Value) : (w.setCell p u).heap.size = w.heap.size := by simp [World.setCell]

/-- A copy of a slice. -/
def CopyF (w : World) (zs : List Nat) (e : Ending) (w' : World) : Prop :=
  ∃ a cap, e = .returned (.slice a zs.length cap) ∧ Below w.heap.size w w' ∧ FRow w' w.heap.size w'.heap.size (.slice a zs.length cap) zs

set_option maxHeartbeats 1000000 in
theorem copyF_row (b off cap : Nat) (zs : List Nat) (w : World) (hb : b < w.heap.size) (hc : ∀ i, i < zs.length → w.cell? ⟨b, off + i, none⟩ = some (.float .f32 (zs.getD i 0))) (hl : zs.length ≤ 1048576) :
    Calls Try.prog 16 #[.slice (some ⟨b, off, none⟩) zs.length cap] w (CopyF w zs) := by
  obtain ⟨i0, hi, hz0, hz1, hz2⟩ := info_parts info_f32
  obtain ⟨len, hlen⟩ : ∃ len, zs.length = len := ⟨_, rfl⟩
  rw [hlen] at hl hc
  have Hlen := Lib.hid hlen
  rw [hlen]
  clear hlen
  have Hc := Lib.hid hc
  clear hc
  go_enter Try.func16, Try.ntmps16
  go_wp2_with (first | (at_make; refine wpList_make_full _ rfl _ _ 22 rfl w.heap.size 26 i0 (.float .f32 0) 1 Try.underlying22 hi hz0 hz1 _ _ _ _ len rfl rfl rfl rfl (by rw [hz2]; omega) (by unfold maxLen; omega) (Nat.le_refl _) ?_) | go_in)
  intro w1 hown hgrow
  have hown' : w1.ownsRow w.heap.size 26 1 (.slice (some ⟨w.heap.size, 0, none⟩) len len) len (copied .f32 zs 0) := by
    rw [copied_zero, Hlen.out, ← toList_madeCells_one]
    exact hown
  have hb1 : Below w.heap.size w w1 := (Below.refl _ _).grown hgrow (Nat.le_refl _) (fun k h => by cases h)
  clear hown hgrow
  go_wp2_with fail
  go_loopw [4] (fun i wr => ∃ k : Nat, k ≤ len ∧ i = .int .i64 k ∧ wr.ownsRow w.heap.size 26 1 (.slice (some ⟨w.heap.size, 0, none⟩) len len) len (copied .f32 zs k) ∧ Below w.heap.size w wr) (fun i _ => len - (intOf i).toNat)
  case atStart => exact ⟨0, Nat.zero_le _, rfl, hown', hb1⟩
  case round =>
    obtain ⟨k, hk, rfl, hown, hbw⟩ := hrel
    clear hown' hb1
    by_cases hlt : k < len
    · have hsrc : wr.cell? ⟨b, off + k, none⟩ = some (.float .f32 (zs.getD k 0)) := by
        rw [hbw.cell (p := ⟨b, off + k, none⟩) hb]; exact Hc.out k hlt
      have hdst := hown.cellAt k (by omega)
      obtain ⟨old, hold⟩ : ∃ old, (copied .f32 zs k)[k]? = some old := ⟨_, List.getElem?_eq_getElem (by simp [copied]; have := Hlen.out; omega)⟩
      rw [hold] at hdst
      have hfz := hown.frozenAt k
      have hst := hown.stored k (.float .f32 (zs.getD k 0))
      rw [copied_set .f32 zs k (by rw [Hlen.out]; exact hlt)] at hst
      have Hst := Lib.hid hst
      have Hbw := Lib.hid hbw
      clear hst hold hown hbw
      generalize zs.getD k 0 = z at *
      go_wp2
      go_roundw
      case rel => exact ⟨k + 1, by omega, by go_num, Hst.out.1, Hbw.out.grown Hst.out.2 (Hbw.out.size) (fun j hj => by cases hj; exact Nat.le_refl _)⟩
      case measure => simp [intOf]; omega
    · obtain rfl : k = len := by omega
      have Hown := Lib.hid hown
      have Hbw := Lib.hid hbw
      clear hown hbw
      go_wp2
      go_ret
      refine ⟨some ⟨w.heap.size, 0, none⟩, k, by rw [Hlen.out]; rfl, Hbw.out, FRow.mk ?_⟩
      have := Hown.out
      rw [← Hlen.out, copied_all] at this
      rw [← Hlen.out]
      exact this

set_option maxHeartbeats 1000000 in
theorem copyF_nil (a : Option Addr) (cap : Nat) (w : World) :
    Calls Try.prog 16 #[.slice a 0 cap] w (CopyF w []) := by
  obtain ⟨i0, hi, hz0, hz1, hz2⟩ := info_parts info_f32
  go_enter Try.func16, Try.ntmps16
  go_wp2_with (first | (at_make; refine wpList_make_full _ rfl _ _ 22 rfl w.heap.size 26 i0 (.float .f32 0) 1 Try.underlying22 hi hz0 hz1 _ _ _ _ 0 rfl rfl rfl rfl (by rw [hz2]; omega) (by unfold maxLen; omega) (Nat.le_refl _) ?_) | go_in)
  intro w1 hown hgrow
  have hown' : w1.ownsRow w.heap.size 26 1 (.slice (some ⟨w.heap.size, 0, none⟩) 0 0) 0 [] := by rw [toList_madeCells_one] at hown; exact hown
  have hb1 : Below w.heap.size w w1 := (Below.refl _ _).grown hgrow (Nat.le_refl _) (fun k h => by cases h)
  clear hown hgrow
  have Hown := Lib.hid hown'
  clear hown'
  go_wp2_with fail
  go_loopw [4] (fun i wr => i = .int .i64 0 ∧ Below w.heap.size w wr ∧ wr.ownsRow w.heap.size 26 1 (.slice (some ⟨w.heap.size, 0, none⟩) 0 0) 0 []) (fun i _ => 0)
  case atStart => exact ⟨rfl, hb1, Hown.out⟩
  case round =>
    obtain ⟨rfl, hbw, how⟩ := hrel
    have Hbw := Lib.hid hbw
    have How := Lib.hid how
    clear hb1 hbw how
    go_wp2
    go_ret
    exact ⟨some ⟨w.heap.size, 0, none⟩, 0, rfl, Hbw.out, FRow.mk How.out⟩

theorem copyF_any (a : Option Addr) (cap : Nat) (zs : List Nat) (w : World) (hr : RowF .f32 w a zs) (hl : zs.length ≤ 1048576) :
    Calls Try.prog 16 #[.slice a zs.length cap] w (CopyF w zs) := by
  rcases hr with rfl | ⟨b, off, rfl, hb, hc⟩
  · exact copyF_nil a cap w
  · exact copyF_row b off cap zs w hb hc hl

/-- The mark of a place. -/
def markOf (k j : Nat) : Nat := FloatKind.f32.nearest ((k + j : Nat) : Int)
/-- The row with j marks. -/
def marked (k : Nat) (zs : List Nat) (j : Nat) : List Nat := (List.range j).map (markOf k) ++ zs.drop j
theorem marked_zero (k : Nat) (zs : List Nat) : marked k zs 0 = zs := by simp [marked]
theorem marked_length (k : Nat) (zs : List Nat) (j : Nat) (h : j ≤ zs.length) : (marked k zs j).length = zs.length := by simp [marked]; omega
theorem marked_set (k : Nat) (zs : List Nat) (j : Nat) (h : j < zs.length) : (marked k zs j).set j (markOf k j) = marked k zs (j + 1) := by
  unfold marked
  rw [List.set_append_right _ _ (by simp)]
  rw [List.length_map, List.length_range, Nat.sub_self, List.drop_eq_getElem_cons h, List.set_cons_zero, List.range_succ, List.map_append]
  simp
/-- All marks. -/
def marks (k n : Nat) : List Nat := (List.range n).map (markOf k)
theorem marks_length (k n : Nat) : (marks k n).length = n := by simp [marks]
theorem marked_all (k : Nat) (zs : List Nat) : marked k zs zs.length = marks k zs.length := by simp [marked, marks]

theorem nearest_own (n : Int) : FloatKind.f32.format.order (FloatKind.f32.nearest n) (FloatKind.f32.nearest n) = some .eq := by
  have hle : FloatKind.f32.nearest n % 2147483648 ≤ 2139095040 := by
    show Ieee.single.nearest (n < 0) n.natAbs 0 % 2147483648 ≤ 2139095040
    unfold Ieee.Format.nearest
    have hw : ∀ s r, r ≤ 2139095040 → Ieee.single.word s r % 2147483648 ≤ 2139095040 := fun s r hr => by
      have := word_mod Ieee.single s r (by show r < 2147483648; omega)
      have h2 : Ieee.single.signWeight = 2147483648 := by decide
      rw [h2] at this
      omega
    split
    · exact hw _ _ (by omega)
    · exact hw _ _ (Nat.min_le_right _ _)
  generalize FloatKind.f32.nearest n = r at *
  rw [order_self_32, if_neg (by omega)]
end Go.Proofs.Ytdmcjloaommnpaa
