/- Lists of integers of 64 bits: what comes in, what a call makes, the laws' copies, looks and marks. -/
import Derived.Test.YtljehplkdofhpacMarkF
import Derived.ChangeSlices
namespace Go.Proofs.Ytljehplkdofhpac
set_option maxRecDepth 100000
open Go.RowKit
open Go.ChangeShapes (open_ints)

/-- A slice leads to a row that begins with these integers. -/
def RowI (w : World) (a : Option Addr) (zs : List Int) : Prop :=
  zs = [] ∨ ∃ b off, a = some ⟨b, off, none⟩ ∧ b < w.heap.size ∧ ∀ i, i < zs.length → w.cell? ⟨b, off + i, none⟩ = some (.int .i64 (zs.getD i 0))

/-- What came in: nil, or a row. -/
def IsRowI (w : World) (a : Option Addr) (len cap : Nat) (zs : List Int) : Prop :=
  zs.length = len ∧ len ≤ cap ∧ cap ≤ maxLen ∧ RowI w a zs ∧ ∀ z ∈ zs, -9223372036854775808 ≤ z ∧ z ≤ 9223372036854775807

theorem open_i64s {P : Program} {H : Type} {enc : TypeId × Value → H} {w : World} {base : Nat} {spare : Nat → Bool} {held : Bool} {fuel : Nat} {t e : TypeId} {a : Option Addr} {len cap : Nat} {x : DataW H × List MemPlace}
    (ht : P.underlying t = some (.slice e)) (he : P.underlying e = some (.int .i64)) (hc : P.cellsOf e = 1)
    (h : DataW.trod enc P w base spare held fuel t (Value.cells (.slice a len cap)).toList = some x) : ∃ zs, IsRowI w a len cap zs := by
  rcases open_ints ht he hc h with ⟨hcs, _⟩ | ⟨y, l, c, zs, hcs, _, hl, hm, hz, _, hcell, hwz⟩
  · simp [Value.cells] at hcs
    obtain ⟨rfl, rfl, rfl⟩ := hcs
    exact ⟨[], rfl, Nat.le_refl _, Nat.zero_le _, .inl rfl, fun z hz => by cases hz⟩
  · simp [Value.cells] at hcs
    obtain ⟨rfl, rfl, rfl⟩ := hcs
    have hz' : len ≤ zs.length := by rw [hz]; split <;> omega
    have hg : ∀ i, i < len → (zs.take len).getD i 0 = zs.getD i 0 := fun i hi => by
      rw [List.getD_eq_getElem?_getD, List.getElem?_take, if_pos hi, List.getD_eq_getElem?_getD]
    refine ⟨zs.take len, by simp; omega, hl, hm, ?_, ?_⟩
    · by_cases h0 : len = 0
      · left; subst h0; rfl
      · right
        obtain ⟨b, off, spot⟩ := y
        have hspot : spot = none := by simpa [Addr.add] using World.cell?_spot (hcell 0 (by omega))
        subst hspot
        refine ⟨b, off, rfl, by simpa [Addr.add] using cell_lt (hcell 0 (by omega)), fun i hi => ?_⟩
        have hi2 : i < len := by simp at hi; omega
        have h1 := hcell i (by omega)
        rw [Go.WideShapes.add_plain] at h1
        rw [hg i hi2, h1]
    · intro z hz
      have := hwz z (List.mem_of_mem_take hz)
      simpa [Lit.wf, IntKind.min, IntKind.max, IntKind.signed, IntKind.bits] using this

theorem RowI.drewN {w : World} {a : Option Addr} {zs : List Int} (h : RowI w a zs) (n : Nat) : RowI (w.drewN n) a zs := h
theorem RowI.below {w w' : World} {B : Nat} {a : Option Addr} {zs : List Int} (h : RowI w a zs) (hb : Below B w w') (hB : w.heap.size ≤ B) : RowI w' a zs := by
  rcases h with h | ⟨b, off, h1, h2, h3⟩
  · exact .inl h
  · refine .inr ⟨b, off, h1, Nat.lt_of_lt_of_le h2 hb.size, fun i hi => ?_⟩
    rw [hb.cell (p := ⟨b, off + i, none⟩) (by show b < B; omega)]
    exact h3 i hi

/-- The copy so far. -/
def copiedI (zs : List Int) (n : Nat) : List Value := (zs.take n).map (.int .i64) ++ List.replicate (zs.length - n) (.int .i64 0)
theorem copiedI_zero (zs : List Int) : copiedI zs 0 = List.replicate zs.length (.int .i64 0) := by simp [copiedI]
theorem copiedI_all (zs : List Int) : copiedI zs zs.length = zs.map (.int .i64) := by simp [copiedI]
theorem copiedI_set (zs : List Int) (n : Nat) (h : n < zs.length) : (copiedI zs n).set n (.int .i64 (zs.getD n 0)) = copiedI zs (n + 1) := by
  unfold copiedI
  have e : zs.getD n 0 = zs[n] := by rw [List.getD_eq_getElem?_getD, List.getElem?_eq_getElem h]; rfl
  rw [e, List.set_append_right _ _ (by simp; omega)]
  have e2 : n - ((zs.take n).map (Value.int .i64)).length = 0 := by simp; omega
  rw [e2, show zs.length - n = (zs.length - (n + 1)) + 1 by omega, List.replicate_succ, List.set_cons_zero, List.take_succ_eq_append_getElem h, List.map_append]
  simp

theorem RowI.of_owns {w : World} {base : Nat} {e : TypeId} {g n cap : Nat} {zs : List Int} (h : w.ownsRow base e 1 (.slice (some ⟨g, 0, none⟩) n cap) n (zs.map (.int .i64))) (hn : zs.length = n) : RowI w (some ⟨g, 0, none⟩) zs := by
  refine .inr ⟨g, 0, rfl, (h.lt g rfl).2, fun i hi => ?_⟩
  rw [Nat.zero_add, h.cellAt i (by omega), List.getElem?_map, List.getElem?_eq_getElem hi, List.getD_eq_getElem?_getD, List.getElem?_eq_getElem hi]
  rfl

theorem info_i64 : (Try.prog.info? 2).map (fun i => (i.zero, i.size, i.bytes)) = some (some (.int .i64 0), 1, 8) := by kernel_rfl

/-- A row that lies in a block from lo on and below hi. -/
def IRow (w : World) (lo hi : Nat) (v : Value) (zs : List Int) : Prop :=
  w.ownsRow lo 2 1 v zs.length (zs.map (.int .i64)) ∧ (∀ k, v.ownBlock = some k → k < hi) ∧ hi ≤ w.heap.size
theorem IRow.below {w w' : World} {lo hi B : Nat} {v : Value} {zs : List Int} (h : IRow w lo hi v zs) (hb : Below B w w') (hB : hi ≤ B) : IRow w' lo hi v zs :=
  ⟨ownsRow_same h.1 fun k hk => hb.block k (by have := h.2.1 k hk; omega), h.2.1, Nat.le_trans h.2.2 hb.size⟩
theorem IRow.kept {w w' : World} {lo hi lo2 hi2 : Nat} {v : Value} {zs : List Int} (h : IRow w lo hi v zs) (hk : Kept lo2 hi2 w w') (hd : hi ≤ lo2 ∨ hi2 ≤ lo) : IRow w' lo hi v zs :=
  ⟨ownsRow_same h.1 fun k hv => hk.block k (by have := h.2.1 k hv; have := (h.1.lt k hv).1; omega) (by have := (h.1.lt k hv).2; omega), h.2.1, Nat.le_trans h.2.2 hk.size⟩
theorem IRow.drewN {w : World} {lo hi : Nat} {v : Value} {zs : List Int} (h : IRow w lo hi v zs) (n : Nat) : IRow (w.drewN n) lo hi v zs := h
theorem IRow.slice {w : World} {lo hi : Nat} {v : Value} {zs : List Int} (h : IRow w lo hi v zs) : ∃ a cap, v = .slice a zs.length cap ∧ RowI w a zs := by
  obtain ⟨h1, h2⟩ := h.1
  rcases h2 with ⟨rfl, h0⟩ | ⟨g, cap, cur, rfl, _⟩
  · exact ⟨none, 0, by rw [h0], .inl (List.length_eq_zero_iff.1 h0)⟩
  · exact ⟨_, cap, rfl, RowI.of_owns h.1 rfl⟩
theorem IRow.mk {w : World} {lo : Nat} {v : Value} {zs : List Int} (h : w.ownsRow lo 2 1 v zs.length (zs.map (.int .i64))) : IRow w lo w.heap.size v zs :=
  ⟨h, fun k hk => (h.lt k hk).2, Nat.le_refl _⟩
theorem IRow.nil (w : World) (lo : Nat) : IRow w lo w.heap.size (.slice none 0 0) [] := IRow.mk (World.ownsRow_nil w lo _ 1)
theorem IRow.mono {w : World} {lo hi lo' hi' : Nat} {v : Value} {zs : List Int} (h : IRow w lo hi v zs) (hl : lo' ≤ lo) (hh : hi ≤ hi') (hs : hi' ≤ w.heap.size) : IRow w lo' hi' v zs := by
  obtain ⟨⟨h1, h2⟩, h3, h4⟩ := h
  refine ⟨⟨h1, ?_⟩, fun k hk => Nat.lt_of_lt_of_le (h3 k hk) hh, hs⟩
  rcases h2 with h2 | ⟨g, cap, cur, hv, hg, r⟩
  · exact .inl h2
  · exact .inr ⟨g, cap, cur, hv, Nat.le_trans hl hg, r⟩
theorem IRow.setCell {w : World} {lo hi : Nat} {v : Value} {zs : List Int} (h : IRow w lo hi v zs) {p : Addr} (hp : p.block < lo) (u : Value) : IRow (w.setCell p u) lo hi v zs :=
  ⟨ownsRow_setCell_below h.1 hp u, h.2.1, by have := h.2.2; simpa [World.setCell] using this⟩
theorem IRow.alloc {w : World} {lo hi : Nat} {v : Value} {zs : List Int} (h : IRow w lo hi v zs) (o : Obj) : IRow (w.alloc o) lo hi v zs := h.below ((Below.refl _ _).alloc h.2.2 o) (Nat.le_refl _)

/-- A copy of a slice. -/
def CopyI (w : World) (zs : List Int) (e : Ending) (w' : World) : Prop :=
  ∃ a cap, e = .returned (.slice a zs.length cap) ∧ Below w.heap.size w w' ∧ IRow w' w.heap.size w'.heap.size (.slice a zs.length cap) zs

set_option maxHeartbeats 1000000 in
theorem copyI_row (b off cap : Nat) (zs : List Int) (w : World) (hb : b < w.heap.size) (hc : ∀ i, i < zs.length → w.cell? ⟨b, off + i, none⟩ = some (.int .i64 (zs.getD i 0))) (hl : zs.length ≤ 1048576) :
    Calls Try.prog 18 #[.slice (some ⟨b, off, none⟩) zs.length cap] w (CopyI w zs) := by
  obtain ⟨i0, hi, hz0, hz1, hz2⟩ := info_parts info_i64
  obtain ⟨len, hlen⟩ : ∃ len, zs.length = len := ⟨_, rfl⟩
  rw [hlen] at hl hc
  have Hlen := Lib.hid hlen
  rw [hlen]
  clear hlen
  have Hc := Lib.hid hc
  clear hc
  go_enter Try.func18, Try.ntmps18
  go_wp2_with (first | (at_make; refine wpList_make_full _ rfl _ _ 25 rfl w.heap.size 2 i0 (.int .i64 0) 1 Try.underlying25 hi hz0 hz1 _ _ _ _ len rfl rfl rfl rfl (by rw [hz2]; omega) (by unfold maxLen; omega) (Nat.le_refl _) ?_) | go_in)
  intro w1 hown hgrow
  have hown' : w1.ownsRow w.heap.size 2 1 (.slice (some ⟨w.heap.size, 0, none⟩) len len) len (copiedI zs 0) := by
    rw [copiedI_zero, Hlen.out, ← toList_madeCells_one]
    exact hown
  have hb1 : Below w.heap.size w w1 := (Below.refl _ _).grown hgrow (Nat.le_refl _) (fun k h => by cases h)
  clear hown hgrow
  go_wp2_with fail
  go_loopw [4] (fun i wr => ∃ k : Nat, k ≤ len ∧ i = .int .i64 k ∧ wr.ownsRow w.heap.size 2 1 (.slice (some ⟨w.heap.size, 0, none⟩) len len) len (copiedI zs k) ∧ Below w.heap.size w wr) (fun i _ => len - (intOf i).toNat)
  case atStart => exact ⟨0, Nat.zero_le _, rfl, hown', hb1⟩
  case round =>
    obtain ⟨k, hk, rfl, hown, hbw⟩ := hrel
    clear hown' hb1
    by_cases hlt : k < len
    · have hsrc : wr.cell? ⟨b, off + k, none⟩ = some (.int .i64 (zs.getD k 0)) := by
        rw [hbw.cell (p := ⟨b, off + k, none⟩) hb]; exact Hc.out k hlt
      have hdst := hown.cellAt k (by omega)
      obtain ⟨old, hold⟩ : ∃ old, (copiedI zs k)[k]? = some old := ⟨_, List.getElem?_eq_getElem (by simp [copiedI]; have := Hlen.out; omega)⟩
      rw [hold] at hdst
      have hfz := hown.frozenAt k
      have hst := hown.stored k (.int .i64 (zs.getD k 0))
      rw [copiedI_set zs k (by rw [Hlen.out]; exact hlt)] at hst
      have Hst := Lib.hid hst
      have Hbw := Lib.hid hbw
      clear hst hold hown hbw
      generalize zs.getD k 0 = z at *
      go_wp2
      go_roundw
      case rel => exact ⟨k + 1, by omega, by go_num, Hst.out.1, Hbw.out.grown Hst.out.2 (Hbw.out.size) (fun j hj => by cases hj; exact Nat.le_refl _)⟩
      case measure => simp [intOf]; omega
    · obtain rfl : k = len := by omega
      have Hown := Lib.hid hown
      have Hbw := Lib.hid hbw
      clear hown hbw
      go_wp2
      go_ret
      refine ⟨some ⟨w.heap.size, 0, none⟩, k, by rw [Hlen.out]; rfl, Hbw.out, IRow.mk ?_⟩
      have := Hown.out
      rw [← Hlen.out, copiedI_all] at this
      rw [← Hlen.out]
      exact this

set_option maxHeartbeats 1000000 in
theorem copyI_nil (a : Option Addr) (cap : Nat) (w : World) :
    Calls Try.prog 18 #[.slice a 0 cap] w (CopyI w []) := by
  obtain ⟨i0, hi, hz0, hz1, hz2⟩ := info_parts info_i64
  go_enter Try.func18, Try.ntmps18
  go_wp2_with (first | (at_make; refine wpList_make_full _ rfl _ _ 25 rfl w.heap.size 2 i0 (.int .i64 0) 1 Try.underlying25 hi hz0 hz1 _ _ _ _ 0 rfl rfl rfl rfl (by rw [hz2]; omega) (by unfold maxLen; omega) (Nat.le_refl _) ?_) | go_in)
  intro w1 hown hgrow
  have hown' : w1.ownsRow w.heap.size 2 1 (.slice (some ⟨w.heap.size, 0, none⟩) 0 0) 0 [] := by rw [toList_madeCells_one] at hown; exact hown
  have hb1 : Below w.heap.size w w1 := (Below.refl _ _).grown hgrow (Nat.le_refl _) (fun k h => by cases h)
  clear hown hgrow
  have Hown := Lib.hid hown'
  clear hown'
  go_wp2_with fail
  go_loopw [4] (fun i wr => i = .int .i64 0 ∧ Below w.heap.size w wr ∧ wr.ownsRow w.heap.size 2 1 (.slice (some ⟨w.heap.size, 0, none⟩) 0 0) 0 []) (fun i _ => 0)
  case atStart => exact ⟨rfl, hb1, Hown.out⟩
  case round =>
    obtain ⟨rfl, hbw, how⟩ := hrel
    have Hbw := Lib.hid hbw
    have How := Lib.hid how
    clear hb1 hbw how
    go_wp2
    go_ret
    exact ⟨some ⟨w.heap.size, 0, none⟩, 0, rfl, Hbw.out, IRow.mk How.out⟩

theorem copyI_any (a : Option Addr) (cap : Nat) (zs : List Int) (w : World) (hr : RowI w a zs) (hl : zs.length ≤ 1048576) :
    Calls Try.prog 18 #[.slice a zs.length cap] w (CopyI w zs) := by
  rcases hr with rfl | ⟨b, off, rfl, hb, hc⟩
  · exact copyI_nil a cap w
  · exact copyI_row b off cap zs w hb hc hl

/-- The mark of a place. -/
def markIOf (k j : Nat) : Int := ((k + j : Nat) : Int)
/-- The row with j marksI. -/
def markedI (k : Nat) (zs : List Int) (j : Nat) : List Int := (List.range j).map (markIOf k) ++ zs.drop j
theorem markedI_zero (k : Nat) (zs : List Int) : markedI k zs 0 = zs := by simp [markedI]
theorem markedI_length (k : Nat) (zs : List Int) (j : Nat) (h : j ≤ zs.length) : (markedI k zs j).length = zs.length := by simp [markedI]; omega
theorem markedI_set (k : Nat) (zs : List Int) (j : Nat) (h : j < zs.length) : (markedI k zs j).set j (markIOf k j) = markedI k zs (j + 1) := by
  unfold markedI
  rw [List.set_append_right _ _ (by simp)]
  rw [List.length_map, List.length_range, Nat.sub_self, List.drop_eq_getElem_cons h, List.set_cons_zero, List.range_succ, List.map_append]
  simp
/-- All marksI. -/
def marksI (k n : Nat) : List Int := (List.range n).map (markIOf k)
theorem marksI_length (k n : Nat) : (marksI k n).length = n := by simp [marksI]
theorem markedI_all (k : Nat) (zs : List Int) : markedI k zs zs.length = marksI k zs.length := by simp [markedI, marksI]

theorem IRow.at {w : World} {lo hi : Nat} {g n cap : Nat} {zs : List Int} (h : IRow w lo hi (.slice (some ⟨g, 0, none⟩) n cap) zs) (j : Nat) (hj : j < zs.length) (hn : n = zs.length) : w.cell? ⟨g, j, none⟩ = some (.int .i64 (zs.getD j 0)) ∧ w.frozen? ⟨g, j, none⟩ = false := by
  subst hn
  refine ⟨?_, h.1.frozenAt j⟩
  rw [h.1.cellAt j (by omega), List.getElem?_map, List.getElem?_eq_getElem hj, List.getD_eq_getElem?_getD, List.getElem?_eq_getElem hj]
  rfl
theorem IRow.cases {w : World} {lo hi : Nat} {v : Value} {zs : List Int} (h : IRow w lo hi v zs) : (v = .slice none 0 0 ∧ zs = []) ∨ ∃ g cap, v = .slice (some ⟨g, 0, none⟩) zs.length cap ∧ lo ≤ g ∧ g < hi := by
  obtain ⟨h1, h2⟩ := h.1
  rcases h2 with ⟨rfl, h0⟩ | ⟨g, cap, cur, rfl, hg, _⟩
  · exact .inl ⟨rfl, List.length_eq_zero_iff.1 h0⟩
  · exact .inr ⟨g, cap, rfl, hg, h.2.1 g rfl⟩
/-- A store into the row. -/
theorem IRow.store {w : World} {lo hi : Nat} {g cap : Nat} {zs : List Int} (h : IRow w lo hi (.slice (some ⟨g, 0, none⟩) zs.length cap) zs) (j : Nat) (z : Int) :
    IRow (w.setCell ⟨g, j, none⟩ (.int .i64 z)) lo hi (.slice (some ⟨g, 0, none⟩) (zs.set j z).length cap) (zs.set j z) ∧ Kept lo hi w (w.setCell ⟨g, j, none⟩ (.int .i64 z)) := by
  have h2 := h.1.stored j (.int .i64 z)
  have hlt := (h.1.lt g rfl)
  have hgh := h.2.1 g rfl
  refine ⟨⟨?_, h.2.1, by rw [setCell_size]; exact h.2.2⟩, ⟨rfl, rfl, rfl, by rw [setCell_size]; exact Nat.le_refl _, fun k hk _ => Below.heap_setCell _ _ _ _ (by show k ≠ g; omega)⟩⟩
  rw [List.length_set, List.map_set]
  exact h2.1

/-- What marking leaves. -/
def MarksI (k : Nat) (lo hi : Nat) (v : Value) (n : Nat) (w : World) (e : Ending) (w' : World) : Prop :=
  e = .returned (.int .i64 ((k + n : Nat) : Int)) ∧ IRow w' lo hi v (marksI k n) ∧ Kept lo hi w w'

set_option maxHeartbeats 1000000 in
theorem markI_row (lo hi g cap k : Nat) (zs : List Int) (w : World) (h : IRow w lo hi (.slice (some ⟨g, 0, none⟩) zs.length cap) zs) (hl : zs.length ≤ 1048576) (hk : k ≤ 4194304) :
    Calls Try.prog 23 #[.slice (some ⟨g, 0, none⟩) zs.length cap, .int .i64 (k : Int)] w (MarksI k lo hi (.slice (some ⟨g, 0, none⟩) zs.length cap) zs.length w) := by
  obtain ⟨len, hlen⟩ : ∃ len, zs.length = len := ⟨_, rfl⟩
  have H := Lib.hid h
  have Hlen := Lib.hid hlen
  rw [hlen] at hl
  clear h
  rw [hlen]
  clear hlen
  go_enter Try.func23, Try.ntmps23
  go_wp2_with fail
  go_loopw [1, 5] (fun kk i wr => ∃ j : Nat, j ≤ len ∧ i = .int .i64 j ∧ kk = .int .i64 ((k + j : Nat) : Int) ∧ IRow wr lo hi (.slice (some ⟨g, 0, none⟩) len cap) (markedI k zs j) ∧ Kept lo hi w wr) (fun _ i _ => len - (intOf i).toNat)
  case atStart => exact ⟨0, Nat.zero_le _, rfl, rfl, by rw [markedI_zero, ← Hlen.out]; exact H.out, Kept.refl _ _ _⟩
  case round =>
    obtain ⟨j, hj, rfl, rfl, hf, hk2⟩ := hrel
    have hml : (markedI k zs j).length = len := by rw [markedI_length _ _ _ (by rw [Hlen.out]; exact hj), Hlen.out]
    by_cases hlt : j < len
    · obtain ⟨hcell, hfz⟩ := hf.at j (by rw [hml]; exact hlt) hml.symm
      have hst := IRow.store (by rw [hml]; exact hf) j ((k + j : Nat) : Int)
      rw [show (markedI k zs j).set j ((k + j : Nat) : Int) = markedI k zs (j + 1) from markedI_set k zs j (by rw [Hlen.out]; exact hlt), markedI_length k zs (j + 1) (by rw [Hlen.out]; omega), Hlen.out] at hst
      have Hst := Lib.hid hst
      have Hk := Lib.hid hk2
      clear hst hk2 hf hml
      generalize (markedI k zs j).getD j 0 = old at *
      go_wp2
      go_roundw
      case rel => exact ⟨j + 1, by omega, by go_num, by go_num, Hst.out.1, Hk.out.trans Hst.out.2⟩
      case measure => simp [intOf]; omega
    · obtain rfl : j = len := by omega
      have Hf := Lib.hid hf
      have Hk := Lib.hid hk2
      clear hf hk2 hml
      go_wp2
      go_ret
      refine ⟨rfl, ?_, Hk.out⟩
      have := Hf.out
      rw [← Hlen.out, markedI_all] at this
      rw [← Hlen.out]
      exact this

set_option maxHeartbeats 1000000 in
theorem markI_nil (lo hi k : Nat) (w : World) (h : IRow w lo hi (.slice none 0 0) []) :
    Calls Try.prog 23 #[.slice none 0 0, .int .i64 (k : Int)] w (MarksI k lo hi (.slice none 0 0) 0 w) := by
  have H := Lib.hid h
  clear h
  go_enter Try.func23, Try.ntmps23
  go_wp2_with fail
  go_loop [1, 5] (fun kk i => i = .int .i64 0 ∧ kk = .int .i64 (k : Int)) (fun _ i => 0)
  case atStart => exact ⟨rfl, rfl⟩
  case round =>
    obtain ⟨rfl, rfl⟩ := hrel
    go_wp2_with fail
    go_ret
    exact ⟨rfl, H.out, Kept.refl _ _ _⟩

theorem markI_any (lo hi k : Nat) (a : Option Addr) (cap : Nat) (zs : List Int) (w : World) (h : IRow w lo hi (.slice a zs.length cap) zs) (hl : zs.length ≤ 1048576) (hk : k ≤ 4194304) :
    Calls Try.prog 23 #[.slice a zs.length cap, .int .i64 (k : Int)] w (MarksI k lo hi (.slice a zs.length cap) zs.length w) := by
  rcases h.cases with ⟨h1, rfl⟩ | ⟨g, cap', h1, _, _⟩
  · cases h1; exact markI_nil lo hi k w h
  · cases h1; exact markI_row lo hi g cap k zs w h hl hk

theorem marksI_getD (k n j : Nat) (h : j < n) : (marksI k n).getD j 0 = ((k + j : Nat) : Int) := by
  rw [List.getD_eq_getElem?_getD, marksI, List.getElem?_map, List.getElem?_range h]; rfl




theorem IRow.row {w : World} {lo hi : Nat} {a : Option Addr} {cap : Nat} {zs : List Int} (h : IRow w lo hi (.slice a zs.length cap) zs) : RowI w a zs := by
  obtain ⟨a', cap', h1, h2⟩ := h.slice
  cases h1
  exact h2

set_option maxHeartbeats 1000000 in
theorem eqInt64S_row (b off cap b' off' cap' : Nat) (zs : List Int) (w : World) (hc : ∀ i, i < zs.length → w.cell? ⟨b, off + i, none⟩ = some (.int .i64 (zs.getD i 0)))
    (hc' : ∀ i, i < zs.length → w.cell? ⟨b', off' + i, none⟩ = some (.int .i64 (zs.getD i 0))) (hl : zs.length ≤ 1048576) :
    Calls Try.prog 21 #[.slice (some ⟨b, off, none⟩) zs.length cap, .slice (some ⟨b', off', none⟩) zs.length cap'] w fun e w' => e = .returned (.bool true) ∧ ∃ n, w' = w.drewN n := by
  obtain ⟨len, hlen⟩ : ∃ len, zs.length = len := ⟨_, rfl⟩
  rw [hlen] at hl hc hc' ⊢
  clear hlen
  have Hc := Lib.hid hc
  have Hc' := Lib.hid hc'
  clear hc hc'
  go_enter Try.func21, Try.ntmps21
  go_wp2_with fail
  go_loopw [5] (fun i wr => ∃ k n : Nat, k ≤ len ∧ i = .int .i64 k ∧ wr = w.drewN n) (fun i _ => len - (intOf i).toNat)
  case atStart => exact ⟨0, 0, Nat.zero_le _, rfl, rfl⟩
  case round =>
    obtain ⟨k, n, hk, rfl, hwr⟩ := hrel
    by_cases hlt : k < len
    · have h1 : wr.cell? ⟨b, off + k, none⟩ = some (.int .i64 (zs.getD k 0)) := by rw [hwr]; exact Hc.out k hlt
      have h2 : wr.cell? ⟨b', off' + k, none⟩ = some (.int .i64 (zs.getD k 0)) := by rw [hwr]; exact Hc'.out k hlt
      have Hwr := Lib.hid hwr
      clear hwr
      generalize zs.getD k 0 = z at *
      have hk0 : (0 : Int) ≤ (k : Int) := by omega
      have hk1 : (k : Int) < (len : Int) := by omega
      go_wp2_with fail
      go_quiet (fail)
      go_wp2_with fail
      go_roundw
      case rel => exact ⟨k + 1, _, by omega, by go_num, by rw [Hwr.out, World.drewN_drewN]⟩
      case measure => simp [intOf]; omega
    · subst hwr
      go_wp2_with fail
      go_ret
      exact ⟨rfl, _, rfl⟩


set_option maxHeartbeats 400000 in
theorem eqInt64S_nil (a a' : Option Addr) (cap cap' : Nat) (w : World) :
    Calls Try.prog 21 #[.slice a 0 cap, .slice a' 0 cap'] w fun e w' => e = .returned (.bool true) ∧ ∃ n, w' = w.drewN n := by
  go_enter Try.func21, Try.ntmps21
  go_wp2_with fail
  go_loop [5] (fun i => i = .int .i64 0) (fun i => 0)
  case atStart => rfl
  case round =>
    obtain rfl := hrel
    go_wp2_with fail
    go_ret
    exact ⟨rfl, 0, rfl⟩

theorem eqInt64S_any (a a' : Option Addr) (cap cap' : Nat) (zs : List Int) (w : World) (h : RowI w a zs) (h' : RowI w a' zs) (hl : zs.length ≤ 1048576) :
    Calls Try.prog 21 #[.slice a zs.length cap, .slice a' zs.length cap'] w fun e w' => e = .returned (.bool true) ∧ ∃ n, w' = w.drewN n := by
  rcases h with rfl | ⟨b, off, rfl, hb, hc⟩
  · exact eqInt64S_nil a a' cap cap' w
  · rcases h' with rfl | ⟨b', off', rfl, hb', hc'⟩
    · exact eqInt64S_nil _ a' cap cap' w
    · exact eqInt64S_row b off cap b' off' cap' zs w hc hc' hl

theorem eqInt64S_blw (a a' : Option Addr) (cap cap' : Nat) (zs : List Int) (w : World) (h : RowI w a zs) (h' : RowI w a' zs) (hl : zs.length ≤ 1048576) :
    Calls Try.prog 21 #[.slice a zs.length cap, .slice a' zs.length cap'] w fun e w' => e = .returned (.bool true) ∧ Below w.heap.size w w' :=
  (eqInt64S_any a a' cap cap' zs w h h' hl).mono (by rintro e w' ⟨h1, n, rfl⟩; exact ⟨h1, below_drewN (Below.refl _ _) n⟩)

end Go.Proofs.Ytljehplkdofhpac
