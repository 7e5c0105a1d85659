/- A record stored into a box: what lies elsewhere stays; rows that a call made (the names of the texts on hills, with a name ahead). -/
import Derived.Test.YtdmcjloaommnpaaRcC
namespace Go.Proofs.Ytdmcjloaommnpaa
open Go.RowKit
set_option maxRecDepth 100000
set_option linter.unusedVariables false

theorem FRow.setOther {w : World} {lo hi : Nat} {v : Value} {zs : List Nat} (h : FRow w lo hi v zs) {p : Addr} (hp : p.block < lo ∨ hi ≤ p.block) (u : Value) : FRow (w.setCell p u) lo hi v zs :=
  ⟨ownsRow_same h.1 fun k hk => Below.heap_setCell _ _ _ _ (by have := h.2.1 k hk; have := (h.1.lt k hk).1; omega), h.2.1, by rw [setCell_size]; exact h.2.2⟩
def BoxW (w : World) (b : Nat) (nm : ByteArray) (wide high : Int) (v : Value) : Prop := BoxH w b nm wide high v ∧ ∀ o, w.frozen? ⟨b, o, none⟩ = false
theorem BoxW.below {w w' : World} {b B : Nat} {nm : ByteArray} {wide high : Int} {v : Value} (h : BoxW w b nm wide high v) (hb : Below B w w') (hB : b < B) : BoxW w' b nm wide high v :=
  ⟨h.1.below hb hB, fun o => by rw [hb.frozen (p := ⟨b, o, none⟩) hB]; exact h.2 o⟩
theorem BoxW.alloc {w : World} {b : Nat} {nm : ByteArray} {wide high : Int} {v : Value} (h : BoxW w b nm wide high v) (o : Obj) : BoxW (w.alloc o) b nm wide high v := h.below (below1 w o) h.1.2.2.2.2
theorem BoxW.new (w : World) (nm : ByteArray) (wide high : Int) (v : Value) (t : TypeId) : BoxW (w.alloc (.cells #[.string nm, .int .i64 wide, .int .i64 high, v] t)) w.heap.size nm wide high v :=
  ⟨BoxH.new w nm wide high v t, fun o => by simp [go_sem]⟩
theorem BoxW.drew {w : World} {b : Nat} {nm : ByteArray} {wide high : Int} {v : Value} (h : BoxW w b nm wide high v) : BoxW w.drew b nm wide high v := h
theorem cell_far3 {w : World} {b c : Nat} (h : b ≠ c) (u0 u1 u2 u3 : Value) (o : Nat) : ((((w.setCell ⟨c, 0, none⟩ u0).setCell ⟨c, 1, none⟩ u1).setCell ⟨c, 2, none⟩ u2).setCell ⟨c, 3, none⟩ u3).cell? ⟨b, o, none⟩ = w.cell? ⟨b, o, none⟩ :=
  World.cell?_of_block (w := w) (a := ⟨b, o, none⟩) (by rw [Below.heap_setCell _ _ _ _ (by exact h), Below.heap_setCell _ _ _ _ (by exact h), Below.heap_setCell _ _ _ _ (by exact h), Below.heap_setCell _ _ _ _ (by exact h)])
/-- The world behind a store of a record. -/
def putHill (w : World) (b : Nat) (nm : ByteArray) (wide high : Int) (v : Value) : World := (((w.setCell ⟨b, 0, none⟩ (.string nm)).setCell ⟨b, 1, none⟩ (.int .i64 wide)).setCell ⟨b, 2, none⟩ (.int .i64 high)).setCell ⟨b, 3, none⟩ v
theorem putHill_size (w : World) (b : Nat) (nm : ByteArray) (wide high : Int) (v : Value) : (putHill w b nm wide high v).heap.size = w.heap.size := by simp [putHill]
theorem FRow.setFar {w : World} {lo hi : Nat} {v : Value} {zs : List Nat} (h : FRow w lo hi v zs) (b : Nat) (hb : b < lo ∨ hi ≤ b) (nm : ByteArray) (wide high : Int) (u : Value) : FRow (putHill w b nm wide high u) lo hi v zs :=
  (((h.setOther (p := ⟨b, 0, none⟩) hb _).setOther (p := ⟨b, 1, none⟩) hb _).setOther (p := ⟨b, 2, none⟩) hb _).setOther (p := ⟨b, 3, none⟩) hb _
theorem BoxH.setFar {w : World} {c : Nat} {n9 : ByteArray} {wd hg : Int} {v : Value} (h : BoxH w c n9 wd hg v) (b : Nat) (hb : c ≠ b) (nm : ByteArray) (wide high : Int) (u : Value) : BoxH (putHill w b nm wide high u) c n9 wd hg v :=
  ⟨(cell_far3 hb _ _ _ _ _).trans h.c0, (cell_far3 hb _ _ _ _ _).trans h.c1, (cell_far3 hb _ _ _ _ _).trans h.c2, (cell_far3 hb _ _ _ _ _).trans h.c3, by rw [putHill_size]; exact h.2.2.2.2⟩
theorem BoxH.setNew {w : World} {b : Nat} {n9 : ByteArray} {wd hg : Int} {v : Value} (h : BoxW w b n9 wd hg v) (nm : ByteArray) (wide high : Int) (u : Value) : BoxH (putHill w b nm wide high u) b nm wide high u := by
  obtain ⟨⟨r0, r1, r2, r4, r3⟩, rf⟩ := h
  refine ⟨?_, ?_, ?_, ?_, by rw [putHill_size]; exact r3⟩ <;> simp (maxDischargeDepth := 8) [putHill, go_sem, r0, r1, r2, r4]
theorem putHill_below {B : Nat} {w w1 : World} (h : Below B w w1) (b : Nat) (hb : B ≤ b) (nm : ByteArray) (wide high : Int) (u : Value) : Below B w (putHill w1 b nm wide high u) :=
  (((h.setCell (p := ⟨b, 0, none⟩) hb _).setCell (p := ⟨b, 1, none⟩) hb _).setCell (p := ⟨b, 2, none⟩) hb _).setCell (p := ⟨b, 3, none⟩) hb _
theorem le_drew (w : World) : w.heap.size ≤ w.drew.heap.size := Nat.le_refl _
/-- A row that lies below a block number. -/
def RowAt (w : World) (hi : Nat) (v : Value) (zs : List Nat) : Prop := ∃ lo, FRow w lo hi v zs ∧ hi ≤ w.heap.size
theorem RowAt.below {w w' : World} {hi B : Nat} {v : Value} {zs : List Nat} (h : RowAt w hi v zs) (hb : Below B w w') (hB : hi ≤ B := by omega) : RowAt w' hi v zs := by
  obtain ⟨lo, h1, h2⟩ := h
  exact ⟨lo, h1.below hb hB, Nat.le_trans h2 hb.size⟩
theorem RowAt.alloc {w : World} {hi : Nat} {v : Value} {zs : List Nat} (h : RowAt w hi v zs) (o : Obj) : RowAt (w.alloc o) hi v zs := by
  obtain ⟨lo, h1, h2⟩ := h
  exact ⟨lo, h1.alloc o, Nat.le_trans h2 (by simp)⟩
theorem RowAt.row {w : World} {hi : Nat} {a : Option Addr} {cap : Nat} {zs : List Nat} (h : RowAt w hi (.slice a zs.length cap) zs) : RowF .f32 w a zs := h.choose_spec.1.row
end Go.Proofs.Ytdmcjloaommnpaa
