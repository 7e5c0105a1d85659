/- A row that a call made, wherever it begins. -/
import Derived.Test.YtljehplkdofhpacSetBox
namespace Go.Proofs.Ytljehplkdofhpac
open Go.RowKit
set_option maxRecDepth 100000

theorem le_drew (w : World) : w.heap.size ≤ w.drew.heap.size := Nat.le_refl _
/-- A row that lies below a block number. -/
def RowAt (w : World) (hi : Nat) (v : Value) (zs : List Nat) : Prop := ∃ lo, FRow w lo hi v zs ∧ hi ≤ w.heap.size
theorem RowAt.below {w w' : World} {hi B : Nat} {v : Value} {zs : List Nat} (h : RowAt w hi v zs) (hb : Below B w w') (hB : hi ≤ B := by omega) : RowAt w' hi v zs := by
  obtain ⟨lo, h1, h2⟩ := h
  exact ⟨lo, h1.below hb hB, Nat.le_trans h2 hb.size⟩
theorem RowAt.alloc {w : World} {hi : Nat} {v : Value} {zs : List Nat} (h : RowAt w hi v zs) (o : Obj) : RowAt (w.alloc o) hi v zs := by
  obtain ⟨lo, h1, h2⟩ := h
  exact ⟨lo, h1.alloc o, Nat.le_trans h2 (by simp)⟩
theorem RowAt.row {w : World} {hi : Nat} {a : Option Addr} {cap : Nat} {zs : List Nat} (h : RowAt w hi (.slice a zs.length cap) zs) : RowF .f32 w a zs := h.choose_spec.1.row
end Go.Proofs.Ytljehplkdofhpac
