/- A hill stored into a box: what lies elsewhere stays. -/
import Derived.Test.YtljehplkdofhpacHillR
namespace Go.Proofs.Ytljehplkdofhpac
open Go.RowKit
set_option maxRecDepth 100000

/-- The world behind a store of a hill. -/
def putHill (w : World) (b : Nat) (wide high : Int) (v : Value) : World := ((w.setCell ⟨b, 0, none⟩ (.int .i64 wide)).setCell ⟨b, 1, none⟩ (.int .i64 high)).setCell ⟨b, 2, none⟩ v
theorem putHill_size (w : World) (b : Nat) (wide high : Int) (v : Value) : (putHill w b wide high v).heap.size = w.heap.size := by simp [putHill]
theorem FRow.setFar {w : World} {lo hi : Nat} {v : Value} {zs : List Nat} (h : FRow w lo hi v zs) (b : Nat) (hb : b < lo ∨ hi ≤ b) (wide high : Int) (u : Value) : FRow (putHill w b wide high u) lo hi v zs :=
  ((h.setOther (p := ⟨b, 0, none⟩) hb _).setOther (p := ⟨b, 1, none⟩) hb _).setOther (p := ⟨b, 2, none⟩) hb _
theorem BoxH.setFar {w : World} {c : Nat} {wd hg : Int} {v : Value} (h : BoxH w c wd hg v) (b : Nat) (hb : c ≠ b) (wide high : Int) (u : Value) : BoxH (putHill w b wide high u) c wd hg v :=
  ⟨(cell_far3 hb _ _ _ _).trans h.1, (cell_far3 hb _ _ _ _).trans h.2.1, (cell_far3 hb _ _ _ _).trans h.2.2.1, by rw [putHill_size]; exact h.2.2.2⟩
theorem BoxH.setNew {w : World} {b : Nat} {wd hg : Int} {v : Value} (h : BoxW w b wd hg v) (wide high : Int) (u : Value) : BoxH (putHill w b wide high u) b wide high u := by
  obtain ⟨⟨r0, r1, r2, r3⟩, rf⟩ := h
  refine ⟨?_, ?_, ?_, by rw [putHill_size]; exact r3⟩ <;> simp [putHill, go_sem, r0, r1, r2]
theorem putHill_below {B : Nat} {w w1 : World} (h : Below B w w1) (b : Nat) (hb : B ≤ b) (wide high : Int) (u : Value) : Below B w (putHill w1 b wide high u) := belowSetBox h hb _ _ _
end Go.Proofs.Ytljehplkdofhpac
