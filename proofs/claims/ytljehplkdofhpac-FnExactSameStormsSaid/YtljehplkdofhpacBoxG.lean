/- Boxes. -/
import Derived.Test.YtljehplkdofhpacRowG
import Derived.Test.YtljehplkdofhpacBw
import Derived.Test.YtljehplkdofhpacRowAt
namespace Go.Proofs.Ytljehplkdofhpac
open Go.RowKit
set_option linter.unusedVariables false
set_option linter.unusedSimpArgs false
set_option maxRecDepth 100000

theorem Bx.of3 {w : World} {b : Nat} {v0 v1 v2 : Value} (hb : b < w.heap.size) (h0 : w.cell? ⟨b, 0, none⟩ = some v0) (h1 : w.cell? ⟨b, 1, none⟩ = some v1) (h2 : w.cell? ⟨b, 2, none⟩ = some v2) : Bx w b [v0, v1, v2] := by
  refine ⟨hb, fun j v hj => ?_⟩
  rcases j with _ | _ | _ | j
  · cases hj; exact h0
  · cases hj; exact h1
  · cases hj; exact h2
  · simp at hj
theorem Bw.put {w : World} {b : Nat} {vs : List Value} (h : Bw w b vs) (j : Nat) (hj : j < vs.length) (u : Value) : Bw (w.setCell ⟨b, j, none⟩ u) b (vs.set j u) := by
  have hold : w.cell? ⟨b, j, none⟩ = some vs[j] := h.c j (List.getElem?_eq_getElem hj)
  refine ⟨⟨by simp; exact h.1.1, fun i v hi => ?_⟩, fun i hi => ?_⟩
  · by_cases e : i = j
    · subst e
      rw [List.getElem?_set_self hj] at hi
      cases hi
      simp [go_sem, hold]
    · rw [List.getElem?_set_ne (fun h => e h.symm)] at hi
      have h9 := h.c i hi
      simp [go_sem, h9, e]
  · rw [List.length_set] at hi
    have h9 := h.f i hi
    simpa [go_sem] using h9
theorem Bx.lt {w : World} {b : Nat} {vs : List Value} (h : Bx w b vs) : b < w.heap.size := h.1
theorem Bx.new1G (w : World) (o : Obj) (vs : List Value) (t : TypeId) : Bx ((w.alloc o).alloc (.cells vs.toArray t)) (w.heap.size + 1) vs := by
  have := Bx.new (w.alloc o) vs t
  simpa using this
theorem Bw.new1G (w : World) (o : Obj) (vs : List Value) (t : TypeId) : Bw ((w.alloc o).alloc (.cells vs.toArray t)) (w.heap.size + 1) vs := by
  have := Bw.new (w.alloc o) vs t
  simpa using this
theorem Bw.new2G (w : World) (o o' : Obj) (vs : List Value) (t : TypeId) : Bw (((w.alloc o).alloc o').alloc (.cells vs.toArray t)) (w.heap.size + 2) vs := by
  have := Bw.new ((w.alloc o).alloc o') vs t
  simpa using this

end Go.Proofs.Ytljehplkdofhpac
