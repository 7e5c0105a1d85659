/- Boxes. -/
import Derived.Test.YtckmacnmmloemaaRowG
namespace Go.Proofs.Ytckmacnmmloemaa
open Go.RowKit
set_option linter.unusedVariables false
set_option linter.unusedSimpArgs false
set_option maxRecDepth 100000

theorem le_drew (w : World) : w.heap.size ≤ w.drew.heap.size := Nat.le_refl _
theorem Bx.setFar {w : World} {b : Nat} {vs : List Value} (h : Bx w b vs) {p : Addr} (hp : p.block ≠ b) (u : Value) : Bx (w.setCell p u) b vs :=
  ⟨by simp; exact h.1, fun j x hj => by rw [World.cell?_of_block (w := w) (a := ⟨b, j, none⟩) (Below.heap_setCell _ _ _ _ (by exact fun he => hp he.symm))]; exact h.2 j x hj⟩
theorem Bx.kept {w w' : World} {b lo hi : Nat} {vs : List Value} (h : Bx w b vs) (hk : Kept lo hi w w') (hB : b < lo ∨ hi ≤ b) : Bx w' b vs :=
  ⟨Nat.lt_of_lt_of_le h.1 hk.size, fun j u hj => by rw [World.cell?_of_block (w := w) (a := ⟨b, j, none⟩) (hk.block b hB h.1)]; exact h.2 j u hj⟩
/-- A block that begins with these cells, which may be written. -/
def Bw (w : World) (b : Nat) (vs : List Value) : Prop := Bx w b vs ∧ ∀ j, j < vs.length → w.frozen? ⟨b, j, none⟩ = false
theorem Bw.c {w : World} {b : Nat} {vs : List Value} (h : Bw w b vs) (j : Nat) {v : Value} (hj : vs[j]? = some v) : w.cell? ⟨b, j, none⟩ = some v := h.1.2 j v hj
theorem Bw.f {w : World} {b : Nat} {vs : List Value} (h : Bw w b vs) (j : Nat) (hj : j < vs.length) : w.frozen? ⟨b, j, none⟩ = false := h.2 j hj
theorem Bw.drewN {w : World} {b : Nat} {vs : List Value} (h : Bw w b vs) (n : Nat) : Bw (w.drewN n) b vs := h
theorem Bw.below {w w' : World} {B b : Nat} {vs : List Value} (h : Bw w b vs) (hb : Below B w w') (hB : b < B) : Bw w' b vs :=
  ⟨h.1.below hb hB, fun j hj => by rw [hb.frozen (p := ⟨b, j, none⟩) hB]; exact h.2 j hj⟩
theorem Bw.alloc {w : World} {b : Nat} {vs : List Value} (h : Bw w b vs) (o : Obj) : Bw (w.alloc o) b vs := h.below ((Below.refl _ _).alloc (Nat.le_refl _) o) h.1.1
theorem Bw.new (w : World) (vs : List Value) (t : TypeId) : Bw (w.alloc (.cells vs.toArray t)) w.heap.size vs := ⟨Bx.new w vs t, fun j _ => by simp [go_sem]⟩
theorem Bw.of4 {w : World} {b : Nat} {v0 v1 v2 v3 : Value} (hb : b < w.heap.size) (h0 : w.cell? ⟨b, 0, none⟩ = some v0) (h1 : w.cell? ⟨b, 1, none⟩ = some v1) (h2 : w.cell? ⟨b, 2, none⟩ = some v2) (h3 : w.cell? ⟨b, 3, none⟩ = some v3)
    (f0 : w.frozen? ⟨b, 0, none⟩ = false) (f1 : w.frozen? ⟨b, 1, none⟩ = false) (f2 : w.frozen? ⟨b, 2, none⟩ = false) (f3 : w.frozen? ⟨b, 3, none⟩ = false) : Bw w b [v0, v1, v2, v3] := by
  refine ⟨⟨hb, fun j v hj => ?_⟩, fun j hj => ?_⟩
  · rcases j with _ | _ | _ | _ | j
    · cases hj; exact h0
    · cases hj; exact h1
    · cases hj; exact h2
    · cases hj; exact h3
    · simp at hj
  · rcases j with _ | _ | _ | _ | j
    · exact f0
    · exact f1
    · exact f2
    · exact f3
    · simp only [List.length_cons, List.length_nil] at hj; omega
theorem Bw.of3 {w : World} {b : Nat} {v0 v1 v2 : Value} (hb : b < w.heap.size) (h0 : w.cell? ⟨b, 0, none⟩ = some v0) (h1 : w.cell? ⟨b, 1, none⟩ = some v1) (h2 : w.cell? ⟨b, 2, none⟩ = some v2) (f0 : w.frozen? ⟨b, 0, none⟩ = false) (f1 : w.frozen? ⟨b, 1, none⟩ = false) (f2 : w.frozen? ⟨b, 2, none⟩ = false) : Bw w b [v0, v1, v2] := by
  refine ⟨⟨hb, fun j v hj => ?_⟩, fun j hj => ?_⟩
  · rcases j with _ | _ | _ | j
    · cases hj; exact h0
    · cases hj; exact h1
    · cases hj; exact h2
    · simp at hj
  · rcases j with _ | _ | _ | j
    · exact f0
    · exact f1
    · exact f2
    · simp only [List.length_cons, List.length_nil] at hj; omega
theorem Bw.setOther {w : World} {b : Nat} {vs : List Value} (h : Bw w b vs) {p : Addr} (hp : p.block ≠ b) (u : Value) : Bw (w.setCell p u) b vs :=
  ⟨h.1.setFar hp u, fun j hj => by rw [World.frozen?_of_block (w := w) (a := ⟨b, j, none⟩) (Below.heap_setCell _ _ _ _ (by exact fun he => hp he.symm))]; exact h.2 j hj⟩
theorem Bw.kept {w w' : World} {b lo hi : Nat} {vs : List Value} (h : Bw w b vs) (hk : Kept lo hi w w') (hB : b < lo ∨ hi ≤ b) : Bw w' b vs :=
  ⟨h.1.kept hk hB, fun j hj => by rw [World.frozen?_of_block (w := w) (a := ⟨b, j, none⟩) (hk.block b hB h.1.1)]; exact h.2 j hj⟩
theorem Bx.of3 {w : World} {b : Nat} {v0 v1 v2 : Value} (hb : b < w.heap.size) (h0 : w.cell? ⟨b, 0, none⟩ = some v0) (h1 : w.cell? ⟨b, 1, none⟩ = some v1) (h2 : w.cell? ⟨b, 2, none⟩ = some v2) : Bx w b [v0, v1, v2] := by
  refine ⟨hb, fun j v hj => ?_⟩
  rcases j with _ | _ | _ | j
  · cases hj; exact h0
  · cases hj; exact h1
  · cases hj; exact h2
  · simp at hj
theorem Bw.put {w : World} {b : Nat} {vs : List Value} (h : Bw w b vs) (j : Nat) (hj : j < vs.length) (u : Value) : Bw (w.setCell ⟨b, j, none⟩ u) b (vs.set j u) := by
  have hold : w.cell? ⟨b, j, none⟩ = some vs[j] := h.c j (List.getElem?_eq_getElem hj)
  refine ⟨⟨by simp; exact h.1.1, fun i v hi => ?_⟩, fun i hi => ?_⟩
  · by_cases e : i = j
    · subst e
      rw [List.getElem?_set_self hj] at hi
      cases hi
      simp [go_sem, hold]
    · rw [List.getElem?_set_ne (fun h => e h.symm)] at hi
      have h9 := h.c i hi
      simp [go_sem, h9, e]
  · rw [List.length_set] at hi
    have h9 := h.f i hi
    simpa [go_sem] using h9
theorem Bx.lt {w : World} {b : Nat} {vs : List Value} (h : Bx w b vs) : b < w.heap.size := h.1
theorem Bx.new1G (w : World) (o : Obj) (vs : List Value) (t : TypeId) : Bx ((w.alloc o).alloc (.cells vs.toArray t)) (w.heap.size + 1) vs := by
  have := Bx.new (w.alloc o) vs t
  simpa using this
theorem Bw.new1G (w : World) (o : Obj) (vs : List Value) (t : TypeId) : Bw ((w.alloc o).alloc (.cells vs.toArray t)) (w.heap.size + 1) vs := by
  have := Bw.new (w.alloc o) vs t
  simpa using this
theorem Bw.new2G (w : World) (o o' : Obj) (vs : List Value) (t : TypeId) : Bw (((w.alloc o).alloc o').alloc (.cells vs.toArray t)) (w.heap.size + 2) vs := by
  have := Bw.new ((w.alloc o).alloc o') vs t
  simpa using this

end Go.Proofs.Ytckmacnmmloemaa
