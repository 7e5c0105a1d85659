/- Boxes that may be written. -/
import Derived.Test.YtdmcjloaommnpaaGrow
namespace Go.Proofs.Ytdmcjloaommnpaa
open Go.RowKit
set_option linter.unusedVariables false
set_option linter.unusedSimpArgs false
set_option maxRecDepth 100000

theorem Bx.of5 {w : World} {b : Nat} {v0 v1 v2 v3 v4 : Value} (hb : b < w.heap.size) (h0 : w.cell? ⟨b, 0, none⟩ = some v0) (h1 : w.cell? ⟨b, 1, none⟩ = some v1) (h2 : w.cell? ⟨b, 2, none⟩ = some v2) (h3 : w.cell? ⟨b, 3, none⟩ = some v3) (h4 : w.cell? ⟨b, 4, none⟩ = some v4) : Bx w b [v0, v1, v2, v3, v4] := by
  refine ⟨hb, fun j v hj => ?_⟩
  rcases j with _ | _ | _ | _ | _ | j
  · cases hj; exact h0
  · cases hj; exact h1
  · cases hj; exact h2
  · cases hj; exact h3
  · cases hj; exact h4
  · simp at hj

/-- A block that begins with these cells, which may be written. -/
def Bw (w : World) (b : Nat) (vs : List Value) : Prop := Bx w b vs ∧ ∀ j, j < vs.length → w.frozen? ⟨b, j, none⟩ = false
theorem Bw.c {w : World} {b : Nat} {vs : List Value} (h : Bw w b vs) (j : Nat) {v : Value} (hj : vs[j]? = some v) : w.cell? ⟨b, j, none⟩ = some v := h.1.2 j v hj
theorem Bw.f {w : World} {b : Nat} {vs : List Value} (h : Bw w b vs) (j : Nat) (hj : j < vs.length) : w.frozen? ⟨b, j, none⟩ = false := h.2 j hj
theorem Bw.drewN {w : World} {b : Nat} {vs : List Value} (h : Bw w b vs) (n : Nat) : Bw (w.drewN n) b vs := h
theorem Bw.below {w w' : World} {B b : Nat} {vs : List Value} (h : Bw w b vs) (hb : Below B w w') (hB : b < B) : Bw w' b vs :=
  ⟨h.1.below hb hB, fun j hj => by rw [hb.frozen (p := ⟨b, j, none⟩) hB]; exact h.2 j hj⟩
theorem Bw.alloc {w : World} {b : Nat} {vs : List Value} (h : Bw w b vs) (o : Obj) : Bw (w.alloc o) b vs := h.below ((Below.refl _ _).alloc (Nat.le_refl _) o) h.1.1
theorem Bw.new (w : World) (vs : List Value) (t : TypeId) : Bw (w.alloc (.cells vs.toArray t)) w.heap.size vs := ⟨Bx.new w vs t, fun j _ => by simp [go_sem]⟩
theorem Bw.of5 {w : World} {b : Nat} {v0 v1 v2 v3 v4 : Value} (hb : b < w.heap.size) (h0 : w.cell? ⟨b, 0, none⟩ = some v0) (h1 : w.cell? ⟨b, 1, none⟩ = some v1) (h2 : w.cell? ⟨b, 2, none⟩ = some v2) (h3 : w.cell? ⟨b, 3, none⟩ = some v3) (h4 : w.cell? ⟨b, 4, none⟩ = some v4)
    (f0 : w.frozen? ⟨b, 0, none⟩ = false) (f1 : w.frozen? ⟨b, 1, none⟩ = false) (f2 : w.frozen? ⟨b, 2, none⟩ = false) (f3 : w.frozen? ⟨b, 3, none⟩ = false) (f4 : w.frozen? ⟨b, 4, none⟩ = false) : Bw w b [v0, v1, v2, v3, v4] := by
  refine ⟨Bx.of5 hb h0 h1 h2 h3 h4, fun j hj => ?_⟩
  rcases j with _ | _ | _ | _ | _ | j
  · exact f0
  · exact f1
  · exact f2
  · exact f3
  · exact f4
  · simp only [List.length_cons, List.length_nil] at hj; omega
theorem Bw.of4 {w : World} {b : Nat} {v0 v1 v2 v3 : Value} (hb : b < w.heap.size) (h0 : w.cell? ⟨b, 0, none⟩ = some v0) (h1 : w.cell? ⟨b, 1, none⟩ = some v1) (h2 : w.cell? ⟨b, 2, none⟩ = some v2) (h3 : w.cell? ⟨b, 3, none⟩ = some v3)
    (f0 : w.frozen? ⟨b, 0, none⟩ = false) (f1 : w.frozen? ⟨b, 1, none⟩ = false) (f2 : w.frozen? ⟨b, 2, none⟩ = false) (f3 : w.frozen? ⟨b, 3, none⟩ = false) : Bw w b [v0, v1, v2, v3] := by
  refine ⟨⟨hb, fun j v hj => ?_⟩, fun j hj => ?_⟩
  · rcases j with _ | _ | _ | _ | j
    · cases hj; exact h0
    · cases hj; exact h1
    · cases hj; exact h2
    · cases hj; exact h3
    · simp at hj
  · rcases j with _ | _ | _ | _ | j
    · exact f0
    · exact f1
    · exact f2
    · exact f3
    · simp only [List.length_cons, List.length_nil] at hj; omega

theorem Bw.of2 {w : World} {b : Nat} {v0 v1 : Value} (hb : b < w.heap.size) (h0 : w.cell? ⟨b, 0, none⟩ = some v0) (h1 : w.cell? ⟨b, 1, none⟩ = some v1) (f0 : w.frozen? ⟨b, 0, none⟩ = false) (f1 : w.frozen? ⟨b, 1, none⟩ = false) : Bw w b [v0, v1] := by
  refine ⟨⟨hb, fun j v hj => ?_⟩, fun j hj => ?_⟩
  · rcases j with _ | _ | j
    · cases hj; exact h0
    · cases hj; exact h1
    · simp at hj
  · rcases j with _ | _ | j
    · exact f0
    · exact f1
    · simp only [List.length_cons, List.length_nil] at hj; omega
theorem Bw.of3 {w : World} {b : Nat} {v0 v1 v2 : Value} (hb : b < w.heap.size) (h0 : w.cell? ⟨b, 0, none⟩ = some v0) (h1 : w.cell? ⟨b, 1, none⟩ = some v1) (h2 : w.cell? ⟨b, 2, none⟩ = some v2) (f0 : w.frozen? ⟨b, 0, none⟩ = false) (f1 : w.frozen? ⟨b, 1, none⟩ = false) (f2 : w.frozen? ⟨b, 2, none⟩ = false) : Bw w b [v0, v1, v2] := by
  refine ⟨⟨hb, fun j v hj => ?_⟩, fun j hj => ?_⟩
  · rcases j with _ | _ | _ | j
    · cases hj; exact h0
    · cases hj; exact h1
    · cases hj; exact h2
    · simp at hj
  · rcases j with _ | _ | _ | j
    · exact f0
    · exact f1
    · exact f2
    · simp only [List.length_cons, List.length_nil] at hj; omega
theorem Bw.setOther {w : World} {b : Nat} {vs : List Value} (h : Bw w b vs) {p : Addr} (hp : p.block ≠ b) (u : Value) : Bw (w.setCell p u) b vs :=
  ⟨h.1.setFar hp u, fun j hj => by rw [World.frozen?_of_block (w := w) (a := ⟨b, j, none⟩) (Below.heap_setCell _ _ _ _ (by exact fun he => hp he.symm))]; exact h.2 j hj⟩
theorem Bw.kept {w w' : World} {b lo hi : Nat} {vs : List Value} (h : Bw w b vs) (hk : Kept lo hi w w') (hB : b < lo ∨ hi ≤ b) : Bw w' b vs :=
  ⟨h.1.kept hk hB, fun j hj => by rw [World.frozen?_of_block (w := w) (a := ⟨b, j, none⟩) (hk.block b hB h.1.1)]; exact h.2 j hj⟩
end Go.Proofs.Ytdmcjloaommnpaa
