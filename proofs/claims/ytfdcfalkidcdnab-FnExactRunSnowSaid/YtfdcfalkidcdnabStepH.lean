/- Boxes that may be written; what comes of a tick. -/
import Derived.Test.YtfdcfalkidcdnabLeast
namespace Go.Proofs.Ytfdcfalkidcdnab
open Go.RowKit
set_option linter.unusedVariables false
set_option linter.unusedSimpArgs false
set_option maxRecDepth 100000
attribute [local irreducible] wpV wpList Code.wp

/-- What comes of a tick. -/
def StepB (R : SoilR) (w : World) (e : Ending) (w' : World) : Prop := ∃ y0 y1 y2 y3 y4 yo yg, e = .returned (.tuple #[.agg #[.float .f32 y0, .float .f32 y1, .float .f32 y2, .float .f32 y3, .float .f32 y4], .float .f32 yo, .float .f32 yg, .bool R.ok]) ∧
  (Is32 R.s0 y0 ∧ Is32 R.s1 y1 ∧ Is32 R.s2 y2 ∧ Is32 R.s3 y3 ∧ Is32 R.s4 y4 ∧ Is32 R.off yo ∧ Is32 R.goes yg) ∧ Below w.heap.size w w'
theorem Bx.of5 {w : World} {b : Nat} {v0 v1 v2 v3 v4 : Value} (hb : b < w.heap.size) (h0 : w.cell? ⟨b, 0, none⟩ = some v0) (h1 : w.cell? ⟨b, 1, none⟩ = some v1) (h2 : w.cell? ⟨b, 2, none⟩ = some v2) (h3 : w.cell? ⟨b, 3, none⟩ = some v3) (h4 : w.cell? ⟨b, 4, none⟩ = some v4) : Bx w b [v0, v1, v2, v3, v4] := by
  refine ⟨hb, fun j v hj => ?_⟩
  rcases j with _ | _ | _ | _ | _ | j
  · cases hj; exact h0
  · cases hj; exact h1
  · cases hj; exact h2
  · cases hj; exact h3
  · cases hj; exact h4
  · simp at hj

/-- A block that begins with these cells, which may be written. -/
def Bw (w : World) (b : Nat) (vs : List Value) : Prop := Bx w b vs ∧ ∀ j, j < vs.length → w.frozen? ⟨b, j, none⟩ = false
theorem Bw.c {w : World} {b : Nat} {vs : List Value} (h : Bw w b vs) (j : Nat) {v : Value} (hj : vs[j]? = some v) : w.cell? ⟨b, j, none⟩ = some v := h.1.2 j v hj
theorem Bw.f {w : World} {b : Nat} {vs : List Value} (h : Bw w b vs) (j : Nat) (hj : j < vs.length) : w.frozen? ⟨b, j, none⟩ = false := h.2 j hj
theorem Bw.drewN {w : World} {b : Nat} {vs : List Value} (h : Bw w b vs) (n : Nat) : Bw (w.drewN n) b vs := h
theorem Bw.below {w w' : World} {B b : Nat} {vs : List Value} (h : Bw w b vs) (hb : Below B w w') (hB : b < B) : Bw w' b vs :=
  ⟨h.1.below hb hB, fun j hj => by rw [hb.frozen (p := ⟨b, j, none⟩) hB]; exact h.2 j hj⟩
theorem Bw.alloc {w : World} {b : Nat} {vs : List Value} (h : Bw w b vs) (o : Obj) : Bw (w.alloc o) b vs := h.below ((Below.refl _ _).alloc (Nat.le_refl _) o) h.1.1
theorem Bw.new (w : World) (vs : List Value) (t : TypeId) : Bw (w.alloc (.cells vs.toArray t)) w.heap.size vs := ⟨Bx.new w vs t, fun j _ => by simp [go_sem]⟩
/-- An operation at which the walk stands. -/
theorem at_f32 {P : Program} {w : World} (G : Result Value → Prop) (op : BinOp) (t : TypeId) {X Y : Option Nat} {x y : Nat} (h4 : op = .add ∨ op = .sub ∨ op = .mul ∨ op = .quo) (hx : Is32 X x) (hy : Is32 Y y)
    (h : ∀ z n, Is32 (fop op .f32 X Y) z → G (.ok (.float .f32 z) (w.drewN n))) : G ((binOp op t (.float .f32 x) (.float .f32 y)).run P w) := by
  obtain ⟨r, n, hr, hz⟩ := run_fl (P := P) w op h4 t .f32 x y
  rw [hr]
  exact h r n ⟨Rp.fop hx.1 hy.1 hz, fl32_lt h4 hz⟩
theorem Bw.of5 {w : World} {b : Nat} {v0 v1 v2 v3 v4 : Value} (hb : b < w.heap.size) (h0 : w.cell? ⟨b, 0, none⟩ = some v0) (h1 : w.cell? ⟨b, 1, none⟩ = some v1) (h2 : w.cell? ⟨b, 2, none⟩ = some v2) (h3 : w.cell? ⟨b, 3, none⟩ = some v3) (h4 : w.cell? ⟨b, 4, none⟩ = some v4)
    (f0 : w.frozen? ⟨b, 0, none⟩ = false) (f1 : w.frozen? ⟨b, 1, none⟩ = false) (f2 : w.frozen? ⟨b, 2, none⟩ = false) (f3 : w.frozen? ⟨b, 3, none⟩ = false) (f4 : w.frozen? ⟨b, 4, none⟩ = false) : Bw w b [v0, v1, v2, v3, v4] := by
  refine ⟨Bx.of5 hb h0 h1 h2 h3 h4, fun j hj => ?_⟩
  rcases j with _ | _ | _ | _ | _ | j
  · exact f0
  · exact f1
  · exact f2
  · exact f3
  · exact f4
  · simp only [List.length_cons, List.length_nil] at hj; omega
theorem Bw.of4 {w : World} {b : Nat} {v0 v1 v2 v3 : Value} (hb : b < w.heap.size) (h0 : w.cell? ⟨b, 0, none⟩ = some v0) (h1 : w.cell? ⟨b, 1, none⟩ = some v1) (h2 : w.cell? ⟨b, 2, none⟩ = some v2) (h3 : w.cell? ⟨b, 3, none⟩ = some v3)
    (f0 : w.frozen? ⟨b, 0, none⟩ = false) (f1 : w.frozen? ⟨b, 1, none⟩ = false) (f2 : w.frozen? ⟨b, 2, none⟩ = false) (f3 : w.frozen? ⟨b, 3, none⟩ = false) : Bw w b [v0, v1, v2, v3] := by
  refine ⟨⟨hb, fun j v hj => ?_⟩, fun j hj => ?_⟩
  · rcases j with _ | _ | _ | _ | j
    · cases hj; exact h0
    · cases hj; exact h1
    · cases hj; exact h2
    · cases hj; exact h3
    · simp at hj
  · rcases j with _ | _ | _ | _ | j
    · exact f0
    · exact f1
    · exact f2
    · exact f3
    · simp only [List.length_cons, List.length_nil] at hj; omega

end Go.Proofs.Ytfdcfalkidcdnab
