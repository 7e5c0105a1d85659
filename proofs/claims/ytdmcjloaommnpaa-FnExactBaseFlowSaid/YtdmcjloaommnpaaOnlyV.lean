/- Calls in regions that draw their order: a number with a bool. -/
import Derived.Test.YtdmcjloaommnpaaFk
namespace Go.Proofs.Ytdmcjloaommnpaa
open Go.RowKit

/-- The second one of two new blocks. -/
theorem Bx.second (w : World) (o : Obj) (vs : List Value) (t : TypeId) : Bx ((w.alloc o).alloc (.cells vs.toArray t)) (w.heap.size + 1) vs := by
  have hsz : w.heap.size + 1 = (w.alloc o).heap.size := by simp
  rw [hsz]
  exact Bx.new _ _ _
/-- Two bools; with new memory. -/
def TwoB (p : Bool × Bool) (w : World) (e : Ending) (w' : World) : Prop := ∃ b c, e = .returned (.tuple #[.bool b, .bool c]) ∧ p.1 = b ∧ p.2 = c ∧ Below w.heap.size w w'
/-- A number that is told, with a bool. -/
def V32o (p : Option Nat × Bool) (v : Value) : Prop := ∃ r, v = .tuple #[.float .f32 r, .bool p.2] ∧ Is32 p.1 r
theorem OnlyS.q {v : Option Nat × Bool} {w w' : World} {e : Ending} (h : OnlyS v w e w') : OnlyQ v w e w' := by
  obtain ⟨r, b, h1, h2, h3, rfl⟩ := h; exact ⟨r, b, h1, h2, h3, 0, rfl⟩
theorem onlyO_ne (X : Option Nat) (h : ∃ z, Is32 X z) : ∃ z, Is32 (if fin32o X then (X, true) else ((some 0 : Option Nat), false)).1 z := by
  split
  · exact h
  · exact ⟨0, Is32.c (by decide)⟩
section
variable {P : Program} {ops : Array Oper} {C : World → Prop} {V : Nat → Option (Value → Prop)} {Q : Act → Prop} {a : Act} {rest : List Oper} {o : Oper} {i : Nat}
theorem wpV_only1 (j : Nat) (hj : i + 1 = j) (hC : ∀ w n, C w → C (w.drewN n)) {f : FuncId} {t : Operand} {ats : Array TypeId} {u : Value} {p : Option Nat × Bool} (hop : o.op = .call { callee := .value (.func f), args := #[t], argTypes := ats }) (he : Enters P f) (hw : Region.wanted o (yielded ops a.tmps) = true) (hl : a.eval t = u)
    (hcall : ∀ w', Calls P f #[u] w' (OnlyQ p w')) (hne : ∃ z, Is32 p.1 z) (hV : V i = some (V32o p)) (hK : ∀ z bb, p.2 = bb → Is32 p.1 z → wpV P ops C V Q j rest (a.put o.dst (.tuple #[.float .f32 z, .bool bb]))) : wpV P ops C V Q i (o :: rest) a := by
  subst hj
  unfold wpV
  rw [if_pos hw, hV]
  obtain ⟨z0, hz0⟩ := hne
  refine ⟨⟨_, z0, rfl, hz0⟩, fun w hCw => ?_, ?_⟩
  · rw [run_call1 hop he hl]
    refine (hcall w).mono ?_
    rintro e w' ⟨z, b, rfl, hb, hz, n, rfl⟩
    exact ⟨_, rfl, ⟨z, by rw [hb], hz⟩, hC _ _ hCw⟩
  · rintro v ⟨z, rfl, hz⟩; exact hK z _ rfl hz
end
end Go.Proofs.Ytdmcjloaommnpaa
