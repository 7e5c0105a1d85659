/- Boxes that may be written; what comes of a tick. -/
import Derived.Test.YtdoecpghlfjhiacLeast
import Derived.Test.YtdoecpghlfjhiacBw
namespace Go.Proofs.Ytdoecpghlfjhiac
open Go.RowKit
set_option linter.unusedVariables false
set_option linter.unusedSimpArgs false
set_option maxRecDepth 100000
attribute [local irreducible] wpV wpList Code.wp

/-- What comes of a tick. -/
def StepB (R : SoilR) (w : World) (e : Ending) (w' : World) : Prop := ∃ y0 y1 y2 y3 y4 yo yg, e = .returned (.tuple #[.agg #[.float .f32 y0, .float .f32 y1, .float .f32 y2, .float .f32 y3, .float .f32 y4], .float .f32 yo, .float .f32 yg, .bool R.ok]) ∧
  (Is32 R.s0 y0 ∧ Is32 R.s1 y1 ∧ Is32 R.s2 y2 ∧ Is32 R.s3 y3 ∧ Is32 R.s4 y4 ∧ Is32 R.off yo ∧ Is32 R.goes yg) ∧ Below w.heap.size w w'
/-- An operation at which the walk stands. -/
theorem at_f32 {P : Program} {w : World} (G : Result Value → Prop) (op : BinOp) (t : TypeId) {X Y : Option Nat} {x y : Nat} (h4 : op = .add ∨ op = .sub ∨ op = .mul ∨ op = .quo) (hx : Is32 X x) (hy : Is32 Y y)
    (h : ∀ z n, Is32 (fop op .f32 X Y) z → G (.ok (.float .f32 z) (w.drewN n))) : G ((binOp op t (.float .f32 x) (.float .f32 y)).run P w) := by
  obtain ⟨r, n, hr, hz⟩ := run_fl (P := P) w op h4 t .f32 x y
  rw [hr]
  exact h r n ⟨Rp.fop hx.1 hy.1 hz, fl32_lt h4 hz⟩

end Go.Proofs.Ytdoecpghlfjhiac
