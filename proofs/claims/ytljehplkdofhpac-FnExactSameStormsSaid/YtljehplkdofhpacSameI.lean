/- Whether two numbers are the same, as values of the walk; regions whose calls make memory. -/
import Derived.Test.YtljehplkdofhpacFk
import Derived.Test.YtljehplkdofhpacBits
import Derived.StillTailTactics
namespace Go.Proofs.Ytljehplkdofhpac
open Go.RowKit
set_option linter.unusedVariables false
set_option linter.unusedSimpArgs false
set_option maxRecDepth 100000

theorem Bx.new1 (w : World) (o : Obj) (vs : List Value) (t : TypeId) : Bx ((w.alloc o).alloc (.cells vs.toArray t)) (w.heap.size + 1) vs := by
  have hsz : w.heap.size + 1 = (w.alloc o).heap.size := by simp
  rw [hsz]
  exact Bx.new _ _ _
/-- Whether numbers have the same bits. -/
def eqI (x y : Nat) : Bool := bitsI x == bitsI y
theorem l01Same_o {X Y : Option Nat} {x y : Nat} (w : World) (hx : Is32 X x) (hy : Is32 Y y) : Calls Try.prog 100 #[.float .f32 x, .float .f32 y] w (SayS (eqI x y) w) := by
  have h1 := hx.2
  have h2 := hy.2
  clear hx hy
  go_enter Try.func100, Try.ntmps100
  go_wp2_with fail
  refine (bits_no x _ h1 _ (.inl rfl)).mono ?_; rintro e w' ⟨rfl, rfl⟩
  go_wp2_with fail
  refine (bits_no y _ h2 _ (.inl rfl)).mono ?_; rintro e w' ⟨rfl, rfl⟩
  go_wp2_with fail
  go_ret
  exact ⟨_, rfl, rfl, rfl⟩

section
variable {P : Program} {ops : Array Oper} {C : World → Prop} {V : Nat → Option (Value → Prop)} {Q : Act → Prop} {a : Act} {rest : List Oper} {o : Oper} {i : Nat}
theorem wpV_none (j : Nat) (hj : i + 1 = j) {v : Value} (hw : Region.wanted o (yielded ops a.tmps) = true) (hrun : ∀ w, C w → pureUpon w v ((execOp a.eval o).run P w)) (hV : V i = none)
    (hK : wpV P ops C V Q j rest (a.put o.dst v)) : wpV P ops C V Q i (o :: rest) a := by
  subst hj
  unfold wpV
  rw [if_pos hw, hV]
  exact ⟨v, hrun, hK⟩
theorem wpV_callB (j : Nat) (hj : i + 1 = j) {f : FuncId} {args : Array Value} {v : Value} (hw : Region.wanted o (yielded ops a.tmps) = true) (hrun : ∀ w, (execOp a.eval o).run P w = .ok (.enter f args) w)
    (hcall : ∀ w', C w' → Calls P f args w' fun e w'' => e = .returned v ∧ C w'') (hV : V i = some (fun u => u = v)) (hK : wpV P ops C V Q j rest (a.put o.dst v)) : wpV P ops C V Q i (o :: rest) a := by
  subst hj
  unfold wpV
  rw [if_pos hw, hV]
  refine ⟨⟨v, rfl⟩, fun w hCw => ?_, fun u hu => ?_⟩
  · rw [hrun]
    refine (hcall w hCw).mono ?_
    rintro e w' ⟨rfl, hC⟩
    exact ⟨v, rfl, rfl, hC⟩
  · subst hu; exact hK
end
end Go.Proofs.Ytljehplkdofhpac
