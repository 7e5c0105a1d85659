/- The greater one of two numbers. -/
import Derived.Test.YtdmcjloaommnpaaFk
namespace Go.Proofs.Ytdmcjloaommnpaa
open Go.RowKit Go.Proofs

def maxO (X Y : Option Nat) : Option Nat :=
  match ford .f32 X Y with
  | none => none
  | some .lt => Y
  | some .gt => X
  | some .eq => X.bind fun x => if (FloatKind.f32.decode x).neg then Y else X

theorem run_max32 {P : Program} (w : World) (ts : Array TypeId) (t : TypeId) {X Y : Option Nat} {x y : Nat} (hx : Is32 X x) (hy : Is32 Y y) :
    ∃ z n, (Builtin.max_ ts t #[.float .f32 x, .float .f32 y]).run P w = .ok (.float .f32 z) (w.drewN n) ∧ Is32 (maxO X Y) z := by
  have ho := Is32.ord hx hy
  cases h : FloatKind.f32.format.order x y with
  | none =>
    rw [h] at ho
    refine ⟨(Question.nanMinMax .f32 true x y).cut (w.tape w.drawn (Question.nanMinMax .f32 true x y)), 1, ?_, ?_⟩
    · simp [Builtin.max_, Builtin.max2, h, World.drewN, Question.forced]
    · unfold maxO; rw [← ho]; exact ⟨cut32 _, (cut32 _).2⟩
  | some o =>
    rw [h] at ho
    cases o with
    | lt => exact ⟨y, 0, by simp [Builtin.max_, Builtin.max2, h, World.drewN], by unfold maxO; rw [← ho]; exact hy⟩
    | gt => exact ⟨x, 0, by simp [Builtin.max_, Builtin.max2, h, World.drewN], by unfold maxO; rw [← ho]; exact hx⟩
    | eq =>
      refine ⟨if (FloatKind.f32.decode x).neg then y else x, 0, by simp [Builtin.max_, Builtin.max2, h, World.drewN], ?_⟩
      unfold maxO
      rw [← ho]
      cases X with
      | none => cases ho
      | some b =>
        obtain rfl := hx.eq
        simp only [Option.bind_some]
        split
        · exact hy
        · exact hx

section
variable {P : Program} {ops : Array Oper} {Q : Exit → Act → World → Prop} {a : Act} {w : World} {rest : List Oper} {o : Oper}
theorem wpList_mx {d : Option Tmp} {args : Array Operand} {ats : Array TypeId} {ty : TypeId} {pos : String} {af : Array Edge} {gd : Option (Nat × Bool)} (h : wpList P ops Q (⟨d, .call { callee := .builtin .max, args := args, argTypes := ats }, ty, pos, af, gd⟩ :: rest) a w) :
    wpList P ops Q (⟨d, .call { callee := .builtin .max, args := args, argTypes := ats }, ty, pos, af, gd⟩ :: rest) a w := h
theorem wpList_max (hw : Region.wanted o (yielded ops a.tmps) = true) (l r : Operand) (ats : Array TypeId) (hop : o.op = .call { callee := .builtin .max, args := #[l, r], argTypes := ats }) {X Y : Option Nat} {x y : Nat}
    (hl : a.eval l = .float .f32 x) (hr : a.eval r = .float .f32 y) (hx : Is32 X x) (hy : Is32 Y y) (hK : ∀ z n, Is32 (maxO X Y) z → wpList P ops Q rest (a.put o.dst (.float .f32 z)) (w.drewN n)) : wpList P ops Q (o :: rest) a w := by
  refine wpList_want hw fun K hK' => ?_
  obtain ⟨z, n, hrun, hz⟩ := run_max32 (P := P) w ats o.type hx hy
  unfold Oper.wp execOp
  simp only [hop, resolve, invoke, builtin, Sem.run_bind, Sem.run_pure, Result.andThen_ok, List.map_toArray, List.map_cons, List.map_nil, hl, hr, hrun]
  exact hK' _ _ (hK z n hz)
end
end Go.Proofs.Ytdmcjloaommnpaa
