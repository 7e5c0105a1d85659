/- Numbers that may be no numbers as values of the walk: arithmetic and comparisons, in and out of regions that draw their order. -/
import Derived.Test.YtdmcjloaommnpaaFloOps
import Derived.Test.YtdmcjloaommnpaaRegionV
import Derived.Below
import Derived.Lib.Hide
import Derived.Shelf.Abstract
import Derived.BigCall
namespace Go.Proofs.Ytdmcjloaommnpaa
open Go.RowKit Go.Proofs

/-- A comparison of two numbers, either of which may be no number. -/
def fcmp (op : BinOp) (k : FloatKind) (X Y : Option Nat) : Bool :=
  match op with
  | .eql => ford k X Y == some .eq
  | .neq => ford k X Y != some .eq
  | .lss => ford k X Y == some .lt
  | .leq => ford k X Y == some .lt || ford k X Y == some .eq
  | .gtr => ford k X Y == some .gt
  | .geq => ford k X Y == some .gt || ford k X Y == some .eq
  | _ => false

def isCmp (op : BinOp) : Bool := op matches .eql | .neq | .lss | .leq | .gtr | .geq

/-- A number of a kind that is told. -/
def VF (k : FloatKind) (o : Option Nat) (v : Value) : Prop := ∃ r, v = .float k r ∧ Rp k o r
theorem VF_ne (k : FloatKind) (o : Option Nat) : ∃ v, VF k o v := by
  cases o with
  | some b => exact ⟨_, b, rfl, rfl⟩
  | none =>
    cases k
    · exact ⟨_, _, rfl, cut32 0⟩
    · exact ⟨_, _, rfl, cut64 0⟩

section
variable {P : Program}
theorem run_fcmp (w : World) (op : BinOp) (hop : isCmp op = true) (t : TypeId) (k : FloatKind) {X Y : Option Nat} {x y : Nat} (hx : Rp k X x) (hy : Rp k Y y) : (binOp op t (.float k x) (.float k y)).run P w = .ok (.bool (fcmp op k X Y)) w := by
  have h := Rp.ford hx hy
  unfold fcmp
  rw [← h]
  cases op <;> first | exact absurd hop (by decide) | simp [binOp, Op.floatCmp]
end

section
variable {P : Program} {ops : Array Oper} {Q : Exit → Act → World → Prop} {a : Act} {w : World} {rest : List Oper} {o : Oper}

theorem wpList_flo (hg : o.guard = none) (op : BinOp) (t tt : TypeId) (l r : Operand) (hop : o.op = Op.binOp op t l r tt) (k : FloatKind) {X Y : Option Nat} {x y : Nat} (hl : a.eval l = .float k x) (hr : a.eval r = .float k y)
    (h4 : op = .add ∨ op = .sub ∨ op = .mul ∨ op = .quo) (hx : Rp k X x) (hy : Rp k Y y) (hK : ∀ z n, Rp k (fop op k X Y) z → wpList P ops Q rest (a.put o.dst (.float k z)) (w.drewN n)) :
    wpList P ops Q (o :: rest) a w :=
  wpList_fl hg op t tt l r hop k x y hl hr h4 fun z n hz => hK z n (Rp.fop hx hy hz)

theorem wpList_fcmp (hg : o.guard = none) (op : BinOp) (t tt : TypeId) (l r : Operand) (hop : o.op = Op.binOp op t l r tt) (k : FloatKind) {X Y : Option Nat} {x y : Nat} (hl : a.eval l = .float k x) (hr : a.eval r = .float k y)
    (hc : isCmp op = true) (hx : Rp k X x) (hy : Rp k Y y) (hK : wpList P ops Q rest (a.put o.dst (.bool (fcmp op k X Y))) w) :
    wpList P ops Q (o :: rest) a w := by
  refine wpList_plain hg fun K hK' => ?_
  have hrun := run_fcmp (P := P) w op hc t k hx hy
  unfold Oper.wp
  cases op <;> first | exact absurd hc (by decide) | (simp [execOp, hop, hl, hr, hrun, eqGuard, Result.andThen, Oper.upon] <;> exact hK' _ _ hK)
end

section
variable {P : Program} {ops : Array Oper} {C : World → Prop} {V : Nat → Option (Value → Prop)} {Q : Act → Prop} {a : Act} {rest : List Oper} {o : Oper} {i : Nat}

theorem wpV_flo (hC : ∀ w n, C w → C (w.drewN n)) (op : BinOp) (t tt : TypeId) (l r : Operand) (hop : o.op = Op.binOp op t l r tt) (k : FloatKind) {X Y : Option Nat} {x y : Nat} (hw : Region.wanted o (yielded ops a.tmps) = true)
    (hl : a.eval l = .float k x) (hr : a.eval r = .float k y) (h4 : op = .add ∨ op = .sub ∨ op = .mul ∨ op = .quo) (hx : Rp k X x) (hy : Rp k Y y) (hV : V i = some (VF k (fop op k X Y)))
    (hK : ∀ z, Rp k (fop op k X Y) z → wpV P ops C V Q (i + 1) rest (a.put o.dst (.float k z))) : wpV P ops C V Q i (o :: rest) a := by
  unfold wpV
  rw [if_pos hw, hV]
  refine ⟨VF_ne _ _, fun w hCw => ?_, ?_⟩
  · obtain ⟨z, n, hrun, hz⟩ := run_fl (P := P) w op h4 t k x y
    have : ∀ n w', C w' → C (w'.drewN n) := fun n w' => hC w' n
    rcases h4 with rfl | rfl | rfl | rfl <;> simp [execOp, hop, hl, hr, hrun, eqGuard, Result.andThen, someUpon] <;> exact ⟨hC _ _ hCw, z, rfl, Rp.fop hx hy hz⟩
  · rintro v ⟨z, rfl, hz⟩
    exact hK z hz

theorem wpV_fcmp (op : BinOp) (t tt : TypeId) (l r : Operand) (hop : o.op = Op.binOp op t l r tt) (k : FloatKind) {X Y : Option Nat} {x y : Nat} (hw : Region.wanted o (yielded ops a.tmps) = true)
    (hl : a.eval l = .float k x) (hr : a.eval r = .float k y) (hc : isCmp op = true) (hx : Rp k X x) (hy : Rp k Y y) (hV : V i = none)
    (hK : wpV P ops C V Q (i + 1) rest (a.put o.dst (.bool (fcmp op k X Y)))) : wpV P ops C V Q i (o :: rest) a := by
  unfold wpV
  rw [if_pos hw, hV]
  refine ⟨.bool (fcmp op k X Y), fun w _ => ?_, hK⟩
  have hrun := run_fcmp (P := P) w op hc t k hx hy
  cases op <;> first | exact absurd hc (by decide) | simp [execOp, hop, hl, hr, hrun, eqGuard, Result.andThen, pureUpon]

/-- One walk of the lexical order serves every order where each operation keeps what lies below. -/
theorem wp_region_B {id : Nat} {Q : Exit → Act → World → Prop} {a : Act} {w : World} {l : List Oper} (V : Nat → Option (Value → Prop)) (hm : P.follows .mixedOrders = true) (hB : Region.lexB .any l.toArray = true)
    (h : wpV P l.toArray (fun w' => Below w.heap.size w w') V (fun a' => ∀ w', Below w.heap.size w w' → Q .normal a' w') 0 l a) : (Code.region id l.toArray true).wp P Q a w := by
  simp only [Region.lexB, Bool.and_eq_true] at hB
  refine wp_region_any hm (wpAny_of_V (V := V) (C := fun w' => Below w.heap.size w w') (Q := fun a' => ∀ w', Below w.heap.size w w' → Q .normal a' w') (fun _ w' hw' h => h w' hw') _ _ _ _ ?_ ?_)
  · exact (Below.refl _ _).drew
  · have := wpAnyV_lex (P := P) (C := fun w' => Below w.heap.size w w') (V := V) (md := .any) (Q := fun a' => ∀ w', Below w.heap.size w w' → Q .normal a' w') ⟨w, Below.refl _ _⟩ hB.1 l 0 (Array.replicate l.toArray.size false) a (by simp) (by simpa using hB.2) h
    simpa using this
end
/-- Results are words of 32 bits. -/
theorem write_lt32 (d : Ieee.Datum) : Ieee.single.write d < 4294967296 := by
  have hword : ∀ s r, r ≤ 2147483647 → Ieee.single.word s r < 4294967296 := fun s r hr => by
    unfold Ieee.Format.word
    have hw : Ieee.single.signWeight = 2147483648 := by decide
    rw [hw]
    split <;> omega
  have hinf : Ieee.single.infRung = 2139095040 := by decide +kernel
  cases d with
  | number s m e =>
    show Ieee.single.nearest s m e < _
    unfold Ieee.Format.nearest
    split
    · exact hword _ _ (by omega)
    · refine hword _ _ ?_
      rw [hinf]
      exact Nat.le_trans (Nat.min_le_right _ _) (by omega)
  | infinity s => exact hword _ _ (by rw [hinf]; omega)
  | nan s f =>
    refine hword _ _ ?_
    rw [hinf]
    have : f % Ieee.single.binade < 8388608 := Nat.mod_lt _ (by decide)
    omega
theorem fl32_lt {op : BinOp} (hop : op = .add ∨ op = .sub ∨ op = .mul ∨ op = .quo) {x y r : Nat} (h : Rp .f32 (floatBits op .f32 x y) r) : r < 4294967296 := by
  have hm : ∀ o : Option Ieee.Datum, Rp .f32 (o.map Ieee.single.write) r → r < 4294967296 := fun o ho => by
    cases o with
    | none => exact ho.2
    | some d => obtain rfl : r = _ := ho; exact write_lt32 d
  rcases hop with rfl | rfl | rfl | rfl <;> exact hm _ h

/-- A 32-bit number that is told, or any not-a-number. -/
def Is32 (X : Option Nat) (x : Nat) : Prop := Rp .f32 X x ∧ x < 4294967296
theorem Is32.c {b : Nat} (h : b < 4294967296) : Is32 (some b) b := ⟨rfl, h⟩
theorem Is32.ord {X Y : Option Nat} {x y : Nat} (hx : Is32 X x) (hy : Is32 Y y) : FloatKind.f32.format.order x y = ford .f32 X Y := Rp.ford hx.1 hy.1
theorem Is32.eq {b x : Nat} (h : Is32 (some b) x) : x = b := h.1
theorem Is32.ne (X : Option Nat) (h : ∀ b, X = some b → b < 4294967296) : ∃ z, Is32 X z := by
  cases X with
  | some b => exact ⟨b, rfl, h b rfl⟩
  | none => exact ⟨_, cut32 0, (cut32 0).2⟩
theorem Is32.nef {op : BinOp} (h4 : op = .add ∨ op = .sub ∨ op = .mul ∨ op = .quo) (X Y : Option Nat) : ∃ z, Is32 (fop op .f32 X Y) z := by
  refine Is32.ne _ fun b hb => ?_
  cases X with
  | none => cases hb
  | some x =>
    cases Y with
    | none => cases hb
    | some y =>
      have h2 : floatBits op .f32 x y = some b := hb
      exact fl32_lt h4 (x := x) (y := y) (by rw [h2]; exact Rp.refl _ _)
def V32k (o : Option Nat) (v : Value) : Prop := ∃ r, v = .float .f32 r ∧ Is32 o r
def fin32o (X : Option Nat) : Bool := match X with | some x => decide (x % 2147483648 < 2139095040) | none => false

section
variable {P : Program} {ops : Array Oper} {Q : Exit → Act → World → Prop} {a : Act} {w : World} {rest : List Oper} {o : Oper}
theorem wpList_want (hw : Region.wanted o (yielded ops a.tmps) = true) (h : ∀ K : Act → World → Prop, (∀ a w, wpList P ops Q rest a w → K a w) → o.wp P a w K Q) : wpList P ops Q (o :: rest) a w :=
  wpList_step fun K hK => by rw [if_pos hw]; exact h K hK
theorem wpList_f32 (hw : Region.wanted o (yielded ops a.tmps) = true) (op : BinOp) (t tt : TypeId) (l r : Operand) (hop : o.op = Op.binOp op t l r tt) {X Y : Option Nat} {x y : Nat} (hl : a.eval l = .float .f32 x) (hr : a.eval r = .float .f32 y)
    (h4 : op = .add ∨ op = .sub ∨ op = .mul ∨ op = .quo) (hx : Is32 X x) (hy : Is32 Y y) (hK : ∀ z n, Is32 (fop op .f32 X Y) z → wpList P ops Q rest (a.put o.dst (.float .f32 z)) (w.drewN n)) :
    wpList P ops Q (o :: rest) a w := by
  refine wpList_want hw fun K hK' => ?_
  obtain ⟨z, n, hrun, hz⟩ := run_fl (P := P) w op h4 t .f32 x y
  have hne : (op matches .eql | .neq) = false := by rcases h4 with rfl | rfl | rfl | rfl <;> rfl
  have hK2 := hK z n ⟨Rp.fop hx.1 hy.1 hz, fl32_lt h4 hz⟩
  unfold Oper.wp
  rcases h4 with rfl | rfl | rfl | rfl <;> simp [execOp, hop, hl, hr, hrun, eqGuard, Result.andThen, Oper.upon] <;> exact hK' _ _ hK2
theorem wpList_c32 (hw : Region.wanted o (yielded ops a.tmps) = true) (op : BinOp) (t tt : TypeId) (l r : Operand) (hop : o.op = Op.binOp op t l r tt) {X Y : Option Nat} {x y : Nat} (hl : a.eval l = .float .f32 x) (hr : a.eval r = .float .f32 y)
    (hc : isCmp op = true) (hx : Is32 X x) (hy : Is32 Y y) (hK : ∀ b, fcmp op .f32 X Y = b → wpList P ops Q rest (a.put o.dst (.bool b)) w) :
    wpList P ops Q (o :: rest) a w := by
  refine wpList_want hw fun K hK' => ?_
  have hrun := run_fcmp (P := P) w op hc t .f32 hx.1 hy.1
  have hK2 := hK _ rfl
  unfold Oper.wp
  cases op <;> first | exact absurd hc (by decide) | (simp [execOp, hop, hl, hr, hrun, eqGuard, Result.andThen, Oper.upon] <;> exact hK' _ _ hK2)
end
section
variable {P : Program} {ops : Array Oper} {C : World → Prop} {V : Nat → Option (Value → Prop)} {Q : Act → Prop} {a : Act} {rest : List Oper} {o : Oper} {i : Nat}
theorem wpV_f32 (j : Nat) (hj : i + 1 = j) (hC : ∀ w n, C w → C (w.drewN n)) (op : BinOp) (t tt : TypeId) (l r : Operand) (hop : o.op = Op.binOp op t l r tt) {X Y : Option Nat} {x y : Nat} (hw : Region.wanted o (yielded ops a.tmps) = true)
    (hl : a.eval l = .float .f32 x) (hr : a.eval r = .float .f32 y) (h4 : op = .add ∨ op = .sub ∨ op = .mul ∨ op = .quo) (hx : Is32 X x) (hy : Is32 Y y) (hV : V i = some (V32k (fop op .f32 X Y)))
    (hK : ∀ z, Is32 (fop op .f32 X Y) z → wpV P ops C V Q j rest (a.put o.dst (.float .f32 z))) : wpV P ops C V Q i (o :: rest) a := by
  subst hj
  unfold wpV
  rw [if_pos hw, hV]
  refine ⟨?_, fun w hCw => ?_, ?_⟩
  · obtain ⟨z, n, _, hz⟩ := run_fl (P := P) default op h4 t .f32 x y
    exact ⟨_, z, rfl, Rp.fop hx.1 hy.1 hz, fl32_lt h4 hz⟩
  · obtain ⟨z, n, hrun, hz⟩ := run_fl (P := P) w op h4 t .f32 x y
    rcases h4 with rfl | rfl | rfl | rfl <;> simp [execOp, hop, hl, hr, hrun, eqGuard, Result.andThen, someUpon] <;> exact ⟨hC _ _ hCw, z, rfl, Rp.fop hx.1 hy.1 hz, fl32_lt (by decide) hz⟩
  · rintro v ⟨z, rfl, hz⟩
    exact hK z hz
theorem wpV_c32 (j : Nat) (hj : i + 1 = j) (op : BinOp) (t tt : TypeId) (l r : Operand) (hop : o.op = Op.binOp op t l r tt) {X Y : Option Nat} {x y : Nat} (hw : Region.wanted o (yielded ops a.tmps) = true)
    (hl : a.eval l = .float .f32 x) (hr : a.eval r = .float .f32 y) (hc : isCmp op = true) (hx : Is32 X x) (hy : Is32 Y y) (hV : V i = none)
    (hK : ∀ b, fcmp op .f32 X Y = b → wpV P ops C V Q j rest (a.put o.dst (.bool b))) : wpV P ops C V Q i (o :: rest) a := by
  subst hj
  exact wpV_fcmp op t tt l r hop .f32 hw hl hr hc hx.1 hy.1 hV (hK _ rfl)
end
theorem drewC (W : World) : ∀ w n, (∃ m, w = W.drewN m) → ∃ m, w.drewN n = W.drewN m := by
  rintro w n ⟨m, rfl⟩; exact ⟨m + n, by rw [World.drewN_drewN]⟩
theorem belowC (B : Nat) (W : World) : ∀ w n, Below B W w → Below B W (w.drewN n) := fun _ _ h => h.trans ⟨rfl, rfl, rfl, Nat.le_refl _, fun _ _ => rfl⟩

/-- What comes of a call: a bool; a number; a number with a bool. 'S': in the same world; 'Q': after draws; 'B': with new memory. -/
def SayS (v : Bool) (w : World) (e : Ending) (w' : World) : Prop := ∃ b, v = b ∧ e = .returned (.bool b) ∧ w = w'
def SayQ (v : Bool) (w : World) (e : Ending) (w' : World) : Prop := ∃ b, v = b ∧ e = .returned (.bool b) ∧ ∃ n, w' = w.drewN n
def SayB (v : Bool) (w : World) (e : Ending) (w' : World) : Prop := ∃ b, v = b ∧ e = .returned (.bool b) ∧ Below w.heap.size w w'
def NumS (o : Option Nat) (w : World) (e : Ending) (w' : World) : Prop := ∃ r, e = .returned (.float .f32 r) ∧ Is32 o r ∧ w = w'
def NumQ (o : Option Nat) (w : World) (e : Ending) (w' : World) : Prop := ∃ r, e = .returned (.float .f32 r) ∧ Is32 o r ∧ ∃ n, w' = w.drewN n
def NumB (o : Option Nat) (w : World) (e : Ending) (w' : World) : Prop := ∃ r, e = .returned (.float .f32 r) ∧ Is32 o r ∧ Below w.heap.size w w'
def OnlyS (p : Option Nat × Bool) (w : World) (e : Ending) (w' : World) : Prop := ∃ r b, e = .returned (.tuple #[.float .f32 r, .bool b]) ∧ p.2 = b ∧ Is32 p.1 r ∧ w = w'
def OnlyQ (p : Option Nat × Bool) (w : World) (e : Ending) (w' : World) : Prop := ∃ r b, e = .returned (.tuple #[.float .f32 r, .bool b]) ∧ p.2 = b ∧ Is32 p.1 r ∧ ∃ n, w' = w.drewN n
def OnlyB (p : Option Nat × Bool) (w : World) (e : Ending) (w' : World) : Prop := ∃ r b, e = .returned (.tuple #[.float .f32 r, .bool b]) ∧ p.2 = b ∧ Is32 p.1 r ∧ Below w.heap.size w w'

theorem SayS.q {v : Bool} {w w' : World} {e : Ending} (h : SayS v w e w') : SayQ v w e w' := by
  obtain ⟨b, h1, h2, rfl⟩ := h; exact ⟨b, h1, h2, 0, rfl⟩
theorem NumS.q {v : Option Nat} {w w' : World} {e : Ending} (h : NumS v w e w') : NumQ v w e w' := by
  obtain ⟨b, h1, h2, rfl⟩ := h; exact ⟨b, h1, h2, 0, rfl⟩
section
variable {P : Program} {ops : Array Oper} {C : World → Prop} {V : Nat → Option (Value → Prop)} {Q : Act → Prop} {a : Act} {rest : List Oper} {o : Oper} {i : Nat}
/-- What operations of a region may yield. -/
def VB (b : Bool) (v : Value) : Prop := v = .bool b
def vmap : List (Nat × (Value → Prop)) → Nat → Option (Value → Prop)
  | [], _ => none
  | (j, S) :: rest, i => if i = j then some S else vmap rest i
@[go_sem] theorem vmap_nil (i : Nat) : vmap [] i = none := rfl
@[go_sem] theorem vmap_cons (j i : Nat) (S : Value → Prop) (rest : List (Nat × (Value → Prop))) : vmap ((j, S) :: rest) i = if i = j then some S else vmap rest i := rfl
/-- A call in a region that says a bool. -/
theorem wpV_say (j : Nat) (hj : i + 1 = j) (hC : ∀ w n, C w → C (w.drewN n)) {f : FuncId} {args : Array Value} {v : Bool} (hw : Region.wanted o (yielded ops a.tmps) = true) (hrun : ∀ w, (execOp a.eval o).run P w = .ok (.enter f args) w)
    (hcall : ∀ w', Calls P f args w' (SayQ v w')) (hV : V i = some (VB v)) (hK : ∀ bb, v = bb → wpV P ops C V Q j rest (a.put o.dst (.bool bb))) : wpV P ops C V Q i (o :: rest) a := by
  subst hj
  unfold wpV
  rw [if_pos hw, hV]
  refine ⟨⟨_, rfl⟩, fun w hCw => ?_, fun u hu => ?_⟩
  · rw [hrun]
    refine (hcall w).mono ?_
    rintro e w' ⟨b, hb, rfl, n, rfl⟩
    exact ⟨_, rfl, (by rw [hb]; rfl), hC _ _ hCw⟩
  · obtain rfl : u = .bool v := hu
    exact hK v rfl
/-- A call in a region that tells a number. -/
theorem wpV_num (j : Nat) (hj : i + 1 = j) (hC : ∀ w n, C w → C (w.drewN n)) {f : FuncId} {args : Array Value} {X : Option Nat} (hw : Region.wanted o (yielded ops a.tmps) = true) (hrun : ∀ w, (execOp a.eval o).run P w = .ok (.enter f args) w)
    (hcall : ∀ w', Calls P f args w' (NumQ X w')) (hne : ∃ z, Is32 X z) (hV : V i = some (V32k X)) (hK : ∀ z, Is32 X z → wpV P ops C V Q j rest (a.put o.dst (.float .f32 z))) : wpV P ops C V Q i (o :: rest) a := by
  subst hj
  unfold wpV
  rw [if_pos hw, hV]
  obtain ⟨z0, hz0⟩ := hne
  refine ⟨⟨_, z0, rfl, hz0⟩, fun w hCw => ?_, ?_⟩
  · rw [hrun]
    refine (hcall w).mono ?_
    rintro e w' ⟨z, rfl, hz, n, rfl⟩
    exact ⟨_, rfl, ⟨z, rfl, hz⟩, hC _ _ hCw⟩
  · rintro u ⟨z, rfl, hz⟩; exact hK z hz

theorem run_call1 {f : FuncId} {t : Operand} {ats : Array TypeId} {u : Value} (hop : o.op = .call { callee := .value (.func f), args := #[t], argTypes := ats }) (he : Enters P f) (hl : a.eval t = u) (w : World) :
    (execOp a.eval o).run P w = .ok (.enter f #[u]) w := by
  obtain ⟨dst, op, ty, pos, after, guard⟩ := o
  simp only at hop
  subst hop
  rw [execOp_call_go]
  simp [hl]
  exact he _ _
theorem run_call2 {f : FuncId} {t s : Operand} {ats : Array TypeId} {u v : Value} (hop : o.op = .call { callee := .value (.func f), args := #[t, s], argTypes := ats }) (he : Enters P f) (hl : a.eval t = u) (hr : a.eval s = v) (w : World) :
    (execOp a.eval o).run P w = .ok (.enter f #[u, v]) w := by
  obtain ⟨dst, op, ty, pos, after, guard⟩ := o
  simp only at hop
  subst hop
  rw [execOp_call_go]
  simp [hl, hr]
  exact he _ _
theorem wpV_say1 (j : Nat) (hj : i + 1 = j) (hC : ∀ w n, C w → C (w.drewN n)) {f : FuncId} {t : Operand} {ats : Array TypeId} {u : Value} {v : Bool} (hop : o.op = .call { callee := .value (.func f), args := #[t], argTypes := ats }) (he : Enters P f) (hw : Region.wanted o (yielded ops a.tmps) = true) (hl : a.eval t = u)
    (hcall : ∀ w', Calls P f #[u] w' (SayQ v w')) (hV : V i = some (VB v)) (hK : ∀ bb, v = bb → wpV P ops C V Q j rest (a.put o.dst (.bool bb))) : wpV P ops C V Q i (o :: rest) a :=
  wpV_say j hj hC hw (run_call1 hop he hl) hcall hV hK
theorem wpV_say2 (j : Nat) (hj : i + 1 = j) (hC : ∀ w n, C w → C (w.drewN n)) {f : FuncId} {t s : Operand} {ats : Array TypeId} {u x : Value} {v : Bool} (hop : o.op = .call { callee := .value (.func f), args := #[t, s], argTypes := ats }) (he : Enters P f) (hw : Region.wanted o (yielded ops a.tmps) = true) (hl : a.eval t = u) (hr : a.eval s = x)
    (hcall : ∀ w', Calls P f #[u, x] w' (SayQ v w')) (hV : V i = some (VB v)) (hK : ∀ bb, v = bb → wpV P ops C V Q j rest (a.put o.dst (.bool bb))) : wpV P ops C V Q i (o :: rest) a :=
  wpV_say j hj hC hw (run_call2 hop he hl hr) hcall hV hK
theorem wpV_num1 (j : Nat) (hj : i + 1 = j) (hC : ∀ w n, C w → C (w.drewN n)) {f : FuncId} {t : Operand} {ats : Array TypeId} {u : Value} {X : Option Nat} (hop : o.op = .call { callee := .value (.func f), args := #[t], argTypes := ats }) (he : Enters P f) (hw : Region.wanted o (yielded ops a.tmps) = true) (hl : a.eval t = u)
    (hcall : ∀ w', Calls P f #[u] w' (NumQ X w')) (hne : ∃ z, Is32 X z) (hV : V i = some (V32k X)) (hK : ∀ z, Is32 X z → wpV P ops C V Q j rest (a.put o.dst (.float .f32 z))) : wpV P ops C V Q i (o :: rest) a :=
  wpV_num j hj hC hw (run_call1 hop he hl) hcall hne hV hK
theorem wpV_num2 (j : Nat) (hj : i + 1 = j) (hC : ∀ w n, C w → C (w.drewN n)) {f : FuncId} {t s : Operand} {ats : Array TypeId} {u x : Value} {X : Option Nat} (hop : o.op = .call { callee := .value (.func f), args := #[t, s], argTypes := ats }) (he : Enters P f) (hw : Region.wanted o (yielded ops a.tmps) = true) (hl : a.eval t = u) (hr : a.eval s = x)
    (hcall : ∀ w', Calls P f #[u, x] w' (NumQ X w')) (hne : ∃ z, Is32 X z) (hV : V i = some (V32k X)) (hK : ∀ z, Is32 X z → wpV P ops C V Q j rest (a.put o.dst (.float .f32 z))) : wpV P ops C V Q i (o :: rest) a :=
  wpV_num j hj hC hw (run_call2 hop he hl hr) hcall hne hV hK
theorem wpV_yes (_ : Region.wanted o (yielded ops a.tmps) = true) (h : wpV P ops C V Q i (o :: rest) a) : wpV P ops C V Q i (o :: rest) a := h
theorem wpV_go (j : Nat) (hj : i + 1 = j) (h : ∀ K : Act → Prop, Hid (∀ a, wpV P ops C V Q j rest a → K a) → if Region.wanted o (yielded ops a.tmps) then stepV P C (V i) o a K else K (a.put o.dst undef)) : wpV P ops C V Q i (o :: rest) a := by
  subst hj
  exact wpV_step fun K hK => h K (Lib.hid hK)
/-- The first operation is an arithmetic one or a comparison; a call. -/
theorem wpV_bin {d : Option Tmp} {op : BinOp} {t tt ty : TypeId} {l r : Operand} {pos : String} {af : Array Edge} {gd : Option (Nat × Bool)} (h : wpV P ops C V Q i (⟨d, .binOp op t l r tt, ty, pos, af, gd⟩ :: rest) a) : wpV P ops C V Q i (⟨d, .binOp op t l r tt, ty, pos, af, gd⟩ :: rest) a := h
end
section
variable {P : Program} {ops : Array Oper} {Q : Exit → Act → World → Prop} {a : Act} {w : World} {rest : List Oper}
theorem wpList_bin {d : Option Tmp} {op : BinOp} {t tt ty : TypeId} {l r : Operand} {pos : String} {af : Array Edge} {gd : Option (Nat × Bool)} (h : wpList P ops Q (⟨d, .binOp op t l r tt, ty, pos, af, gd⟩ :: rest) a w) : wpList P ops Q (⟨d, .binOp op t l r tt, ty, pos, af, gd⟩ :: rest) a w := h
end

/-- A block that begins with these cells. -/
def Bx (w : World) (b : Nat) (vs : List Value) : Prop := b < w.heap.size ∧ ∀ j v, vs[j]? = some v → w.cell? ⟨b, j, none⟩ = some v
theorem Bx.c {w : World} {b : Nat} {vs : List Value} (h : Bx w b vs) (j : Nat) {v : Value} (hj : vs[j]? = some v) : w.cell? ⟨b, j, none⟩ = some v := h.2 j v hj
theorem Bx.drewN {w : World} {b : Nat} {vs : List Value} (h : Bx w b vs) (n : Nat) : Bx (w.drewN n) b vs := h
theorem Bx.below {w w' : World} {B b : Nat} {vs : List Value} (h : Bx w b vs) (hb : Below B w w') (hB : b < B) : Bx w' b vs :=
  ⟨Nat.lt_of_lt_of_le h.1 hb.size, fun j v hj => by rw [hb.cell (p := ⟨b, j, none⟩) hB]; exact h.2 j v hj⟩
theorem Bx.alloc {w : World} {b : Nat} {vs : List Value} (h : Bx w b vs) (o : Obj) : Bx (w.alloc o) b vs := h.below ((Below.refl _ _).alloc (Nat.le_refl _) o) h.1
theorem Bx.new (w : World) (vs : List Value) (t : TypeId) : Bx (w.alloc (.cells vs.toArray t)) w.heap.size vs := by
  refine ⟨by simp, fun j v hj => ?_⟩
  simp [go_sem, hj]
theorem bel1 (w : World) (o : Obj) : Below w.heap.size w (w.alloc o) := (Below.refl _ _).alloc (Nat.le_refl _) _
theorem bel2 (w : World) (o o' : Obj) : Below w.heap.size w ((w.alloc o).alloc o') := (bel1 w o).alloc (by simp) _
theorem bel3 (w : World) (o o' o'' : Obj) : Below w.heap.size w (((w.alloc o).alloc o').alloc o'') := (bel2 w o o').alloc (by simp; omega) _
theorem beld {B : Nat} {a w : World} (h : Below B a w) (n : Nat) : Below B a (w.drewN n) := h.trans ⟨rfl, rfl, rfl, Nat.le_refl _, fun _ _ => rfl⟩
section
variable {P : Program} {ops : Array Oper} {Q : Exit → Act → World → Prop} {a : Act} {w : World} {rest : List Oper} {o : Oper}
theorem wpList_cv {d : Option Tmp} {t tt ty : TypeId} {l : Operand} {pos : String} {af : Array Edge} {gd : Option (Nat × Bool)} (h : wpList P ops Q (⟨d, .convert t tt l, ty, pos, af, gd⟩ :: rest) a w) : wpList P ops Q (⟨d, .convert t tt l, ty, pos, af, gd⟩ :: rest) a w := h
/-- A number widened. -/
theorem wpList_widen (hw : Region.wanted o (yielded ops a.tmps) = true) (src dst : TypeId) (l : Operand) (hop : o.op = Op.convert src dst l) {X : Option Nat} {b : Nat} (hl : a.eval l = .float .f32 b)
    (hs : (P.underlying src).isSome = true) (hd : P.underlying dst = some (.float .f64)) (hx : Is32 X b)
    (hK : ∀ z n, Rp .f64 (cvtF .f32 .f64 X) z → wpList P ops Q rest (a.put o.dst (.float .f64 z)) (w.drewN n)) :
    wpList P ops Q (o :: rest) a w := by
  refine wpList_want hw fun K hK' => ?_
  obtain ⟨z, n, hrun, hz⟩ := run_cvt (P := P) w src dst .f32 .f64 b hs hd (widen_ok b)
  unfold Oper.wp
  simp [execOp, hop, hl, hrun, Result.andThen, Oper.upon]
  exact hK' _ _ (hK z n (Rp.cvtF (by decide) hx.1 hz))
end
end Go.Proofs.Ytdmcjloaommnpaa
