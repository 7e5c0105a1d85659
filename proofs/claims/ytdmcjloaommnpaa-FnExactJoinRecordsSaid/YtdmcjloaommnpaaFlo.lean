/- Floating-point operations of the model in a form that the walk takes: a result is a number that is told, or some not-a-number. -/
import Derived.WalkKit
import Derived.Deep.Draws
import Derived.Laws.ComplexArith
namespace Go.Proofs.Ytdmcjloaommnpaa

/-- A number that is told, or any not-a-number of its kind. -/
def Rp (k : FloatKind) (o : Option Nat) (r : Nat) : Prop :=
  match o with
  | some b => r = b
  | none => (k.decode r).isNaN = true ∧ r < 2 ^ k.format.width

theorem Rp.refl (k : FloatKind) (b : Nat) : Rp k (some b) b := rfl
theorem Rp.eq {k : FloatKind} {b r : Nat} (h : Rp k (some b) r) : r = b := h

theorem read_single (x : Nat) : FloatKind.f32.decode x =
    if x % 2147483648 < 8388608 then .number (x / 2147483648 % 2 == 1) (x % 2147483648) (-149)
    else if x % 2147483648 < 2139095040 then .number (x / 2147483648 % 2 == 1) (8388608 + x % 2147483648 % 8388608) (-149 + ((x % 2147483648 / 8388608 - 1 : Nat) : Int))
    else if x % 2147483648 = 2139095040 then .infinity (x / 2147483648 % 2 == 1)
    else .nan (x / 2147483648 % 2 == 1) (x % 2147483648 - 2139095040) := rfl

theorem read_double (x : Nat) : FloatKind.f64.decode x =
    if x % 9223372036854775808 < 4503599627370496 then .number (x / 9223372036854775808 % 2 == 1) (x % 9223372036854775808) (-1074)
    else if x % 9223372036854775808 < 9218868437227405312 then .number (x / 9223372036854775808 % 2 == 1) (4503599627370496 + x % 9223372036854775808 % 4503599627370496) (-1074 + ((x % 9223372036854775808 / 4503599627370496 - 1 : Nat) : Int))
    else if x % 9223372036854775808 = 9218868437227405312 then .infinity (x / 9223372036854775808 % 2 == 1)
    else .nan (x / 9223372036854775808 % 2 == 1) (x % 9223372036854775808 - 9218868437227405312) := rfl

theorem nan32_iff (x : Nat) : (FloatKind.f32.decode x).isNaN = decide (2139095040 < x % 2147483648) := by
  rw [read_single]
  split
  · simp only [Ieee.Datum.isNaN]; simp; omega
  · split
    · simp only [Ieee.Datum.isNaN]; simp; omega
    · split
      · simp only [Ieee.Datum.isNaN]; simp; omega
      · simp only [Ieee.Datum.isNaN]; simp; omega

theorem nan64_iff (x : Nat) : (FloatKind.f64.decode x).isNaN = decide (9218868437227405312 < x % 9223372036854775808) := by
  rw [read_double]
  split
  · simp only [Ieee.Datum.isNaN]; simp; omega
  · split
    · simp only [Ieee.Datum.isNaN]; simp; omega
    · split
      · simp only [Ieee.Datum.isNaN]; simp; omega
      · simp only [Ieee.Datum.isNaN]; simp; omega

theorem cut32 (t : Nat) : Rp .f32 none ((t % 2) * 2 ^ 31 + 0x7f800000 + 1 + (t / 2) % (2 ^ 23 - 1)) := by
  have h1 : t % 2 < 2 := Nat.mod_lt _ (by decide)
  have h2 : (t / 2) % 8388607 < 8388607 := Nat.mod_lt _ (by decide)
  show _ ∧ _ < 4294967296
  simp only [Nat.reducePow, Nat.reduceSub]
  generalize t % 2 = a at *
  generalize (t / 2) % 8388607 = b at *
  rw [nan32_iff]
  constructor
  · rw [decide_eq_true_eq]; omega
  · omega

theorem cut64 (t : Nat) : Rp .f64 none ((t % 2) * 2 ^ 63 + 0x7ff0000000000000 + 1 + (t / 2) % (2 ^ 52 - 1)) := by
  have h1 : t % 2 < 2 := Nat.mod_lt _ (by decide)
  have h2 : (t / 2) % 4503599627370495 < 4503599627370495 := Nat.mod_lt _ (by decide)
  show _ ∧ _ < 18446744073709551616
  simp only [Nat.reducePow, Nat.reduceSub]
  generalize t % 2 = a at *
  generalize (t / 2) % 4503599627370495 = b at *
  rw [nan64_iff]
  constructor
  · rw [decide_eq_true_eq]; omega
  · omega

theorem cutBits (k : FloatKind) (x y t : Nat) : Rp k none ((Question.nanBits k x y).cut t) := by
  cases k
  · exact cut32 t
  · exact cut64 t
theorem cutConv (k : FloatKind) (x t : Nat) : Rp k none ((Question.nanConv k x).cut t) := by
  cases k
  · exact cut32 t
  · exact cut64 t

section
variable {P : Program} (w : World)

theorem run_fl (op : BinOp) (hop : op = .add ∨ op = .sub ∨ op = .mul ∨ op = .quo) (t : TypeId) (k : FloatKind) (x y : Nat) :
    ∃ r n, (binOp op t (.float k x) (.float k y)).run P w = .ok (.float k r) (w.drewN n) ∧ Rp k (floatBits op k x y) r := by
  cases h : floatBits op k x y with
  | some r => exact ⟨r, 0, run_float_arith w op t k x y r h, rfl⟩
  | none =>
    refine ⟨(Question.nanBits k x y).cut (w.tape w.drawn (Question.nanBits k x y)), 1, ?_, cutBits ..⟩
    unfold floatBits at h
    rcases hop with rfl | rfl | rfl | rfl <;> simp only at h <;> simp [binOp, Op.floatArith, h, World.drewN, Question.forced]

/-- 'float64(x)', 'float32(x)': what is told of it where it is no number that is too great. -/
def cvt (s : FloatKind) (b : Nat) (k : FloatKind) : Option Nat :=
  if s = k then some b else
  match s.decode b with
  | .nan _ _ => none
  | .infinity g => some (k.encode (.infinity g))
  | .number g m e => some (k.encode (.number g m e))

/-- Too great for the kind. -/
def tooGreat (s : FloatKind) (b : Nat) (k : FloatKind) : Bool :=
  if s = k then false else
  match s.decode b with
  | .number g m e => (k.decode (k.encode (.number g m e))).isInfinity
  | _ => false

theorem run_cvt (src dst : TypeId) (s k : FloatKind) (b : Nat) (hs : (P.underlying src).isSome = true) (hd : P.underlying dst = some (.float k)) (hg : tooGreat s b k = false) :
    ∃ r n, (convert src dst (.float s b)).run P w = .ok (.float k r) (w.drewN n) ∧ Rp k (cvt s b k) r := by
  obtain ⟨u, hs'⟩ := Option.isSome_iff_exists.1 hs
  by_cases e : s = k
  · subst e
    exact ⟨b, 0, by cases u <;> simp [convert, run_underlying hs', run_underlying hd, Conv.floatToFloat, World.drewN], by simp [cvt, Rp]⟩
  · unfold tooGreat at hg
    unfold cvt
    rw [if_neg e] at hg ⊢
    cases h : s.decode b with
    | nan g f =>
      exact ⟨(Question.nanConv k b).cut (w.tape w.drawn (Question.nanConv k b)), 1,
        by cases u <;> simp [convert, run_underlying hs', run_underlying hd, Conv.floatToFloat, e, h, World.drewN, Question.forced], cutConv ..⟩
    | infinity g =>
      exact ⟨_, 0, by cases u <;> simp [convert, run_underlying hs', run_underlying hd, Conv.floatToFloat, e, h, World.drewN]; done, rfl⟩
    | number g m ex =>
      rw [h] at hg
      simp only at hg
      exact ⟨_, 0, by cases u <;> simp [convert, run_underlying hs', run_underlying hd, Conv.floatToFloat, e, h, hg, World.drewN]; done, rfl⟩
end

section
variable {P : Program} {ops : Array Oper} {Q : Exit → Act → World → Prop} {a : Act} {w : World} {rest : List Oper} {o : Oper}

/-- The walk's law for '+', '-', '*', '/' of two floats. -/
theorem wpList_fl (hg : o.guard = none) (op : BinOp) (t tt : TypeId) (l r : Operand) (hop : o.op = Op.binOp op t l r tt) (k : FloatKind) (x y : Nat) (hl : a.eval l = .float k x) (hr : a.eval r = .float k y)
    (h4 : op = .add ∨ op = .sub ∨ op = .mul ∨ op = .quo) (hK : ∀ z n, Rp k (floatBits op k x y) z → wpList P ops Q rest (a.put o.dst (.float k z)) (w.drewN n)) :
    wpList P ops Q (o :: rest) a w := by
  refine wpList_plain hg fun K hK' => ?_
  obtain ⟨z, n, hrun, hz⟩ := run_fl (P := P) w op h4 t k x y
  have hne : (op matches .eql | .neq) = false := by rcases h4 with rfl | rfl | rfl | rfl <;> rfl
  unfold Oper.wp
  rcases h4 with rfl | rfl | rfl | rfl <;> simp [execOp, hop, hl, hr, hrun, eqGuard, Result.andThen, Oper.upon] <;> exact hK' _ _ (hK z n hz)

/-- The same where the outcome is known. -/
theorem wpList_fl_eq (hg : o.guard = none) (op : BinOp) (t tt : TypeId) (l r : Operand) (hop : o.op = Op.binOp op t l r tt) (k : FloatKind) (x y z : Nat) (hl : a.eval l = .float k x) (hr : a.eval r = .float k y)
    (h4 : op = .add ∨ op = .sub ∨ op = .mul ∨ op = .quo) (hrun : ∀ W : World, (binOp op t (.float k x) (.float k y)).run P W = .ok (.float k z) W) (hK : wpList P ops Q rest (a.put o.dst (.float k z)) w) :
    wpList P ops Q (o :: rest) a w := by
  refine wpList_plain hg fun K hK' => ?_
  have hrun' := hrun w
  unfold Oper.wp
  rcases h4 with rfl | rfl | rfl | rfl <;> simp [execOp, hop, hl, hr, hrun', eqGuard, Result.andThen, Oper.upon] <;> exact hK' _ _ hK

/-- The walk's law for a conversion between floats. -/
theorem wpList_cvt (hg : o.guard = none) (src dst : TypeId) (l : Operand) (hop : o.op = Op.convert src dst l) (s k : FloatKind) (b : Nat) (hl : a.eval l = .float s b)
    (hs : (P.underlying src).isSome = true) (hd : P.underlying dst = some (.float k)) (h4 : tooGreat s b k = false)
    (hK : ∀ z n, Rp k (cvt s b k) z → wpList P ops Q rest (a.put o.dst (.float k z)) (w.drewN n)) :
    wpList P ops Q (o :: rest) a w := by
  refine wpList_plain hg fun K hK' => ?_
  obtain ⟨z, n, hrun, hz⟩ := run_cvt (P := P) w src dst s k b hs hd h4
  unfold Oper.wp
  simp [execOp, hop, hl, hrun, Result.andThen, Oper.upon]
  exact hK' _ _ (hK z n hz)
end
end Go.Proofs.Ytdmcjloaommnpaa
