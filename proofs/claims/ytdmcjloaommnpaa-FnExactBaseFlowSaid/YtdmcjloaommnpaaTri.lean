/- What comes of calls that hand back two or three numbers, with a bool or without. -/
import Derived.Test.YtdmcjloaommnpaaFk
namespace Go.Proofs.Ytdmcjloaommnpaa
open Go.RowKit
set_option linter.unusedVariables false

/-- Two numbers; two numbers with a bool; three numbers with a bool. -/
def Pair0 (p : Option Nat × Option Nat) (W : World → Prop) (e : Ending) (w' : World) : Prop := ∃ r s, e = .returned (.tuple #[.float .f32 r, .float .f32 s]) ∧ Is32 p.1 r ∧ Is32 p.2 s ∧ W w'
def Dub0 (p : Option Nat × Option Nat × Bool) (W : World → Prop) (e : Ending) (w' : World) : Prop := ∃ r s b, e = .returned (.tuple #[.float .f32 r, .float .f32 s, .bool b]) ∧ p.2.2 = b ∧ Is32 p.1 r ∧ Is32 p.2.1 s ∧ W w'
def Tri0 (p : Option Nat × Option Nat × Option Nat × Bool) (W : World → Prop) (e : Ending) (w' : World) : Prop := ∃ r s t b, e = .returned (.tuple #[.float .f32 r, .float .f32 s, .float .f32 t, .bool b]) ∧ p.2.2.2 = b ∧ Is32 p.1 r ∧ Is32 p.2.1 s ∧ Is32 p.2.2.1 t ∧ W w'
abbrev PairQ (p : Option Nat × Option Nat) (w : World) := Pair0 p fun w' => ∃ n, w' = w.drewN n
abbrev DubQ (p : Option Nat × Option Nat × Bool) (w : World) := Dub0 p fun w' => ∃ n, w' = w.drewN n
abbrev DubB (p : Option Nat × Option Nat × Bool) (w : World) := Dub0 p fun w' => Below w.heap.size w w'
abbrev TriQ (p : Option Nat × Option Nat × Option Nat × Bool) (w : World) := Tri0 p fun w' => ∃ n, w' = w.drewN n
abbrev TriB (p : Option Nat × Option Nat × Option Nat × Bool) (w : World) := Tri0 p fun w' => Below w.heap.size w w'
theorem results_tmp4 {fn : Func} {t u v x : Tmp} (h : fn.results = #[.tmp t, .tmp u, .tmp v, .tmp x]) (tmps : Array Value) (P : Program) (w : World) :
    (results fn tmps).run P w = .ok (.tuple #[tmps.getD t undef, tmps.getD u undef, tmps.getD v undef, tmps.getD x undef]) w := by
  simp [results, h]
end Go.Proofs.Ytdmcjloaommnpaa
