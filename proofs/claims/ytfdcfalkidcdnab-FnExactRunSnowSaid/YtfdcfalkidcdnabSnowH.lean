/- What comes of a tick of snow. -/
import Derived.Test.YtfdcfalkidcdnabRainD
import Derived.Test.YtfdcfalkidcdnabStepH
namespace Go.Proofs.Ytfdcfalkidcdnab
open Go.RowKit
set_option linter.unusedVariables false
set_option linter.unusedSimpArgs false
set_option maxRecDepth 100000
attribute [local irreducible] wpV wpList Code.wp

structure SnowR where
  s0 : Option Nat
  s1 : Option Nat
  s2 : Option Nat
  s3 : Option Nat
  out : Option Nat
  ok : Bool
def failSnow : SnowR := ⟨some 0, some 0, some 0, some 0, some 0, false⟩
def meltO (A0 A2 V T : Option Nat) : Option Nat := capO (fop .mul .f32 (fop .mul .f32 A0 V) T) A2
def iceO (A0 A2 X V T : Option Nat) : Option Nat := if fcmp .leq .f32 V (some 0) then fop .add .f32 A2 X else fop .sub .f32 A2 (meltO A0 A2 V T)
def watO (A0 A2 A3 X V T : Option Nat) : Option Nat := if fcmp .leq .f32 V (some 0) then A3 else fop .add .f32 A3 (fop .add .f32 (meltO A0 A2 V T) X)
def endO (A0 A1 I W : Option Nat) : SnowR :=
  if fcmp .gtr .f32 (fop .sub .f32 W (fop .mul .f32 A1 I)) (some 0) then
    (if snowO A0 A1 I (fop .mul .f32 A1 I) && fin32o (fop .sub .f32 W (fop .mul .f32 A1 I)) then ⟨A0, A1, I, fop .mul .f32 A1 I, fop .sub .f32 W (fop .mul .f32 A1 I), true⟩ else failSnow)
  else (if snowO A0 A1 I W && fin32o (some 0) then ⟨A0, A1, I, W, some 0, true⟩ else failSnow)
def snowTry (A0 A1 A2 A3 X V T : Option Nat) : SnowR := endO A0 A1 (iceO A0 A2 X V T) (watO A0 A2 A3 X V T)
def snowStep (A0 A1 A2 A3 X V T : Option Nat) : SnowR := if snowO A0 A1 A2 A3 && amtO X && fin32o V && posO T then snowTry A0 A1 A2 A3 X V T else failSnow
def SnowB (R : SnowR) (w : World) (e : Ending) (w' : World) : Prop := ∃ y0 y1 y2 y3 yo, e = .returned (.tuple #[.agg #[.float .f32 y0, .float .f32 y1, .float .f32 y2, .float .f32 y3], .float .f32 yo, .bool R.ok]) ∧
  (Is32 R.s0 y0 ∧ Is32 R.s1 y1 ∧ Is32 R.s2 y2 ∧ Is32 R.s3 y3 ∧ Is32 R.out yo) ∧ Below w.heap.size w w'

end Go.Proofs.Ytfdcfalkidcdnab
