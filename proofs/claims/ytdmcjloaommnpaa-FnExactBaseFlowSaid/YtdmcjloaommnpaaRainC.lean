/- Storms: the program and its model alike. -/
import Derived.Test.YtdmcjloaommnpaaRainA
namespace Go.Proofs.Ytdmcjloaommnpaa
open Go.RowKit
set_option linter.unusedVariables false
set_option linter.unusedSimpArgs false
set_option maxRecDepth 100000
attribute [local irreducible] wpV wpList Code.wp

def stormO (A0 A1 A2 A3 : Option Nat) : Bool := amtO A0 && amtO A2 && posO A1 && fcmp .gtr .f32 A3 (some 0) && fcmp .lss .f32 A3 (some 1065353216)
def rainU (A1 A2 A3 U : Option Nat) : Option Nat :=
  if fcmp .lss .f32 U (some 0) || fcmp .gtr .f32 U (some 1065353216) then some 0
  else fop .mul .f32 (fop .quo .f32 (fop .mul .f32 (some 1073741824) A2) A1) (if fcmp .leq .f32 U A3 then fop .quo .f32 U A3 else fop .quo .f32 (fop .sub .f32 (some 1065353216) U) (fop .sub .f32 (some 1065353216) A3))
def rainO (A0 A1 A2 A3 T : Option Nat) : Option Nat × Bool :=
  if stormO A0 A1 A2 A3 && fin32o T then onlyO (rainU A1 A2 A3 (fop .quo .f32 (fop .sub .f32 T A0) A1)) else (some 0, false)
def fallU (A2 A3 U : Option Nat) : Option Nat :=
  if !fcmp .gtr .f32 U (some 0) then some 0 else if fcmp .geq .f32 U (some 1065353216) then A2
  else if fcmp .leq .f32 U A3 then fop .mul .f32 A2 (fop .quo .f32 (fop .mul .f32 U U) A3)
  else fop .mul .f32 A2 (fop .sub .f32 (some 1065353216) (fop .quo .f32 (fop .mul .f32 (fop .sub .f32 (some 1065353216) U) (fop .sub .f32 (some 1065353216) U)) (fop .sub .f32 (some 1065353216) A3)))
def fallO (A0 A1 A2 A3 T : Option Nat) : Option Nat × Bool :=
  if stormO A0 A1 A2 A3 && fin32o T then onlyO (fallU A2 A3 (fop .quo .f32 (fop .sub .f32 T A0) A1)) else (some 0, false)

end Go.Proofs.Ytdmcjloaommnpaa
