/- How ground rises: values. -/
import Derived.Test.YtdpnkpgfepckdaaHillR
import Derived.Test.YtdpnkpgfepckdaaRainA
namespace Go.Proofs.Ytdpnkpgfepckdaa
open Go.RowKit
set_option linter.unusedVariables false
set_option linter.unusedSimpArgs false
set_option maxRecDepth 100000
attribute [local irreducible] wpV wpList Code.wp

def iF (n : Int) : Nat := floatOfInt .f32 n
theorem iF_lt (n : Int) : iF n < 4294967296 := by unfold iF floatOfInt FloatKind.nearest; exact write_lt32 _
theorem iF_is (n : Int) : Is32 (some (iF n)) (iF n) := Is32.c (iF_lt n)
/-- how it rises from one height to another one, `far` cells apart -/
def riseV (hb ha far : Nat) : Option Nat := if far = 0 then some 0 else fop .quo .f32 (fop .sub .f32 (some hb) (some ha)) (some (iF (far : Int)))
def hiN (x n : Nat) : Nat := if x + 1 < n then x + 1 else x
theorem hiN_lt {x n : Nat} (h : x < n) : hiN x n < n := by unfold hiN; split <;> omega
theorem hiN_ge (x n : Nat) : x ≤ hiN x n := by unfold hiN; split <;> omega
theorem hiN_min {x n : Nat} (h : x < n) : min ((x : Int) + 1) ((n : Int) - 1) = (hiN x n : Int) := by unfold hiN; split <;> omega
theorem hiN_min' {x n : Nat} (h : x < n) : min ((n : Int) - 1) ((x : Int) + 1) = (hiN x n : Int) := by unfold hiN; split <;> omega
theorem loN_max (x : Nat) : max ((x : Int) - 1) 0 = ((x - 1 : Nat) : Int) := by omega
theorem loN_max' (x : Nat) : max 0 ((x : Int) - 1) = ((x - 1 : Nat) : Int) := by omega
def riseL (ln : List Nat) (x n : Nat) : Option Nat := riseV (ln.getD (hiN x n) 0) (ln.getD (x - 1) 0) (hiN x n - (x - 1))

end Go.Proofs.Ytdpnkpgfepckdaa
