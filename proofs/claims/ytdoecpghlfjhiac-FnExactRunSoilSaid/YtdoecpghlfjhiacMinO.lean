/- The least of two numbers. -/
import Derived.Test.YtdoecpghlfjhiacFk
namespace Go.Proofs.Ytdoecpghlfjhiac

/-- The first one of the least. -/
def minO (X Y : Option Nat) : Option Nat := if fcmp .lss .f32 Y X then Y else X
/-- A number, but the limit if it is greater. -/
def capO (X L : Option Nat) : Option Nat := if fcmp .gtr .f32 X L then L else X
end Go.Proofs.Ytdoecpghlfjhiac
