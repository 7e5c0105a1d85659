/- Structs of numbers that the laws copy. -/
import Derived.Test.YtdmcjloaommnpaaFk
import Derived.Test.YtdmcjloaommnpaaRowF
namespace Go.Proofs.Ytdmcjloaommnpaa
open Go.RowKit
set_option linter.unusedVariables false
set_option linter.unusedSimpArgs false
set_option maxRecDepth 100000
attribute [local irreducible] wpV wpList Code.wp

/-- A copy: its block, and what it reads as. -/
def CopyN (w : World) (zs : List Nat) (e : Ending) (w' : World) : Prop := ∃ b, e = .returned (.slice (some ⟨b, 0, none⟩) zs.length zs.length) ∧ Below w.heap.size w w' ∧ RowF .f32 w' (some ⟨b, 0, none⟩) zs
theorem copyN_any (a : Option Addr) (cap : Nat) (zs : List Nat) (w : World) (hr : RowF .f32 w a zs) (hl : zs.length ≤ 1048576) :
    Calls Try.prog 16 #[.slice a zs.length cap] w (CopyN w zs) :=
  (toFloat32S_any a cap zs w hr hl).mono fun _ _ ⟨h1, h2, h3⟩ => ⟨_, h1, h2, h3⟩

end Go.Proofs.Ytdmcjloaommnpaa
