/- What every frame of the seat asks of the program: closed facts. -/
import Derived.Test.YtdmcjloaommnpaaRows
import Derived.ProofKit
import Derived.OpenShut
import Derived.ShutString
import Derived.ChangeOld
import Derived.Below
namespace Go.Proofs.Ytdmcjloaommnpaa
open Go.ChangeShapes Go.WideShapes Go.ChangeAt Go.RowKit
theorem ownKnob_none : ownKnob Try.prog.godebug = none := by kernel_rfl
theorem laidOut_all : laidOutB Try.prog = true := by kernel_rfl
end Go.Proofs.Ytdmcjloaommnpaa
