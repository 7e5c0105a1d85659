/- The laws' contracts on records' validity. -/
import Derived.Test.YtdmcjloaommnpaaRcV
import Derived.Test.YtdmcjloaommnpaaRcO
namespace Go.Proofs.Ytdmcjloaommnpaa
open Go.RowKit
set_option linter.unusedVariables false
def Says (b : Bool) (w : World) (e : Ending) (w' : World) : Prop := e = .returned (.bool b) ∧ Below w.heap.size w w'
def resValidRecord (nm : ByteArray) (st sp : Int) (zs : List Nat) : Bool := recB nm st sp zs.length
theorem validRecord_spec (nm : ByteArray) (st sp : Int) (a : Option Addr) (cap : Nat) (zs : List Nat) (w : World) (h : RowF .f32 w a zs) (hl : zs.length ≤ 1048576) (hz : ∀ z ∈ zs, z < 4294967296) (hs : nm.size ≤ 1048576) :
    Calls Try.prog 37 #[.agg #[.string nm, .int .i64 st, .int .i64 sp, .slice a zs.length cap]] w (Says (resValidRecord nm st sp zs) w) :=
  (validRec_s nm st sp a zs.length cap w hs hl).mono fun _ _ ⟨b, h1, h2, h3⟩ => ⟨by rw [h2, ← h1]; rfl, h3⟩
theorem validRecord_impl (nm : ByteArray) (st sp : Int) (a : Option Addr) (cap : Nat) (zs : List Nat) (w : World) (h : RowF .f32 w a zs) (hl : zs.length ≤ 1048576) (hz : ∀ z ∈ zs, z < 4294967296) (hs : nm.size ≤ 1048576) :
    Calls Try.prog 39 #[.agg #[.string nm, .int .i64 st, .int .i64 sp, .slice a zs.length cap]] w (Says (resValidRecord nm st sp zs) w) :=
  (validRec_i nm st sp a zs.length cap w hs hl).mono fun _ _ ⟨b, h1, h2, h3⟩ => ⟨by rw [h2, ← h1]; rfl, h3⟩
end Go.Proofs.Ytdmcjloaommnpaa
