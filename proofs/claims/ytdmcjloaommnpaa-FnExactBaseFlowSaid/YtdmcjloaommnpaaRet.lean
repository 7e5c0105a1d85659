/- What a call hands back: a number that is told, in the same world but for draws. -/
import Derived.Test.YtdmcjloaommnpaaFloOps
namespace Go.Proofs.Ytdmcjloaommnpaa
def RetF (k : FloatKind) (o : Option Nat) (w : World) (e : Ending) (w' : World) : Prop := ∃ r n, e = .returned (.float k r) ∧ w' = w.drewN n ∧ Rp k o r
end Go.Proofs.Ytdmcjloaommnpaa
