/-
  No cell of these rows narrows 'for every input' (looked for: loops, veiled, ifaces, maps, wideKeys, modest, calm, conditions, laid).
  DERIVED. THE GIVEN ROWS OF THIS SEAT. 5 by the template 'for every input the law returns true; each argument reads behind the call as it read before'; 0 by the template 'total and deterministic' (their statements: YtdpnkpgfepckdaaTotals.lean).
  GIVEN WITH THE SEED: the statements are not yours to turn. If you find one false, say at which input.
  Laid BY PROGRAM, IN A SANDBOX (cutbox-rows.mjs): the forced cells as the released guide's own fill.sh prints them over the translation f42777567ee7775e… (all of the seat's roots in one cut). By AI agents, Wed Nov 11 2026. No macro, syntax, notation, axiom, sorry.
-/
import Derived.Test.YtdpnkpgfepckdaaChecked
import GoSem.Claim
import GoSem.ClaimJoined
import GoSem.ClaimMapViews
import Derived.JoinedTies
import Derived.KernelRfl
namespace Go.Proofs.Ytdpnkpgfepckdaa
/- THE CELL 'sum', in the pinned program and in every row, IS THE sha256 OF THE DUMP (.gsa) THAT YtdpnkpgfepckdaaProg.lean LOADS. Nothing in Lean hashes anything: it is a label: what it is worth is what the hold of that sum in a sandbox is worth. -/
noncomputable def Try.pinned : Pinned := { name := "ytdpnkpgfepckdaa", sum := "f42777567ee7775e0aeaa4a397b6653a90350483280202574a3ce6e0a247593e", checked := Try.checked }
namespace Rows
def none {H : Type} : Left H := { results := [], args := [] }

/-- 'laws.FnExactRainList': WHATEVER THE INPUT: true; the input reads as it did. -/
def fnExactRainListSpec : ChangeSpec := { name := "fnExactRainList", fn := fun _ => fun
  | [d1, d2, d3] => { results := [.lit (.bool true)], args := [d1, d2, d3] }
  | _ => none }
def fnExactRainListRow : OpenClaim := { program := "ytdpnkpgfepckdaa", sum := "f42777567ee7775e0aeaa4a397b6653a90350483280202574a3ce6e0a247593e", func := "loop.example/g01302/laws.FnExactRainList", spec := "fnExactRainList", inPlace := ["math.Float32bits"], unfollowed := true, recurses := true, apart := false }
def FnExactRainListSaid : Prop := fnExactRainListRow.holds Try.pinned (OpenSpec.ofChange fnExactRainListSpec)

/-- ITS FALSE NEIGHBOUR: 'it returns false'. Refute it at one input. -/
def fnExactRainListWrong : ChangeSpec := { name := "fnExactRainList", fn := fun _ => fun
  | [d1, d2, d3] => { results := [.lit (.bool false)], args := [d1, d2, d3] }
  | _ => none }
def FnExactRainListWrongFalsely : Prop := fnExactRainListRow.holds Try.pinned (OpenSpec.ofChange fnExactRainListWrong)

/-- 'laws.FnExactStormsOf': WHATEVER THE INPUT: true; the input reads as it did. -/
def fnExactStormsOfSpec : ChangeSpec := { name := "fnExactStormsOf", fn := fun _ => fun
  | [d1, d2, d3, d4] => { results := [.lit (.bool true)], args := [d1, d2, d3, d4] }
  | _ => none }
def fnExactStormsOfRow : OpenClaim := { program := "ytdpnkpgfepckdaa", sum := "f42777567ee7775e0aeaa4a397b6653a90350483280202574a3ce6e0a247593e", func := "loop.example/g01302/laws.FnExactStormsOf", spec := "fnExactStormsOf", inPlace := ["math.Float32bits"], unfollowed := true, recurses := true, apart := false }
def FnExactStormsOfSaid : Prop := fnExactStormsOfRow.holds Try.pinned (OpenSpec.ofChange fnExactStormsOfSpec)

/-- ITS FALSE NEIGHBOUR: 'it returns false'. Refute it at one input. -/
def fnExactStormsOfWrong : ChangeSpec := { name := "fnExactStormsOf", fn := fun _ => fun
  | [d1, d2, d3, d4] => { results := [.lit (.bool false)], args := [d1, d2, d3, d4] }
  | _ => none }
def FnExactStormsOfWrongFalsely : Prop := fnExactStormsOfRow.holds Try.pinned (OpenSpec.ofChange fnExactStormsOfWrong)

/-- 'laws.FnExactTiltAt': WHATEVER THE INPUT: true; the input reads as it did. -/
def fnExactTiltAtSpec : ChangeSpec := { name := "fnExactTiltAt", fn := fun _ => fun
  | [d1, d2] => { results := [.lit (.bool true)], args := [d1, d2] }
  | _ => none }
def fnExactTiltAtRow : OpenClaim := { program := "ytdpnkpgfepckdaa", sum := "f42777567ee7775e0aeaa4a397b6653a90350483280202574a3ce6e0a247593e", func := "loop.example/g01302/laws.FnExactTiltAt", spec := "fnExactTiltAt", inPlace := ["math.Float32bits"], unfollowed := true, recurses := true, apart := false }
def FnExactTiltAtSaid : Prop := fnExactTiltAtRow.holds Try.pinned (OpenSpec.ofChange fnExactTiltAtSpec)

/-- ITS FALSE NEIGHBOUR: 'it returns false'. Refute it at one input. -/
def fnExactTiltAtWrong : ChangeSpec := { name := "fnExactTiltAt", fn := fun _ => fun
  | [d1, d2] => { results := [.lit (.bool false)], args := [d1, d2] }
  | _ => none }
def FnExactTiltAtWrongFalsely : Prop := fnExactTiltAtRow.holds Try.pinned (OpenSpec.ofChange fnExactTiltAtWrong)

/-- 'laws.FnExactShadeOf': WHATEVER THE INPUT: true; the input reads as it did. -/
def fnExactShadeOfSpec : ChangeSpec := { name := "fnExactShadeOf", fn := fun _ => fun
  | [d1, d2, d3] => { results := [.lit (.bool true)], args := [d1, d2, d3] }
  | _ => none }
def fnExactShadeOfRow : OpenClaim := { program := "ytdpnkpgfepckdaa", sum := "f42777567ee7775e0aeaa4a397b6653a90350483280202574a3ce6e0a247593e", func := "loop.example/g01302/laws.FnExactShadeOf", spec := "fnExactShadeOf", inPlace := ["math.Float32frombits", "math.Float64frombits", "math.sqrt", "math.Float32bits", "math.Float64bits"], unfollowed := true, recurses := true, apart := false }
def FnExactShadeOfSaid : Prop := fnExactShadeOfRow.holds Try.pinned (OpenSpec.ofChange fnExactShadeOfSpec)

/-- ITS FALSE NEIGHBOUR: 'it returns false'. Refute it at one input. -/
def fnExactShadeOfWrong : ChangeSpec := { name := "fnExactShadeOf", fn := fun _ => fun
  | [d1, d2, d3] => { results := [.lit (.bool false)], args := [d1, d2, d3] }
  | _ => none }
def FnExactShadeOfWrongFalsely : Prop := fnExactShadeOfRow.holds Try.pinned (OpenSpec.ofChange fnExactShadeOfWrong)

/-- 'laws.FnExactRainAt': WHATEVER THE INPUT: true; the input reads as it did. -/
def fnExactRainAtSpec : ChangeSpec := { name := "fnExactRainAt", fn := fun _ => fun
  | [d1, d2] => { results := [.lit (.bool true)], args := [d1, d2] }
  | _ => none }
def fnExactRainAtRow : OpenClaim := { program := "ytdpnkpgfepckdaa", sum := "f42777567ee7775e0aeaa4a397b6653a90350483280202574a3ce6e0a247593e", func := "loop.example/g01302/laws.FnExactRainAt", spec := "fnExactRainAt", inPlace := ["math.Float32bits"], apart := false }
def FnExactRainAtSaid : Prop := fnExactRainAtRow.holds Try.pinned (OpenSpec.ofChange fnExactRainAtSpec)

/-- ITS FALSE NEIGHBOUR: 'it returns false'. Refute it at one input. -/
def fnExactRainAtWrong : ChangeSpec := { name := "fnExactRainAt", fn := fun _ => fun
  | [d1, d2] => { results := [.lit (.bool false)], args := [d1, d2] }
  | _ => none }
def FnExactRainAtWrongFalsely : Prop := fnExactRainAtRow.holds Try.pinned (OpenSpec.ofChange fnExactRainAtWrong)

/- THE SECOND FORM. 'bulk': how many values and letters a reading holds, each counted each time it is reached (what is shared counts as often as it is met; a slice's spare places count too). A statement '..UptoSaid' is the law's where the arguments, and the package variables that the reading takes, are together of bulk at most 1048576: NARROWER than '..Said'. Prove '..Said' where nothing that the law and all that it calls make is longer than what came in: it says more and counts as full. Else prove '..UptoSaid'. A law counts once. -/
mutual
def uptoBulk {H : Type} : DataW H → Nat
  | .lit (.string bytes) => bytes.length + 1
  | .lit _ => 1
  | .nil => 1
  | .ptr d => uptoBulk d + 1
  | .slice elems spare => uptoBulkAll elems + uptoBulkAll spare + 1
  | .agg parts => uptoBulkAll parts + 1
  | .iface _ d => uptoBulk d + 1
  | .map entries => uptoBulkEntries entries + 1
  | .held _ => 1
def uptoBulkAll {H : Type} : List (DataW H) → Nat
  | [] => 0
  | d :: r => uptoBulk d + uptoBulkAll r
def uptoBulkEntries {H : Type} : List (Lit × DataW H) → Nat
  | [] => 0
  | x :: r => uptoBulkEntry x + uptoBulkEntries r
def uptoBulkEntry {H : Type} : Lit × DataW H → Nat
  | (.string bytes, d) => bytes.length + uptoBulk d + 1
  | (_, d) => uptoBulk d + 1
 end
def uptoSmall : (H : Type) → List (DataW H) → Bool := fun _ ds => decide (uptoBulkAll ds ≤ 1048576)
def OpenSpec.upto (s : _root_.Go.ChangeSpec) : _root_.Go.OpenSpec := { _root_.Go.OpenSpec.ofChange s with cond := some uptoSmall }

/-- 'laws.FnExactRainList', WHERE WHAT IT READS IS OF BULK AT MOST 1048576: true; the input reads as it did. -/
def fnExactRainListUptoRow : OpenClaim := { program := "ytdpnkpgfepckdaa", sum := "f42777567ee7775e0aeaa4a397b6653a90350483280202574a3ce6e0a247593e", func := "loop.example/g01302/laws.FnExactRainList", spec := "fnExactRainList", inPlace := ["math.Float32bits"], unfollowed := true, recurses := true, apart := false, narrowed := true }
def FnExactRainListUptoSaid : Prop := fnExactRainListUptoRow.holds Try.pinned (OpenSpec.upto fnExactRainListSpec)

/-- 'laws.FnExactStormsOf', WHERE WHAT IT READS IS OF BULK AT MOST 1048576: true; the input reads as it did. -/
def fnExactStormsOfUptoRow : OpenClaim := { program := "ytdpnkpgfepckdaa", sum := "f42777567ee7775e0aeaa4a397b6653a90350483280202574a3ce6e0a247593e", func := "loop.example/g01302/laws.FnExactStormsOf", spec := "fnExactStormsOf", inPlace := ["math.Float32bits"], unfollowed := true, recurses := true, apart := false, narrowed := true }
def FnExactStormsOfUptoSaid : Prop := fnExactStormsOfUptoRow.holds Try.pinned (OpenSpec.upto fnExactStormsOfSpec)

/-- 'laws.FnExactTiltAt', WHERE WHAT IT READS IS OF BULK AT MOST 1048576: true; the input reads as it did. -/
def fnExactTiltAtUptoRow : OpenClaim := { program := "ytdpnkpgfepckdaa", sum := "f42777567ee7775e0aeaa4a397b6653a90350483280202574a3ce6e0a247593e", func := "loop.example/g01302/laws.FnExactTiltAt", spec := "fnExactTiltAt", inPlace := ["math.Float32bits"], unfollowed := true, recurses := true, apart := false, narrowed := true }
def FnExactTiltAtUptoSaid : Prop := fnExactTiltAtUptoRow.holds Try.pinned (OpenSpec.upto fnExactTiltAtSpec)

/-- 'laws.FnExactShadeOf', WHERE WHAT IT READS IS OF BULK AT MOST 1048576: true; the input reads as it did. -/
def fnExactShadeOfUptoRow : OpenClaim := { program := "ytdpnkpgfepckdaa", sum := "f42777567ee7775e0aeaa4a397b6653a90350483280202574a3ce6e0a247593e", func := "loop.example/g01302/laws.FnExactShadeOf", spec := "fnExactShadeOf", inPlace := ["math.Float32frombits", "math.Float64frombits", "math.sqrt", "math.Float32bits", "math.Float64bits"], unfollowed := true, recurses := true, apart := false, narrowed := true }
def FnExactShadeOfUptoSaid : Prop := fnExactShadeOfUptoRow.holds Try.pinned (OpenSpec.upto fnExactShadeOfSpec)

/-- 'laws.FnExactRainAt', WHERE WHAT IT READS IS OF BULK AT MOST 1048576: true; the input reads as it did. -/
def fnExactRainAtUptoRow : OpenClaim := { program := "ytdpnkpgfepckdaa", sum := "f42777567ee7775e0aeaa4a397b6653a90350483280202574a3ce6e0a247593e", func := "loop.example/g01302/laws.FnExactRainAt", spec := "fnExactRainAt", inPlace := ["math.Float32bits"], apart := false, narrowed := true }
def FnExactRainAtUptoSaid : Prop := fnExactRainAtUptoRow.holds Try.pinned (OpenSpec.upto fnExactRainAtSpec)

end Rows
end Go.Proofs.Ytdpnkpgfepckdaa
