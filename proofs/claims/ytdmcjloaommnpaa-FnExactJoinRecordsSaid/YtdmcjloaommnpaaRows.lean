/-
  No cell of these rows narrows 'for every input' (looked for: loops, veiled, ifaces, maps, wideKeys, modest, calm, conditions, laid).
  DERIVED. THE GIVEN ROWS OF THIS SEAT. 12 by the template 'for every input the law returns true; each argument reads behind the call as it read before'; 0 by the template 'total and deterministic' (their statements: YtdmcjloaommnpaaTotals.lean).
  GIVEN WITH THE SEED: the statements are not yours to turn. If you find one false, say at which input.
  Laid BY PROGRAM, IN A SANDBOX (cutbox-rows.mjs): the forced cells as the released guide's own fill.sh prints them over the translation bb2d046f93b8ce8c… (all of the seat's roots in one cut). By AI agents, Wed Nov 11 2026. No macro, syntax, notation, axiom, sorry.
-/
import Derived.Test.YtdmcjloaommnpaaChecked
import GoSem.Claim
import GoSem.ClaimJoined
import GoSem.ClaimMapViews
import Derived.JoinedTies
import Derived.KernelRfl
namespace Go.Proofs.Ytdmcjloaommnpaa
/- THE CELL 'sum', in the pinned program and in every row, IS THE sha256 OF THE DUMP (.gsa) THAT YtdmcjloaommnpaaProg.lean LOADS. Nothing in Lean hashes anything: it is a label: what it is worth is what the hold of that sum in a sandbox is worth. -/
noncomputable def Try.pinned : Pinned := { name := "ytdmcjloaommnpaa", sum := "bb2d046f93b8ce8c831d45230061f82af41b7a0e746b1ff258d38792b152fa3f", checked := Try.checked }
namespace Rows
def none {H : Type} : Left H := { results := [], args := [] }

/-- 'laws.FnExactIsGauge': WHATEVER THE INPUT: true; the input reads as it did. -/
def fnExactIsGaugeSpec : ChangeSpec := { name := "fnExactIsGauge", fn := fun _ => fun
  | [d] => { results := [.lit (.bool true)], args := [d] }
  | _ => none }
def fnExactIsGaugeRow : OpenClaim := { program := "ytdmcjloaommnpaa", sum := "bb2d046f93b8ce8c831d45230061f82af41b7a0e746b1ff258d38792b152fa3f", func := "loop.example/g01302/laws.FnExactIsGauge", spec := "fnExactIsGauge", inPlace := ["math.Float32bits"], unfollowed := true, recurses := true, apart := false }
def FnExactIsGaugeSaid : Prop := fnExactIsGaugeRow.holds Try.pinned (OpenSpec.ofChange fnExactIsGaugeSpec)

/-- ITS FALSE NEIGHBOUR: 'it returns false'. Refute it at one input. -/
def fnExactIsGaugeWrong : ChangeSpec := { name := "fnExactIsGauge", fn := fun _ => fun
  | [d] => { results := [.lit (.bool false)], args := [d] }
  | _ => none }
def FnExactIsGaugeWrongFalsely : Prop := fnExactIsGaugeRow.holds Try.pinned (OpenSpec.ofChange fnExactIsGaugeWrong)

/-- 'laws.FnExactFloodOf': WHATEVER THE INPUT: true; the input reads as it did. -/
def fnExactFloodOfSpec : ChangeSpec := { name := "fnExactFloodOf", fn := fun _ => fun
  | [d1, d2, d3] => { results := [.lit (.bool true)], args := [d1, d2, d3] }
  | _ => none }
def fnExactFloodOfRow : OpenClaim := { program := "ytdmcjloaommnpaa", sum := "bb2d046f93b8ce8c831d45230061f82af41b7a0e746b1ff258d38792b152fa3f", func := "loop.example/g01302/laws.FnExactFloodOf", spec := "fnExactFloodOf", inPlace := ["math.Float64frombits", "math.Float64bits", "math.Float32bits"], apart := false }
def FnExactFloodOfSaid : Prop := fnExactFloodOfRow.holds Try.pinned (OpenSpec.ofChange fnExactFloodOfSpec)

/-- ITS FALSE NEIGHBOUR: 'it returns false'. Refute it at one input. -/
def fnExactFloodOfWrong : ChangeSpec := { name := "fnExactFloodOf", fn := fun _ => fun
  | [d1, d2, d3] => { results := [.lit (.bool false)], args := [d1, d2, d3] }
  | _ => none }
def FnExactFloodOfWrongFalsely : Prop := fnExactFloodOfRow.holds Try.pinned (OpenSpec.ofChange fnExactFloodOfWrong)

/-- 'laws.FnExactFitFloods': WHATEVER THE INPUT: true; the input reads as it did. -/
def fnExactFitFloodsSpec : ChangeSpec := { name := "fnExactFitFloods", fn := fun _ => fun
  | [d] => { results := [.lit (.bool true)], args := [d] }
  | _ => none }
def fnExactFitFloodsRow : OpenClaim := { program := "ytdmcjloaommnpaa", sum := "bb2d046f93b8ce8c831d45230061f82af41b7a0e746b1ff258d38792b152fa3f", func := "loop.example/g01302/laws.FnExactFitFloods", spec := "fnExactFitFloods", inPlace := ["math.sqrt", "math.Float32bits"], unfollowed := true, recurses := true, apart := false }
def FnExactFitFloodsSaid : Prop := fnExactFitFloodsRow.holds Try.pinned (OpenSpec.ofChange fnExactFitFloodsSpec)

/-- ITS FALSE NEIGHBOUR: 'it returns false'. Refute it at one input. -/
def fnExactFitFloodsWrong : ChangeSpec := { name := "fnExactFitFloods", fn := fun _ => fun
  | [d] => { results := [.lit (.bool false)], args := [d] }
  | _ => none }
def FnExactFitFloodsWrongFalsely : Prop := fnExactFitFloodsRow.holds Try.pinned (OpenSpec.ofChange fnExactFitFloodsWrong)

/-- 'laws.FnExactScoreOf': WHATEVER THE INPUT: true; the input reads as it did. -/
def fnExactScoreOfSpec : ChangeSpec := { name := "fnExactScoreOf", fn := fun _ => fun
  | [d1, d2] => { results := [.lit (.bool true)], args := [d1, d2] }
  | _ => none }
def fnExactScoreOfRow : OpenClaim := { program := "ytdmcjloaommnpaa", sum := "bb2d046f93b8ce8c831d45230061f82af41b7a0e746b1ff258d38792b152fa3f", func := "loop.example/g01302/laws.FnExactScoreOf", spec := "fnExactScoreOf", inPlace := ["math.Float32bits"], unfollowed := true, recurses := true, apart := false }
def FnExactScoreOfSaid : Prop := fnExactScoreOfRow.holds Try.pinned (OpenSpec.ofChange fnExactScoreOfSpec)

/-- ITS FALSE NEIGHBOUR: 'it returns false'. Refute it at one input. -/
def fnExactScoreOfWrong : ChangeSpec := { name := "fnExactScoreOf", fn := fun _ => fun
  | [d1, d2] => { results := [.lit (.bool false)], args := [d1, d2] }
  | _ => none }
def FnExactScoreOfWrongFalsely : Prop := fnExactScoreOfRow.holds Try.pinned (OpenSpec.ofChange fnExactScoreOfWrong)

/-- 'laws.FnExactRecedeRate': WHATEVER THE INPUT: true; the input reads as it did. -/
def fnExactRecedeRateSpec : ChangeSpec := { name := "fnExactRecedeRate", fn := fun _ => fun
  | [d] => { results := [.lit (.bool true)], args := [d] }
  | _ => none }
def fnExactRecedeRateRow : OpenClaim := { program := "ytdmcjloaommnpaa", sum := "bb2d046f93b8ce8c831d45230061f82af41b7a0e746b1ff258d38792b152fa3f", func := "loop.example/g01302/laws.FnExactRecedeRate", spec := "fnExactRecedeRate", inPlace := ["math.Float64frombits", "math.Float64bits", "math.Float32bits"], unfollowed := true, recurses := true, apart := false }
def FnExactRecedeRateSaid : Prop := fnExactRecedeRateRow.holds Try.pinned (OpenSpec.ofChange fnExactRecedeRateSpec)

/-- ITS FALSE NEIGHBOUR: 'it returns false'. Refute it at one input. -/
def fnExactRecedeRateWrong : ChangeSpec := { name := "fnExactRecedeRate", fn := fun _ => fun
  | [d] => { results := [.lit (.bool false)], args := [d] }
  | _ => none }
def FnExactRecedeRateWrongFalsely : Prop := fnExactRecedeRateRow.holds Try.pinned (OpenSpec.ofChange fnExactRecedeRateWrong)

/-- 'laws.FnExactDroughtsIn': WHATEVER THE INPUT: true; the input reads as it did. -/
def fnExactDroughtsInSpec : ChangeSpec := { name := "fnExactDroughtsIn", fn := fun _ => fun
  | [d1, d2] => { results := [.lit (.bool true)], args := [d1, d2] }
  | _ => none }
def fnExactDroughtsInRow : OpenClaim := { program := "ytdmcjloaommnpaa", sum := "bb2d046f93b8ce8c831d45230061f82af41b7a0e746b1ff258d38792b152fa3f", func := "loop.example/g01302/laws.FnExactDroughtsIn", spec := "fnExactDroughtsIn", inPlace := ["math.Float32bits"], unfollowed := true, recurses := true, apart := false }
def FnExactDroughtsInSaid : Prop := fnExactDroughtsInRow.holds Try.pinned (OpenSpec.ofChange fnExactDroughtsInSpec)

/-- ITS FALSE NEIGHBOUR: 'it returns false'. Refute it at one input. -/
def fnExactDroughtsInWrong : ChangeSpec := { name := "fnExactDroughtsIn", fn := fun _ => fun
  | [d1, d2] => { results := [.lit (.bool false)], args := [d1, d2] }
  | _ => none }
def FnExactDroughtsInWrongFalsely : Prop := fnExactDroughtsInRow.holds Try.pinned (OpenSpec.ofChange fnExactDroughtsInWrong)

/-- 'laws.FnExactBestLag': WHATEVER THE INPUT: true; the input reads as it did. -/
def fnExactBestLagSpec : ChangeSpec := { name := "fnExactBestLag", fn := fun _ => fun
  | [d1, d2, d3] => { results := [.lit (.bool true)], args := [d1, d2, d3] }
  | _ => none }
def fnExactBestLagRow : OpenClaim := { program := "ytdmcjloaommnpaa", sum := "bb2d046f93b8ce8c831d45230061f82af41b7a0e746b1ff258d38792b152fa3f", func := "loop.example/g01302/laws.FnExactBestLag", spec := "fnExactBestLag", inPlace := ["math.Float32bits"], unfollowed := true, recurses := true, apart := false }
def FnExactBestLagSaid : Prop := fnExactBestLagRow.holds Try.pinned (OpenSpec.ofChange fnExactBestLagSpec)

/-- ITS FALSE NEIGHBOUR: 'it returns false'. Refute it at one input. -/
def fnExactBestLagWrong : ChangeSpec := { name := "fnExactBestLag", fn := fun _ => fun
  | [d1, d2, d3] => { results := [.lit (.bool false)], args := [d1, d2, d3] }
  | _ => none }
def FnExactBestLagWrongFalsely : Prop := fnExactBestLagRow.holds Try.pinned (OpenSpec.ofChange fnExactBestLagWrong)

/-- 'laws.FnExactBaseFlow': WHATEVER THE INPUT: true; the input reads as it did. -/
def fnExactBaseFlowSpec : ChangeSpec := { name := "fnExactBaseFlow", fn := fun _ => fun
  | [d1, d2] => { results := [.lit (.bool true)], args := [d1, d2] }
  | _ => none }
def fnExactBaseFlowRow : OpenClaim := { program := "ytdmcjloaommnpaa", sum := "bb2d046f93b8ce8c831d45230061f82af41b7a0e746b1ff258d38792b152fa3f", func := "loop.example/g01302/laws.FnExactBaseFlow", spec := "fnExactBaseFlow", inPlace := ["math.Float32bits"], unfollowed := true, recurses := true, apart := false }
def FnExactBaseFlowSaid : Prop := fnExactBaseFlowRow.holds Try.pinned (OpenSpec.ofChange fnExactBaseFlowSpec)

/-- ITS FALSE NEIGHBOUR: 'it returns false'. Refute it at one input. -/
def fnExactBaseFlowWrong : ChangeSpec := { name := "fnExactBaseFlow", fn := fun _ => fun
  | [d1, d2] => { results := [.lit (.bool false)], args := [d1, d2] }
  | _ => none }
def FnExactBaseFlowWrongFalsely : Prop := fnExactBaseFlowRow.holds Try.pinned (OpenSpec.ofChange fnExactBaseFlowWrong)

/-- 'laws.FnExactValidRecord': WHATEVER THE INPUT: true; the input reads as it did. -/
def fnExactValidRecordSpec : ChangeSpec := { name := "fnExactValidRecord", fn := fun _ => fun
  | [d] => { results := [.lit (.bool true)], args := [d] }
  | _ => none }
def fnExactValidRecordRow : OpenClaim := { program := "ytdmcjloaommnpaa", sum := "bb2d046f93b8ce8c831d45230061f82af41b7a0e746b1ff258d38792b152fa3f", func := "loop.example/g01302/laws.FnExactValidRecord", spec := "fnExactValidRecord", apart := false }
def FnExactValidRecordSaid : Prop := fnExactValidRecordRow.holds Try.pinned (OpenSpec.ofChange fnExactValidRecordSpec)

/-- ITS FALSE NEIGHBOUR: 'it returns false'. Refute it at one input. -/
def fnExactValidRecordWrong : ChangeSpec := { name := "fnExactValidRecord", fn := fun _ => fun
  | [d] => { results := [.lit (.bool false)], args := [d] }
  | _ => none }
def FnExactValidRecordWrongFalsely : Prop := fnExactValidRecordRow.holds Try.pinned (OpenSpec.ofChange fnExactValidRecordWrong)

/-- 'laws.FnExactCutRecord': WHATEVER THE INPUT: true; the input reads as it did. -/
def fnExactCutRecordSpec : ChangeSpec := { name := "fnExactCutRecord", fn := fun _ => fun
  | [d1, d2, d3] => { results := [.lit (.bool true)], args := [d1, d2, d3] }
  | _ => none }
def fnExactCutRecordRow : OpenClaim := { program := "ytdmcjloaommnpaa", sum := "bb2d046f93b8ce8c831d45230061f82af41b7a0e746b1ff258d38792b152fa3f", func := "loop.example/g01302/laws.FnExactCutRecord", spec := "fnExactCutRecord", apart := false }
def FnExactCutRecordSaid : Prop := fnExactCutRecordRow.holds Try.pinned (OpenSpec.ofChange fnExactCutRecordSpec)

/-- ITS FALSE NEIGHBOUR: 'it returns false'. Refute it at one input. -/
def fnExactCutRecordWrong : ChangeSpec := { name := "fnExactCutRecord", fn := fun _ => fun
  | [d1, d2, d3] => { results := [.lit (.bool false)], args := [d1, d2, d3] }
  | _ => none }
def FnExactCutRecordWrongFalsely : Prop := fnExactCutRecordRow.holds Try.pinned (OpenSpec.ofChange fnExactCutRecordWrong)

/-- 'laws.FnExactJoinRecords': WHATEVER THE INPUT: true; the input reads as it did. -/
def fnExactJoinRecordsSpec : ChangeSpec := { name := "fnExactJoinRecords", fn := fun _ => fun
  | [d1, d2] => { results := [.lit (.bool true)], args := [d1, d2] }
  | _ => none }
def fnExactJoinRecordsRow : OpenClaim := { program := "ytdmcjloaommnpaa", sum := "bb2d046f93b8ce8c831d45230061f82af41b7a0e746b1ff258d38792b152fa3f", func := "loop.example/g01302/laws.FnExactJoinRecords", spec := "fnExactJoinRecords", apart := false }
def FnExactJoinRecordsSaid : Prop := fnExactJoinRecordsRow.holds Try.pinned (OpenSpec.ofChange fnExactJoinRecordsSpec)

/-- ITS FALSE NEIGHBOUR: 'it returns false'. Refute it at one input. -/
def fnExactJoinRecordsWrong : ChangeSpec := { name := "fnExactJoinRecords", fn := fun _ => fun
  | [d1, d2] => { results := [.lit (.bool false)], args := [d1, d2] }
  | _ => none }
def FnExactJoinRecordsWrongFalsely : Prop := fnExactJoinRecordsRow.holds Try.pinned (OpenSpec.ofChange fnExactJoinRecordsWrong)

/-- 'laws.FnExactFillGaps': WHATEVER THE INPUT: true; the input reads as it did. -/
def fnExactFillGapsSpec : ChangeSpec := { name := "fnExactFillGaps", fn := fun _ => fun
  | [d1, d2] => { results := [.lit (.bool true)], args := [d1, d2] }
  | _ => none }
def fnExactFillGapsRow : OpenClaim := { program := "ytdmcjloaommnpaa", sum := "bb2d046f93b8ce8c831d45230061f82af41b7a0e746b1ff258d38792b152fa3f", func := "loop.example/g01302/laws.FnExactFillGaps", spec := "fnExactFillGaps", inPlace := ["math.Float32bits"], unfollowed := true, recurses := true, apart := false }
def FnExactFillGapsSaid : Prop := fnExactFillGapsRow.holds Try.pinned (OpenSpec.ofChange fnExactFillGapsSpec)

/-- ITS FALSE NEIGHBOUR: 'it returns false'. Refute it at one input. -/
def fnExactFillGapsWrong : ChangeSpec := { name := "fnExactFillGaps", fn := fun _ => fun
  | [d1, d2] => { results := [.lit (.bool false)], args := [d1, d2] }
  | _ => none }
def FnExactFillGapsWrongFalsely : Prop := fnExactFillGapsRow.holds Try.pinned (OpenSpec.ofChange fnExactFillGapsWrong)

/- THE SECOND FORM. 'bulk': how many values and letters a reading holds, each counted each time it is reached (what is shared counts as often as it is met; a slice's spare places count too). A statement '..UptoSaid' is the law's where the arguments, and the package variables that the reading takes, are together of bulk at most 1048576: NARROWER than '..Said'. Prove '..Said' where nothing that the law and all that it calls make is longer than what came in: it says more and counts as full. Else prove '..UptoSaid'. A law counts once. -/
mutual
def uptoBulk {H : Type} : DataW H → Nat
  | .lit (.string bytes) => bytes.length + 1
  | .lit _ => 1
  | .nil => 1
  | .ptr d => uptoBulk d + 1
  | .slice elems spare => uptoBulkAll elems + uptoBulkAll spare + 1
  | .agg parts => uptoBulkAll parts + 1
  | .iface _ d => uptoBulk d + 1
  | .map entries => uptoBulkEntries entries + 1
  | .held _ => 1
def uptoBulkAll {H : Type} : List (DataW H) → Nat
  | [] => 0
  | d :: r => uptoBulk d + uptoBulkAll r
def uptoBulkEntries {H : Type} : List (Lit × DataW H) → Nat
  | [] => 0
  | x :: r => uptoBulkEntry x + uptoBulkEntries r
def uptoBulkEntry {H : Type} : Lit × DataW H → Nat
  | (.string bytes, d) => bytes.length + uptoBulk d + 1
  | (_, d) => uptoBulk d + 1
 end
def uptoSmall : (H : Type) → List (DataW H) → Bool := fun _ ds => decide (uptoBulkAll ds ≤ 1048576)
def OpenSpec.upto (s : _root_.Go.ChangeSpec) : _root_.Go.OpenSpec := { _root_.Go.OpenSpec.ofChange s with cond := some uptoSmall }

/-- 'laws.FnExactIsGauge', WHERE WHAT IT READS IS OF BULK AT MOST 1048576: true; the input reads as it did. -/
def fnExactIsGaugeUptoRow : OpenClaim := { program := "ytdmcjloaommnpaa", sum := "bb2d046f93b8ce8c831d45230061f82af41b7a0e746b1ff258d38792b152fa3f", func := "loop.example/g01302/laws.FnExactIsGauge", spec := "fnExactIsGauge", inPlace := ["math.Float32bits"], unfollowed := true, recurses := true, apart := false, narrowed := true }
def FnExactIsGaugeUptoSaid : Prop := fnExactIsGaugeUptoRow.holds Try.pinned (OpenSpec.upto fnExactIsGaugeSpec)

/-- 'laws.FnExactFloodOf', WHERE WHAT IT READS IS OF BULK AT MOST 1048576: true; the input reads as it did. -/
def fnExactFloodOfUptoRow : OpenClaim := { program := "ytdmcjloaommnpaa", sum := "bb2d046f93b8ce8c831d45230061f82af41b7a0e746b1ff258d38792b152fa3f", func := "loop.example/g01302/laws.FnExactFloodOf", spec := "fnExactFloodOf", inPlace := ["math.Float64frombits", "math.Float64bits", "math.Float32bits"], apart := false, narrowed := true }
def FnExactFloodOfUptoSaid : Prop := fnExactFloodOfUptoRow.holds Try.pinned (OpenSpec.upto fnExactFloodOfSpec)

/-- 'laws.FnExactFitFloods', WHERE WHAT IT READS IS OF BULK AT MOST 1048576: true; the input reads as it did. -/
def fnExactFitFloodsUptoRow : OpenClaim := { program := "ytdmcjloaommnpaa", sum := "bb2d046f93b8ce8c831d45230061f82af41b7a0e746b1ff258d38792b152fa3f", func := "loop.example/g01302/laws.FnExactFitFloods", spec := "fnExactFitFloods", inPlace := ["math.sqrt", "math.Float32bits"], unfollowed := true, recurses := true, apart := false, narrowed := true }
def FnExactFitFloodsUptoSaid : Prop := fnExactFitFloodsUptoRow.holds Try.pinned (OpenSpec.upto fnExactFitFloodsSpec)

/-- 'laws.FnExactScoreOf', WHERE WHAT IT READS IS OF BULK AT MOST 1048576: true; the input reads as it did. -/
def fnExactScoreOfUptoRow : OpenClaim := { program := "ytdmcjloaommnpaa", sum := "bb2d046f93b8ce8c831d45230061f82af41b7a0e746b1ff258d38792b152fa3f", func := "loop.example/g01302/laws.FnExactScoreOf", spec := "fnExactScoreOf", inPlace := ["math.Float32bits"], unfollowed := true, recurses := true, apart := false, narrowed := true }
def FnExactScoreOfUptoSaid : Prop := fnExactScoreOfUptoRow.holds Try.pinned (OpenSpec.upto fnExactScoreOfSpec)

/-- 'laws.FnExactRecedeRate', WHERE WHAT IT READS IS OF BULK AT MOST 1048576: true; the input reads as it did. -/
def fnExactRecedeRateUptoRow : OpenClaim := { program := "ytdmcjloaommnpaa", sum := "bb2d046f93b8ce8c831d45230061f82af41b7a0e746b1ff258d38792b152fa3f", func := "loop.example/g01302/laws.FnExactRecedeRate", spec := "fnExactRecedeRate", inPlace := ["math.Float64frombits", "math.Float64bits", "math.Float32bits"], unfollowed := true, recurses := true, apart := false, narrowed := true }
def FnExactRecedeRateUptoSaid : Prop := fnExactRecedeRateUptoRow.holds Try.pinned (OpenSpec.upto fnExactRecedeRateSpec)

/-- 'laws.FnExactDroughtsIn', WHERE WHAT IT READS IS OF BULK AT MOST 1048576: true; the input reads as it did. -/
def fnExactDroughtsInUptoRow : OpenClaim := { program := "ytdmcjloaommnpaa", sum := "bb2d046f93b8ce8c831d45230061f82af41b7a0e746b1ff258d38792b152fa3f", func := "loop.example/g01302/laws.FnExactDroughtsIn", spec := "fnExactDroughtsIn", inPlace := ["math.Float32bits"], unfollowed := true, recurses := true, apart := false, narrowed := true }
def FnExactDroughtsInUptoSaid : Prop := fnExactDroughtsInUptoRow.holds Try.pinned (OpenSpec.upto fnExactDroughtsInSpec)

/-- 'laws.FnExactBestLag', WHERE WHAT IT READS IS OF BULK AT MOST 1048576: true; the input reads as it did. -/
def fnExactBestLagUptoRow : OpenClaim := { program := "ytdmcjloaommnpaa", sum := "bb2d046f93b8ce8c831d45230061f82af41b7a0e746b1ff258d38792b152fa3f", func := "loop.example/g01302/laws.FnExactBestLag", spec := "fnExactBestLag", inPlace := ["math.Float32bits"], unfollowed := true, recurses := true, apart := false, narrowed := true }
def FnExactBestLagUptoSaid : Prop := fnExactBestLagUptoRow.holds Try.pinned (OpenSpec.upto fnExactBestLagSpec)

/-- 'laws.FnExactBaseFlow', WHERE WHAT IT READS IS OF BULK AT MOST 1048576: true; the input reads as it did. -/
def fnExactBaseFlowUptoRow : OpenClaim := { program := "ytdmcjloaommnpaa", sum := "bb2d046f93b8ce8c831d45230061f82af41b7a0e746b1ff258d38792b152fa3f", func := "loop.example/g01302/laws.FnExactBaseFlow", spec := "fnExactBaseFlow", inPlace := ["math.Float32bits"], unfollowed := true, recurses := true, apart := false, narrowed := true }
def FnExactBaseFlowUptoSaid : Prop := fnExactBaseFlowUptoRow.holds Try.pinned (OpenSpec.upto fnExactBaseFlowSpec)

/-- 'laws.FnExactValidRecord', WHERE WHAT IT READS IS OF BULK AT MOST 1048576: true; the input reads as it did. -/
def fnExactValidRecordUptoRow : OpenClaim := { program := "ytdmcjloaommnpaa", sum := "bb2d046f93b8ce8c831d45230061f82af41b7a0e746b1ff258d38792b152fa3f", func := "loop.example/g01302/laws.FnExactValidRecord", spec := "fnExactValidRecord", apart := false, narrowed := true }
def FnExactValidRecordUptoSaid : Prop := fnExactValidRecordUptoRow.holds Try.pinned (OpenSpec.upto fnExactValidRecordSpec)

/-- 'laws.FnExactCutRecord', WHERE WHAT IT READS IS OF BULK AT MOST 1048576: true; the input reads as it did. -/
def fnExactCutRecordUptoRow : OpenClaim := { program := "ytdmcjloaommnpaa", sum := "bb2d046f93b8ce8c831d45230061f82af41b7a0e746b1ff258d38792b152fa3f", func := "loop.example/g01302/laws.FnExactCutRecord", spec := "fnExactCutRecord", apart := false, narrowed := true }
def FnExactCutRecordUptoSaid : Prop := fnExactCutRecordUptoRow.holds Try.pinned (OpenSpec.upto fnExactCutRecordSpec)

/-- 'laws.FnExactJoinRecords', WHERE WHAT IT READS IS OF BULK AT MOST 1048576: true; the input reads as it did. -/
def fnExactJoinRecordsUptoRow : OpenClaim := { program := "ytdmcjloaommnpaa", sum := "bb2d046f93b8ce8c831d45230061f82af41b7a0e746b1ff258d38792b152fa3f", func := "loop.example/g01302/laws.FnExactJoinRecords", spec := "fnExactJoinRecords", apart := false, narrowed := true }
def FnExactJoinRecordsUptoSaid : Prop := fnExactJoinRecordsUptoRow.holds Try.pinned (OpenSpec.upto fnExactJoinRecordsSpec)

/-- 'laws.FnExactFillGaps', WHERE WHAT IT READS IS OF BULK AT MOST 1048576: true; the input reads as it did. -/
def fnExactFillGapsUptoRow : OpenClaim := { program := "ytdmcjloaommnpaa", sum := "bb2d046f93b8ce8c831d45230061f82af41b7a0e746b1ff258d38792b152fa3f", func := "loop.example/g01302/laws.FnExactFillGaps", spec := "fnExactFillGaps", inPlace := ["math.Float32bits"], unfollowed := true, recurses := true, apart := false, narrowed := true }
def FnExactFillGapsUptoSaid : Prop := fnExactFillGapsUptoRow.holds Try.pinned (OpenSpec.upto fnExactFillGapsSpec)

end Rows
end Go.Proofs.Ytdmcjloaommnpaa
