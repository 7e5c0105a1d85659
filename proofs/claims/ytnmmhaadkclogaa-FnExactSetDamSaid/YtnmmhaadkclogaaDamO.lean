/- A dam that came in. -/
import Derived.Test.YtnmmhaadkclogaaRivO
namespace Go.Proofs.Ytnmmhaadkclogaa
open Go.RowKit Go.Joins Go.ChangeShapes Go.WideShapes Go.Deep
set_option linter.unusedVariables false
set_option maxRecDepth 100000
theorem open_dam {H : Type} {enc : TypeId × Value → H} {w : World} {base : Nat} {spare : Nat → Bool} {held : Bool} {r : Reach} {b0 : Nat} {v : Value} {d : DataW H} {p : List MemPlace}
    (hv : Value.okWide Try.prog w r b0 35 v) (h : DataW.Trod enc Try.prog w base spare held 35 v d p) :
    ∃ z0 z1 z2 z3 : Int, v = .agg #[.int .i64 z0, .int .i64 z1, .int .i64 z2, .int .i64 z3] := by
  obtain ⟨⟨l⟩, rfl, hsz⟩ := okWide_struct Try.underlying35 hv
  obtain ⟨fuel, hd⟩ := h
  obtain ⟨xs, n', _, _, _, hlen, hg⟩ := DataW.trod_struct Try.underlying35 hd
  have hC : Try.prog.cellsOf 35 = 4 := by kernel_rfl
  have k1 : Try.prog.cellsOf 2 = 1 := by kernel_rfl
  obtain ⟨v0, v1, v2, v3, rfl⟩ := list4 (show l.length = 4 by have := hsz.trans hC; simpa using this)
  obtain ⟨y0, y1, y2, y3, rfl⟩ := list4 (show xs.length = 4 by simpa using hlen)
  have g0 : DataW.trod enc Try.prog w base spare held n' 2 (([v0, v1, v2, v3].drop 0).take (Try.prog.cellsOf 2)) = some y0 := hg 0 _ rfl
  have g1 : DataW.trod enc Try.prog w base spare held n' 2 (([v0, v1, v2, v3].drop 1).take (Try.prog.cellsOf 2)) = some y1 := hg 1 _ rfl
  have g2 : DataW.trod enc Try.prog w base spare held n' 2 (([v0, v1, v2, v3].drop 2).take (Try.prog.cellsOf 2)) = some y2 := hg 2 _ rfl
  have g3 : DataW.trod enc Try.prog w base spare held n' 2 (([v0, v1, v2, v3].drop 3).take (Try.prog.cellsOf 2)) = some y3 := hg 3 _ rfl
  rw [k1] at g0 g1 g2 g3
  obtain ⟨z0, e0, _, _⟩ := DataW.trod_int (cs := [v0]) Try.underlying2 g0
  obtain ⟨z1, e1, _, _⟩ := DataW.trod_int (cs := [v1]) Try.underlying2 g1
  obtain ⟨z2, e2, _, _⟩ := DataW.trod_int (cs := [v2]) Try.underlying2 g2
  obtain ⟨z3, e3, _, _⟩ := DataW.trod_int (cs := [v3]) Try.underlying2 g3
  obtain rfl : v0 = .int .i64 z0 := by simpa using e0
  obtain rfl : v1 = .int .i64 z1 := by simpa using e1
  obtain rfl : v2 = .int .i64 z2 := by simpa using e2
  obtain rfl : v3 = .int .i64 z3 := by simpa using e3
  exact ⟨z0, z1, z2, z3, rfl⟩
end Go.Proofs.Ytnmmhaadkclogaa
