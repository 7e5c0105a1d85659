/- Canals that came in: what the walk is told of them. -/
import Derived.Test.YtgnkpppbhibfoaaLakeO
import Derived.Deep.Fields
namespace Go.Proofs.Ytgnkpppbhibfoaa
open Go.RowKit Go.Joins Go.ChangeShapes Go.WideShapes Go.Deep
set_option maxRecDepth 100000

theorem list5 {α : Type} {l : List α} (h : l.length = 5) : ∃ a b c d e, l = [a, b, c, d, e] := by
  match l, h with
  | [a, b, c, d, e], _ => exact ⟨a, b, c, d, e, rfl⟩
theorem open_canal {H : Type} {enc : TypeId × Value → H} {w : World} {base : Nat} {spare : Nat → Bool} {held : Bool} {r : Reach} {b0 : Nat} {v : Value} {d : DataW H} {p : List MemPlace}
    (hv : Value.okWide Try.prog w r b0 42 v) (h : DataW.Trod enc Try.prog w base spare held 42 v d p) :
    ∃ n0 n1 n2 a0 l0 c0 zs0 a1 l1 c1 zs1, v = .agg #[.float .f32 n0, .float .f32 n1, .float .f32 n2, .slice a0 l0 c0, .slice a1 l1 c1] ∧ n0 < 4294967296 ∧ n1 < 4294967296 ∧ n2 < 4294967296 ∧ IsRowF .f32 w a0 l0 c0 zs0 ∧ IsRowF .f32 w a1 l1 c1 zs1 := by
  obtain ⟨⟨l⟩, rfl, hsz⟩ := okWide_struct Try.underlying42 hv
  obtain ⟨fuel, hd⟩ := h
  obtain ⟨xs, n, _, _, _, hlen, hg⟩ := DataW.trod_struct Try.underlying42 hd
  have hC : Try.prog.cellsOf 42 = 5 := by kernel_rfl
  obtain ⟨v0, v1, v2, v3, v4, rfl⟩ := list5 (show l.length = 5 by have := hsz.trans hC; simpa using this)
  obtain ⟨y0, y1, y2, y3, y4, rfl⟩ := list5 (show xs.length = 5 by simpa using hlen)
  have k41 : Try.prog.cellsOf 22 = 1 := by kernel_rfl
  have k22 : Try.prog.cellsOf 23 = 1 := by kernel_rfl
  have g0 : DataW.trod enc Try.prog w base spare held n 23 (([v0, v1, v2, v3, v4].drop 0).take (Try.prog.cellsOf 23)) = some y0 := hg 0 _ rfl
  rw [k22] at g0
  have g1 : DataW.trod enc Try.prog w base spare held n 23 (([v0, v1, v2, v3, v4].drop 1).take (Try.prog.cellsOf 23)) = some y1 := hg 1 _ rfl
  rw [k22] at g1
  have g2 : DataW.trod enc Try.prog w base spare held n 23 (([v0, v1, v2, v3, v4].drop 2).take (Try.prog.cellsOf 23)) = some y2 := hg 2 _ rfl
  rw [k22] at g2
  have g3 : DataW.trod enc Try.prog w base spare held n 22 (([v0, v1, v2, v3, v4].drop 3).take (Try.prog.cellsOf 22)) = some y3 := hg 3 _ rfl
  rw [k41] at g3
  have g4 : DataW.trod enc Try.prog w base spare held n 22 (([v0, v1, v2, v3, v4].drop 4).take (Try.prog.cellsOf 22)) = some y4 := hg 4 _ rfl
  rw [k41] at g4
  obtain ⟨n0, e0, _, w0⟩ := trod_float (cs := [v0]) Try.underlying23 g0
  obtain rfl : v0 = .float .f32 n0 := by simpa using e0
  obtain ⟨n1, e1, _, w1⟩ := trod_float (cs := [v1]) Try.underlying23 g1
  obtain rfl : v1 = .float .f32 n1 := by simpa using e1
  obtain ⟨n2, e2, _, w2⟩ := trod_float (cs := [v2]) Try.underlying23 g2
  obtain rfl : v2 = .float .f32 n2 := by simpa using e2
  obtain ⟨a0, l0, c0, zs0, rfl, h0⟩ := open_row (v := v3) g3
  obtain ⟨a1, l1, c1, zs1, rfl, h1⟩ := open_row (v := v4) g4
  exact ⟨n0, n1, n2, a0, l0, c0, zs0, a1, l1, c1, zs1, rfl, by simpa [Lit.wf] using w0, by simpa [Lit.wf] using w1, by simpa [Lit.wf] using w2, h0, h1⟩
end Go.Proofs.Ytgnkpppbhibfoaa
