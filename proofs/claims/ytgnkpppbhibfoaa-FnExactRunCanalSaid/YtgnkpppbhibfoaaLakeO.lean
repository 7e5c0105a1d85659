/- Lakes that came in: what the walk is told of them. -/
import Derived.Test.YtgnkpppbhibfoaaRowF
import Derived.ChangeArms
import Derived.Lib.SmallJoins
namespace Go.Proofs.Ytgnkpppbhibfoaa
open Go.RowKit Go.Joins Go.ChangeShapes Go.WideShapes
set_option maxRecDepth 100000

theorem open_row {H : Type} {enc : TypeId × Value → H} {w : World} {base : Nat} {spare : Nat → Bool} {held : Bool} {v : Value} {n : Nat} {y : DataW H × List MemPlace}
    (t : DataW.trod enc Try.prog w base spare held n 22 [v] = some y) : ∃ a len cap zs, v = .slice a len cap ∧ IsRowF .f32 w a len cap zs := by
  rcases DataW.trod_slice Try.underlying22 t with ⟨h2, _⟩ | ⟨a, len, cap, _, _, _, _, h2, _⟩
  · obtain rfl : v = .slice none 0 0 := by simpa using h2
    obtain ⟨zs, hz⟩ := open_floats (a := none) (len := 0) (cap := 0) Try.underlying22 Try.underlying23 (by kernel_rfl) t
    exact ⟨none, 0, 0, zs, rfl, hz⟩
  · obtain rfl : v = .slice (some a) len cap := by simpa using h2
    obtain ⟨zs, hz⟩ := open_floats Try.underlying22 Try.underlying23 (by kernel_rfl) t
    exact ⟨some a, len, cap, zs, rfl, hz⟩

theorem open_lake {H : Type} {enc : TypeId × Value → H} {w : World} {base : Nat} {spare : Nat → Bool} {held : Bool} {r : Reach} {b0 : Nat} {v : Value} {d : DataW H} {p : List MemPlace}
    (hv : Value.okWide Try.prog w r b0 57 v) (h : DataW.Trod enc Try.prog w base spare held 57 v d p) :
    ∃ a0 l0 c0 zs0 a1 l1 c1 zs1, v = .agg #[.slice a0 l0 c0, .slice a1 l1 c1] ∧ IsRowF .f32 w a0 l0 c0 zs0 ∧ IsRowF .f32 w a1 l1 c1 zs1 := by
  obtain ⟨v0, v1, y0, y1, n, rfl, _, _, t0, t1⟩ := open_agg2 Try.underlying57 (by kernel_rfl) (by kernel_rfl) hv h
  obtain ⟨a0, l0, c0, zs0, rfl, h0⟩ := open_row t0
  obtain ⟨a1, l1, c1, zs1, rfl, h1⟩ := open_row t1
  exact ⟨a0, l0, c0, zs0, a1, l1, c1, zs1, rfl, h0, h1⟩
end Go.Proofs.Ytgnkpppbhibfoaa
