/- Hills that came in: what the walk is told of them. -/
import Derived.Test.YtdpnkpgfepckdaaRowF
import Derived.ChangeArms
import Derived.Lib.SmallJoins
namespace Go.Proofs.Ytdpnkpgfepckdaa
open Go.RowKit Go.Joins Go.ChangeShapes Go.WideShapes
set_option maxRecDepth 100000

theorem open_hill {H : Type} {enc : TypeId × Value → H} {w : World} {base : Nat} {spare : Nat → Bool} {held : Bool} {r : Reach} {b0 : Nat} {v : Value} {d : DataW H} {p : List MemPlace}
    (hv : Value.okWide Try.prog w r b0 39 v) (h : DataW.Trod enc Try.prog w base spare held 39 v d p) :
    ∃ wide high a len cap zs, v = .agg #[.int .i64 wide, .int .i64 high, .slice a len cap] ∧ (Lit.int .i64 wide).wf = true ∧ (Lit.int .i64 high).wf = true ∧ IsRowF .f32 w a len cap zs := by
  obtain ⟨v0, v1, v2, y0, y1, y2, n, rfl, _, _, t0, t1, t2⟩ := open_agg3 Try.underlying39 (by kernel_rfl) (by kernel_rfl) hv h
  obtain ⟨wide, h0, _, w0⟩ := DataW.trod_int Try.underlying2 t0
  obtain ⟨high, h1, _, w1⟩ := DataW.trod_int Try.underlying2 t1
  obtain rfl : v0 = .int .i64 wide := by simpa using h0
  obtain rfl : v1 = .int .i64 high := by simpa using h1
  rcases DataW.trod_slice Try.underlying25 t2 with ⟨h2, _⟩ | ⟨a, len, cap, _, _, _, _, h2, _⟩
  · obtain rfl : v2 = .slice none 0 0 := by simpa using h2
    obtain ⟨zs, hz⟩ := open_floats (a := none) (len := 0) (cap := 0) Try.underlying25 Try.underlying23 (by kernel_rfl) t2
    exact ⟨wide, high, none, 0, 0, zs, rfl, w0, w1, hz⟩
  · obtain rfl : v2 = .slice (some a) len cap := by simpa using h2
    obtain ⟨zs, hz⟩ := open_floats Try.underlying25 Try.underlying23 (by kernel_rfl) t2
    exact ⟨wide, high, some a, len, cap, zs, rfl, w0, w1, hz⟩
end Go.Proofs.Ytdpnkpgfepckdaa
