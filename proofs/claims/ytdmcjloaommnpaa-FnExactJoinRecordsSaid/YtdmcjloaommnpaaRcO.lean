/- Records that came in: what the walk is told of them. -/
import Derived.Test.YtdmcjloaommnpaaRowF
import Derived.ChangeArms
import Derived.Lib.SmallJoins
namespace Go.Proofs.Ytdmcjloaommnpaa
open Go.RowKit Go.Joins Go.ChangeShapes Go.WideShapes
set_option maxRecDepth 100000

theorem open_record {H : Type} {enc : TypeId × Value → H} {w : World} {base : Nat} {spare : Nat → Bool} {held : Bool} {r : Reach} {b0 : Nat} {v : Value} {d : DataW H} {p : List MemPlace}
    (hv : Value.okWide Try.prog w r b0 46 v) (h : DataW.Trod enc Try.prog w base spare held 46 v d p) :
    ∃ nm wide high a len cap zs, v = .agg #[.string nm, .int .i64 wide, .int .i64 high, .slice a len cap] ∧ nm.size ≤ maxLen ∧ (Lit.int .i64 wide).wf = true ∧ (Lit.int .i64 high).wf = true ∧ IsRowF .f32 w a len cap zs := by
  obtain ⟨v9, v0, v1, v2, y9, y0, y1, y2, n, rfl, _, _, t9, t0, t1, t2⟩ := open_agg4 Try.underlying46 (by kernel_rfl) (by kernel_rfl) hv h
  obtain ⟨wide, h0, _, w0⟩ := DataW.trod_int Try.underlying2 t0
  obtain ⟨high, h1, _, w1⟩ := DataW.trod_int Try.underlying2 t1
  obtain ⟨nm, h9, _, w9⟩ := DataW.trod_string Try.underlying9 t9
  obtain rfl : v9 = .string nm := by simpa using h9
  obtain rfl : v0 = .int .i64 wide := by simpa using h0
  obtain rfl : v1 = .int .i64 high := by simpa using h1
  rcases DataW.trod_slice Try.underlying22 t2 with ⟨h2, _⟩ | ⟨a, len, cap, _, _, _, _, h2, _⟩
  · obtain rfl : v2 = .slice none 0 0 := by simpa using h2
    obtain ⟨zs, hz⟩ := open_floats (a := none) (len := 0) (cap := 0) Try.underlying22 Try.underlying26 (by kernel_rfl) t2
    exact ⟨nm, wide, high, none, 0, 0, zs, rfl, w9, w0, w1, hz⟩
  · obtain rfl : v2 = .slice (some a) len cap := by simpa using h2
    obtain ⟨zs, hz⟩ := open_floats Try.underlying22 Try.underlying26 (by kernel_rfl) t2
    exact ⟨nm, wide, high, some a, len, cap, zs, rfl, w9, w0, w1, hz⟩
end Go.Proofs.Ytdmcjloaommnpaa
