/- Rivers that came in: what the walk is told of them. -/
import Derived.Test.YtckmacnmmloemaaRivH
import Derived.Deep.Slices
import Derived.Deep.Fields
import Derived.ChangeSlices
import Derived.Lib.SmallJoins
namespace Go.Proofs.Ytckmacnmmloemaa
open Go.RowKit Go.Joins Go.ChangeShapes Go.WideShapes Go.Deep
set_option linter.unusedVariables false
set_option maxRecDepth 100000

theorem list3 {α : Type} {l : List α} (h : l.length = 3) : ∃ a b c, l = [a, b, c] := by
  match l, h with
  | [a, b, c], _ => exact ⟨a, b, c, rfl⟩
theorem list4 {α : Type} {l : List α} (h : l.length = 4) : ∃ a b c d, l = [a, b, c, d] := by
  match l, h with
  | [a, b, c, d], _ => exact ⟨a, b, c, d, rfl⟩
def IsZ (z : Int) : Prop := -9223372036854775808 ≤ z ∧ z ≤ 9223372036854775807
/-- A slice of integers, or of structs of s integers, that came in. -/
def IsRowS (w : World) (s : Nat) (a : Option Addr) (len cap : Nat) (zs : List Int) : Prop := zs.length = len * s ∧ len ≤ cap ∧ cap ≤ maxLen ∧ RowC w a (ic zs) ∧ ∀ z ∈ zs, IsZ z
section
variable {H : Type} {enc : TypeId × Value → H} {w : World} {base : Nat} {spare : Nat → Bool} {held : Bool}
theorem isRowS_of {s : Nat} {a' : Addr} {len cap : Nat} (hs : 0 < s) (hl : len ≤ cap) (hm : cap ≤ maxLen) (each : ∀ q, q < len * s → ∃ z, w.cell? (a'.add q) = some (.int .i64 z) ∧ (Lit.int .i64 z).wf = true) : ∃ zs, IsRowS w s (some a') len cap zs := by
  refine ⟨(List.range (len * s)).map (fun q => match w.cell? (a'.add q) with | some (.int _ z) => z | _ => 0), by simp, hl, hm, ?_, ?_⟩
  · by_cases h0 : len * s = 0
    · left; rw [h0]; rfl
    · obtain ⟨b, off, spot⟩ := a'
      have hspot : spot = none := by
        obtain ⟨n, hn, _⟩ := each 0 (by omega)
        simpa [Addr.add] using World.cell?_spot hn
      subst hspot
      refine RowC.of_ints ?_ fun i hi => ?_
      · obtain ⟨n, hn, _⟩ := each 0 (by omega)
        simpa [Addr.add] using cell_lt hn
      · simp only [List.length_map, List.length_range] at hi
        obtain ⟨n, hn, _⟩ := each i hi
        rw [Go.WideShapes.add_plain] at hn
        have e1 : ((List.range (len * s)).map (fun q => match w.cell? ((⟨b, off, none⟩ : Addr).add q) with | some (.int _ z) => z | _ => 0)).getD i 0 = n := by
          rw [List.getD_eq_getElem?_getD, List.getElem?_map, List.getElem?_range hi]
          simp only [Option.map_some, Option.getD_some, Go.WideShapes.add_plain, hn]
        rw [e1, hn]
  · intro z hz
    simp only [List.mem_map, List.mem_range] at hz
    obtain ⟨i, hi, rfl⟩ := hz
    obtain ⟨n, hn, hw⟩ := each i hi
    simp only [hn]
    simpa [IsZ, Lit.wf, IntKind.min, IntKind.max, IntKind.signed, IntKind.bits] using hw
theorem open_ints9 {fuel : Nat} {v : Value} {x : DataW H × List MemPlace} (h : DataW.trod enc Try.prog w base spare held fuel 22 [v] = some x) : ∃ a len cap zs, v = .slice a len cap ∧ IsRowS w 1 a len cap zs := by
  rcases open_slice Try.underlying22 h with ⟨hcs, _⟩ | ⟨a', len, cap, m, n, D, Pl, hcs, hb, hl, hm, hmm, hx, hi⟩
  · obtain rfl : v = .slice none 0 0 := by simpa using hcs
    exact ⟨none, 0, 0, [], rfl, rfl, Nat.le_refl _, Nat.zero_le _, .inl rfl, fun z hz => by cases hz⟩
  · obtain rfl : v = .slice (some a') len cap := by simpa using hcs
    obtain ⟨zs, hz⟩ := isRowS_of (w := w) (s := 1) (a' := a') (by decide) hl hm (fun q hq => by
      obtain ⟨cs', hc, ht'⟩ := hi q (by rw [hmm]; split <;> omega)
      have hC : Try.prog.cellsOf 2 = 1 := by kernel_rfl
      rw [hC, Nat.mul_one] at hc
      obtain ⟨z, rfl, _, hw⟩ := DataW.trod_int Try.underlying2 ht'
      exact ⟨z, Go.ChangeShapes.cell_of_cells?_one hc, hw⟩)
    exact ⟨_, _, _, zs, rfl, hz⟩
theorem open_dams {fuel : Nat} {v : Value} {x : DataW H × List MemPlace} (h : DataW.trod enc Try.prog w base spare held fuel 23 [v] = some x) : ∃ a len cap zs, v = .slice a len cap ∧ IsRowS w 4 a len cap zs := by
  rcases open_slice Try.underlying23 h with ⟨hcs, _⟩ | ⟨a', len, cap, m, n, D, Pl, hcs, hb, hl, hm, hmm, hx, hi⟩
  · obtain rfl : v = .slice none 0 0 := by simpa using hcs
    exact ⟨none, 0, 0, [], rfl, rfl, Nat.le_refl _, Nat.zero_le _, .inl rfl, fun z hz => by cases hz⟩
  · obtain rfl : v = .slice (some a') len cap := by simpa using hcs
    have hC : Try.prog.cellsOf 127 = 4 := by kernel_rfl
    have k1 : Try.prog.cellsOf 2 = 1 := by kernel_rfl
    obtain ⟨zs, hz⟩ := isRowS_of (w := w) (s := 4) (a' := a') (by decide) hl hm (fun q hq => by
      obtain ⟨cs', hc, ht'⟩ := hi (q / 4) (by rw [hmm]; split <;> omega)
      rw [hC] at hc
      obtain ⟨_, hcl, hat⟩ := World.cells?_some hc
      obtain ⟨xs, n', _, _, _, hlen, hg⟩ := DataW.trod_struct Try.underlying127 ht'
      obtain ⟨v0, v1, v2, v3, rfl⟩ := list4 hcl
      obtain ⟨y0, y1, y2, y3, rfl⟩ := list4 (show xs.length = 4 by simpa using hlen)
      have g0 : DataW.trod enc Try.prog w base spare held n' 2 (([v0, v1, v2, v3].drop 0).take (Try.prog.cellsOf 2)) = some y0 := hg 0 _ rfl
      have g1 : DataW.trod enc Try.prog w base spare held n' 2 (([v0, v1, v2, v3].drop 1).take (Try.prog.cellsOf 2)) = some y1 := hg 1 _ rfl
      have g2 : DataW.trod enc Try.prog w base spare held n' 2 (([v0, v1, v2, v3].drop 2).take (Try.prog.cellsOf 2)) = some y2 := hg 2 _ rfl
      have g3 : DataW.trod enc Try.prog w base spare held n' 2 (([v0, v1, v2, v3].drop 3).take (Try.prog.cellsOf 2)) = some y3 := hg 3 _ rfl
      rw [k1] at g0 g1 g2 g3
      obtain ⟨z0, e0, _, w0⟩ := DataW.trod_int (cs := [v0]) Try.underlying2 g0
      obtain ⟨z1, e1, _, w1⟩ := DataW.trod_int (cs := [v1]) Try.underlying2 g1
      obtain ⟨z2, e2, _, w2⟩ := DataW.trod_int (cs := [v2]) Try.underlying2 g2
      obtain ⟨z3, e3, _, w3⟩ := DataW.trod_int (cs := [v3]) Try.underlying2 g3
      obtain rfl : v0 = .int .i64 z0 := by simpa using e0
      obtain rfl : v1 = .int .i64 z1 := by simpa using e1
      obtain rfl : v2 = .int .i64 z2 := by simpa using e2
      obtain rfl : v3 = .int .i64 z3 := by simpa using e3
      have hq4 : q % 4 < 4 := Nat.mod_lt _ (by decide)
      have hqq : q / 4 * 4 + q % 4 = q := by omega
      have hcell := hat (q % 4) hq4
      rw [Go.Deep.add_add, hqq] at hcell
      rcases hj : q % 4 with _ | _ | _ | _ | j
      · rw [hj] at hcell; exact ⟨z0, hcell, w0⟩
      · rw [hj] at hcell; exact ⟨z1, hcell, w1⟩
      · rw [hj] at hcell; exact ⟨z2, hcell, w2⟩
      · rw [hj] at hcell; exact ⟨z3, hcell, w3⟩
      · omega)
    exact ⟨_, _, _, zs, rfl, hz⟩
end
/-- A river that came in. -/
structure IsRiv (w : World) (a0 a1 a2 : Option Addr) (l0 n l2 c0 c1 c2 : Nat) (D M V : List Int) : Prop where
  r0 : IsRowS w 1 a0 l0 c0 D
  r1 : IsRowS w 4 a1 n c1 M
  r2 : IsRowS w 1 a2 l2 c2 V
theorem open_river {H : Type} {enc : TypeId × Value → H} {w : World} {base : Nat} {spare : Nat → Bool} {held : Bool} {r : Reach} {b0 : Nat} {v : Value} {d : DataW H} {p : List MemPlace}
    (hv : Value.okWide Try.prog w r b0 25 v) (h : DataW.Trod enc Try.prog w base spare held 25 v d p) :
    ∃ a0 a1 a2 l0 n l2 c0 c1 c2 D M V, v = .agg #[.slice a0 l0 c0, .slice a1 n c1, .slice a2 l2 c2] ∧ IsRiv w a0 a1 a2 l0 n l2 c0 c1 c2 D M V := by
  obtain ⟨⟨l⟩, rfl, hsz⟩ := okWide_struct Try.underlying25 hv
  obtain ⟨fuel, hd⟩ := h
  obtain ⟨xs, n, _, _, _, hlen, hg⟩ := DataW.trod_struct Try.underlying25 hd
  have hC : Try.prog.cellsOf 25 = 3 := by kernel_rfl
  obtain ⟨v0, v1, v2, rfl⟩ := list3 (show l.length = 3 by have := hsz.trans hC; simpa using this)
  obtain ⟨y0, y1, y2, rfl⟩ := list3 (show xs.length = 3 by simpa using hlen)
  have k1 : Try.prog.cellsOf 22 = 1 := by kernel_rfl
  have k2 : Try.prog.cellsOf 23 = 1 := by kernel_rfl
  have g0 : DataW.trod enc Try.prog w base spare held n 22 (([v0, v1, v2].drop 0).take (Try.prog.cellsOf 22)) = some y0 := hg 0 _ rfl
  have g1 : DataW.trod enc Try.prog w base spare held n 23 (([v0, v1, v2].drop 1).take (Try.prog.cellsOf 23)) = some y1 := hg 1 _ rfl
  have g2 : DataW.trod enc Try.prog w base spare held n 22 (([v0, v1, v2].drop 2).take (Try.prog.cellsOf 22)) = some y2 := hg 2 _ rfl
  rw [k1] at g0 g2
  rw [k2] at g1
  obtain ⟨a0, l0, c0, D, rfl, h0⟩ := open_ints9 (v := v0) g0
  obtain ⟨a1, l1, c1, M, rfl, h1⟩ := open_dams (v := v1) g1
  obtain ⟨a2, l2, c2, V, rfl, h2⟩ := open_ints9 (v := v2) g2
  exact ⟨a0, a1, a2, l0, l1, l2, c0, c1, c2, D, M, V, rfl, h0, h1, h2⟩
end Go.Proofs.Ytckmacnmmloemaa
