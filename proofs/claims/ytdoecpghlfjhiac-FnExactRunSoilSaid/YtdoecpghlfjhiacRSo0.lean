/- Soils behind rain: what comes, and the states of the regions that draw. -/
import Derived.Test.YtdoecpghlfjhiacStepQ
import Derived.Test.YtdoecpghlfjhiacStepI
import Derived.Test.YtdoecpghlfjhiacIsRain
import Derived.Test.YtdoecpghlfjhiacRegionI
import Derived.Test.YtdoecpghlfjhiacGrow
import Derived.Test.YtdoecpghlfjhiacIs32
namespace Go.Proofs.Ytdoecpghlfjhiac
open Go.RowKit
set_option linter.unusedVariables false
set_option linter.unusedSimpArgs false
set_option maxRecDepth 100000
attribute [local irreducible] wpV wpList Code.wp

theorem Bw.setFar {w : World} {b : Nat} {vs : List Value} (h : Bw w b vs) {p : Addr} (hp : p.block ≠ b) (u : Value) : Bw (w.setCell p u) b vs :=
  ⟨h.1.setFar hp u, fun j hj => by rw [World.frozen?_of_block (w := w) (a := ⟨b, j, none⟩) (Below.heap_setCell _ _ _ _ (by exact fun he => hp he.symm))]; exact h.2 j hj⟩
theorem RowO.far4 {w : World} {lo b : Nat} {v : Value} {zs : List Nat} (h : RowO w lo v zs) (hb : v.ownBlock ≠ some b) (i j k l : Nat) (p q r s : Value) : RowO ((((w.setCell ⟨b, i, none⟩ p).setCell ⟨b, j, none⟩ q).setCell ⟨b, k, none⟩ r).setCell ⟨b, l, none⟩ s) lo v zs :=
  (((h.setFar hb p).setFar hb q).setFar hb r).setFar hb s
theorem getD_lt {X : List Nat} (hz : ∀ z ∈ X, z < 4294967296) (k : Nat) : X.getD k 0 < 4294967296 := by
  rcases Nat.lt_or_ge k X.length with h | h
  · rw [List.getD_eq_getElem?_getD, List.getElem?_eq_getElem h]; exact hz _ (List.getElem_mem h)
  · rw [List.getD_eq_getElem?_getD, List.getElem?_eq_none h]; decide
theorem put_self (a : Act) (d : Nat) : a.put (some d) (a.tmps.getD d undef) = a := by
  unfold Act.put
  have : a.tmps.setIfInBounds d (a.tmps.getD d undef) = a.tmps := by
    apply Array.ext (by simp)
    intro i h1 h2
    by_cases h : d = i
    · subst h; simp [h2]
    · rw [Array.getElem_setIfInBounds_ne (h := h)]
  simp only [this]
theorem Gd.start {n j : Nat} {p : Prop} : Gd (Array.replicate n false) j p := fun h => by rw [getD_replicate_false] at h; cases h
theorem Ng.start {l : Array Bool} {j : Nat} {p : Prop} (h : p) : Ng l j p := fun _ => h
theorem Gd.undone {l : Array Bool} {i j : Nat} {p : Prop} (h : l.getD j false = false) (hne : i ≠ j) : Gd (l.setIfInBounds i true) j p := fun h9 => by rw [set_ne hne, h] at h9; cases h9
theorem StepAll.cons {P : Program} {l : List Oper} {Inv : Array Bool → Act → World → Prop} {k : Nat} {o : Oper} {rest : List Oper} (j : Nat) (hj : k + 1 = j)
    (h : ∀ d a w, d.size = l.length → Closed l d → Inv d a w → d.getD k false = false → Deps d o.after.toList → wpList P l.toArray (QI fun a' w' => Inv (d.setIfInBounds k true) a' w') [o] a w) (hr : StepAll P l Inv j rest) : StepAll P l Inv k (o :: rest) := by
  subst hj; exact ⟨h, hr⟩

theorem row_at {w : World} {a : Option Addr} {zs : List Nat} (h : RowF .f32 w a zs) (hn : 0 < zs.length) : ∃ b off, a = some ⟨b, off, none⟩ ∧ b < w.heap.size ∧ ∀ i, i < zs.length → w.cell? ⟨b, off + i, none⟩ = some (.float .f32 (zs.getD i 0)) := by
  rcases h with rfl | ⟨b, off, h1, hb, hc⟩
  · simp at hn
  · exact ⟨b, off, h1, hb, hc⟩

def soIt (A0 A1 A2 A3 A4 T : Option Nat) (X : List Nat) : Nat → SoilR
  | 0 => ⟨A0, A1, A2, A3, A4, some 0, some 0, true⟩
  | k + 1 => stepO (soIt A0 A1 A2 A3 A4 T X k).s0 (soIt A0 A1 A2 A3 A4 T X k).s1 (soIt A0 A1 A2 A3 A4 T X k).s2 (soIt A0 A1 A2 A3 A4 T X k).s3 (soIt A0 A1 A2 A3 A4 T X k).s4 (some (X.getD k 0)) T
def soOffs (A0 A1 A2 A3 A4 T : Option Nat) (X : List Nat) (n : Nat) : List (Option Nat) := (List.range n).map fun k => (soIt A0 A1 A2 A3 A4 T X (k + 1)).off
def soGoes (A0 A1 A2 A3 A4 T : Option Nat) (X : List Nat) (n : Nat) : List (Option Nat) := (List.range n).map fun k => (soIt A0 A1 A2 A3 A4 T X (k + 1)).goes
def soOk (A0 A1 A2 A3 A4 T : Option Nat) (X : List Nat) (n : Nat) : Bool := (List.range n).all fun k => (soIt A0 A1 A2 A3 A4 T X (k + 1)).ok
structure RunS where
  s0 : Option Nat
  s1 : Option Nat
  s2 : Option Nat
  s3 : Option Nat
  s4 : Option Nat
  offs : List Nat
  goes : List Nat
  ok : Bool
def failRunS : RunS := ⟨some 0, some 0, some 0, some 0, some 0, [], [], false⟩
def runSoilO (A0 A1 A2 A3 A4 T : Option Nat) (X : List Nat) : RunS :=
  if soilO A0 A1 A2 A3 A4 && rainB X && posO T then
    (if soOk A0 A1 A2 A3 A4 T X X.length then ⟨(soIt A0 A1 A2 A3 A4 T X X.length).s0, (soIt A0 A1 A2 A3 A4 T X X.length).s1, (soIt A0 A1 A2 A3 A4 T X X.length).s2, (soIt A0 A1 A2 A3 A4 T X X.length).s3, (soIt A0 A1 A2 A3 A4 T X X.length).s4,
      (soOffs A0 A1 A2 A3 A4 T X X.length).map (fun Y => Y.getD 0), (soGoes A0 A1 A2 A3 A4 T X X.length).map (fun Y => Y.getD 0), true⟩ else failRunS)
  else failRunS
def RunSB (R : RunS) (w : World) (e : Ending) (w' : World) : Prop :=
  ∃ y0 y1 y2 y3 y4 a1 c1 lo1 hi1 a2 c2 lo2 hi2, e = .returned (.tuple #[.agg #[.float .f32 y0, .float .f32 y1, .float .f32 y2, .float .f32 y3, .float .f32 y4], .slice a1 R.offs.length c1, .slice a2 R.goes.length c2, .bool R.ok]) ∧ (Is32 R.s0 y0 ∧ Is32 R.s1 y1 ∧ Is32 R.s2 y2 ∧ Is32 R.s3 y3 ∧ Is32 R.s4 y4) ∧
    FRow w' lo1 hi1 (.slice a1 R.offs.length c1) R.offs ∧ FRow w' lo2 hi2 (.slice a2 R.goes.length c2) R.goes ∧ w.heap.size ≤ lo1 ∧ w.heap.size ≤ lo2 ∧ R.offs.length ≤ 1048576 ∧ R.goes.length ≤ 1048576 ∧ (hi1 ≤ lo2 ∨ hi2 ≤ lo1) ∧ Below w.heap.size w w'
theorem RunSB.no {w w' : World} (hb : Below w.heap.size w w') : RunSB failRunS w (.returned (.tuple #[.agg #[.float .f32 0, .float .f32 0, .float .f32 0, .float .f32 0, .float .f32 0], .slice none 0 0, .slice none 0 0, .bool false])) w' := by
  obtain ⟨a1, c1, lo1, hi1, a2, c2, lo2, hi2, he, h1, h2, h3, h4, h5, h6, h7, h8⟩ := PostLL.no hb
  cases he
  exact ⟨0, 0, 0, 0, 0, _, _, lo1, hi1, _, _, lo2, hi2, rfl, ⟨Is32.c (by decide), Is32.c (by decide), Is32.c (by decide), Is32.c (by decide), Is32.c (by decide)⟩, h1, h2, h3, h4, h5, h6, h7, h8⟩
theorem RunSB.yes {w w' : World} {lo : Nat} {v u : Value} {zs ys : List Nat} {S0 S1 S2 S3 S4 : Option Nat} {y0 y1 y2 y3 y4 : Nat} (h : RowO w' lo v zs) (h' : RowO w' lo u ys) (ha : Apart v u) (hlo : w.heap.size ≤ lo) (hl : zs.length ≤ 1048576) (hl' : ys.length ≤ 1048576)
    (hy : Is32 S0 y0 ∧ Is32 S1 y1 ∧ Is32 S2 y2 ∧ Is32 S3 y3 ∧ Is32 S4 y4) (hb : Below w.heap.size w w') :
    RunSB ⟨S0, S1, S2, S3, S4, zs, ys, true⟩ w (.returned (.tuple #[.agg #[.float .f32 y0, .float .f32 y1, .float .f32 y2, .float .f32 y3, .float .f32 y4], v, u, .bool true])) w' := by
  obtain ⟨a1, c1, lo1, hi1, a2, c2, lo2, hi2, he, h1, h2, h3, h4, h5, h6, h7, h8⟩ := PostLL.yes h h' ha hlo hl hl' hb
  cases he
  exact ⟨y0, y1, y2, y3, y4, _, _, lo1, hi1, _, _, lo2, hi2, rfl, hy, h1, h2, h3, h4, h5, h6, h7, h8⟩
theorem soOk_succ {A0 A1 A2 A3 A4 T : Option Nat} {X : List Nat} {k : Nat} (h : soOk A0 A1 A2 A3 A4 T X k = true) (h2 : (soIt A0 A1 A2 A3 A4 T X (k + 1)).ok = true) : soOk A0 A1 A2 A3 A4 T X (k + 1) = true := by
  unfold soOk at *; rw [List.range_succ, List.all_append, h]; simp [h2]
theorem soOk_no {A0 A1 A2 A3 A4 T : Option Nat} {X : List Nat} {k n : Nat} (hk : k < n) (h2 : (soIt A0 A1 A2 A3 A4 T X (k + 1)).ok = false) : soOk A0 A1 A2 A3 A4 T X n = false := by
  unfold soOk
  rw [Bool.eq_false_iff]
  intro h
  have := List.all_eq_true.1 h k (List.mem_range.2 hk)
  rw [h2] at this; cases this
theorem soOffs_succ (A0 A1 A2 A3 A4 T : Option Nat) (X : List Nat) (k : Nat) : soOffs A0 A1 A2 A3 A4 T X (k + 1) = soOffs A0 A1 A2 A3 A4 T X k ++ [(soIt A0 A1 A2 A3 A4 T X (k + 1)).off] := by unfold soOffs; rw [List.range_succ, List.map_append]; rfl
theorem soGoes_succ (A0 A1 A2 A3 A4 T : Option Nat) (X : List Nat) (k : Nat) : soGoes A0 A1 A2 A3 A4 T X (k + 1) = soGoes A0 A1 A2 A3 A4 T X k ++ [(soIt A0 A1 A2 A3 A4 T X (k + 1)).goes] := by unfold soGoes; rw [List.range_succ, List.map_append]; rfl

def soInv (a0 : Act) (w0 : World) (R : SoilR) (g g2 N k c0 c1 c2 c3 c4 x t : Nat) (zs zs2 : List Nat) (d : Array Bool) (a : Act) (w : World) : Prop :=
  ∃ (u14 u42 u43 u44 u45 u46 u47 u48 u49 u50 u51 u52 u53 u54 u55 u56 : Value) (y0 y1 y2 y3 y4 yo yg : Nat), a = ((((((((((((((((a0.put (some 14) u14).put (some 42) u42).put (some 43) u43).put (some 44) u44).put (some 45) u45).put (some 46) u46).put (some 47) u47).put (some 48) u48).put (some 49) u49).put (some 50) u50).put (some 51) u51).put (some 52) u52).put (some 53) u53).put (some 54) u54).put (some 55) u55).put (some 56) u56) ∧ Gd d 0 (u43 = .slice (some ⟨g, 0, none⟩) N N) ∧ Gd d 1 (u44 = .int .i64 k) ∧ Gd d 2 (u45 = .slice (some ⟨g2, 0, none⟩) N N) ∧ Gd d 3 (u46 = .int .i64 k) ∧ Gd d 4 (u47 = .agg #[.float .f32 c0, .float .f32 c1, .float .f32 c2, .float .f32 c3, .float .f32 c4]) ∧ Gd d 5 (u48 = .float .f32 x) ∧ Gd d 6 (u49 = .float .f32 t) ∧ Gd d 7 (u50 = .tuple #[.agg #[.float .f32 y0, .float .f32 y1, .float .f32 y2, .float .f32 y3, .float .f32 y4], .float .f32 yo, .float .f32 yg, .bool R.ok] ∧ (Is32 R.s0 y0 ∧ Is32 R.s1 y1 ∧ Is32 R.s2 y2 ∧ Is32 R.s3 y3 ∧ Is32 R.s4 y4 ∧ Is32 R.off yo ∧ Is32 R.goes yg)) ∧ Gd d 8 (u42 = .tuple #[.agg #[.float .f32 y0, .float .f32 y1, .float .f32 y2, .float .f32 y3, .float .f32 y4], .float .f32 yo, .float .f32 yg, .bool R.ok]) ∧ Gd d 9 (u51 = .agg #[.float .f32 y0, .float .f32 y1, .float .f32 y2, .float .f32 y3, .float .f32 y4]) ∧ Gd d 10 (u52 = .float .f32 yo) ∧ Gd d 11 (u53 = .float .f32 yg) ∧ Gd d 12 (u54 = .bool R.ok) ∧ Gd d 14 (u55 = .pointer (some ⟨g, k, none⟩)) ∧ Gd d 16 (u56 = .pointer (some ⟨g2, k, none⟩)) ∧ Gd d 18 (u14 = .bool R.ok) ∧ Below w0.heap.size w0 w ∧ Ng d 13 (Bw w w0.heap.size [.float .f32 c0, .float .f32 c1, .float .f32 c2, .float .f32 c3, .float .f32 c4]) ∧ Gd d 13 (Bw w w0.heap.size [.float .f32 y0, .float .f32 y1, .float .f32 y2, .float .f32 y3, .float .f32 y4]) ∧ Bw w (w0.heap.size + 1) [.float .f32 0, .float .f32 0, .float .f32 0, .float .f32 0, .float .f32 0] ∧ Ng d 15 (RowO w (w0.heap.size + 2) (.slice (some ⟨g, 0, none⟩) N N) zs) ∧ Gd d 15 (RowO w (w0.heap.size + 2) (.slice (some ⟨g, 0, none⟩) N N) (zs.set k yo)) ∧ Ng d 17 (RowO w (w0.heap.size + 2) (.slice (some ⟨g2, 0, none⟩) N N) zs2) ∧ Gd d 17 (RowO w (w0.heap.size + 2) (.slice (some ⟨g2, 0, none⟩) N N) (zs2.set k yg))
theorem soInv.mk {a0 : Act} {w0 : World} {R : SoilR} {g g2 N k c0 c1 c2 c3 c4 x t : Nat} {zs zs2 : List Nat} {d : Array Bool} {a : Act} {w : World} (u14 u42 u43 u44 u45 u46 u47 u48 u49 u50 u51 u52 u53 u54 u55 u56 : Value) (y0 y1 y2 y3 y4 yo yg : Nat) (e : a = ((((((((((((((((a0.put (some 14) u14).put (some 42) u42).put (some 43) u43).put (some 44) u44).put (some 45) u45).put (some 46) u46).put (some 47) u47).put (some 48) u48).put (some 49) u49).put (some 50) u50).put (some 51) u51).put (some 52) u52).put (some 53) u53).put (some 54) u54).put (some 55) u55).put (some 56) u56)) (f0 : Gd d 0 (u43 = .slice (some ⟨g, 0, none⟩) N N)) (f1 : Gd d 1 (u44 = .int .i64 k)) (f2 : Gd d 2 (u45 = .slice (some ⟨g2, 0, none⟩) N N)) (f3 : Gd d 3 (u46 = .int .i64 k)) (f4 : Gd d 4 (u47 = .agg #[.float .f32 c0, .float .f32 c1, .float .f32 c2, .float .f32 c3, .float .f32 c4])) (f5 : Gd d 5 (u48 = .float .f32 x)) (f6 : Gd d 6 (u49 = .float .f32 t)) (f7 : Gd d 7 (u50 = .tuple #[.agg #[.float .f32 y0, .float .f32 y1, .float .f32 y2, .float .f32 y3, .float .f32 y4], .float .f32 yo, .float .f32 yg, .bool R.ok] ∧ (Is32 R.s0 y0 ∧ Is32 R.s1 y1 ∧ Is32 R.s2 y2 ∧ Is32 R.s3 y3 ∧ Is32 R.s4 y4 ∧ Is32 R.off yo ∧ Is32 R.goes yg))) (f8 : Gd d 8 (u42 = .tuple #[.agg #[.float .f32 y0, .float .f32 y1, .float .f32 y2, .float .f32 y3, .float .f32 y4], .float .f32 yo, .float .f32 yg, .bool R.ok])) (f9 : Gd d 9 (u51 = .agg #[.float .f32 y0, .float .f32 y1, .float .f32 y2, .float .f32 y3, .float .f32 y4])) (f10 : Gd d 10 (u52 = .float .f32 yo)) (f11 : Gd d 11 (u53 = .float .f32 yg)) (f12 : Gd d 12 (u54 = .bool R.ok)) (f14 : Gd d 14 (u55 = .pointer (some ⟨g, k, none⟩))) (f16 : Gd d 16 (u56 = .pointer (some ⟨g2, k, none⟩))) (f18 : Gd d 18 (u14 = .bool R.ok)) (hbel : Below w0.heap.size w0 w) (hs13 : Ng d 13 (Bw w w0.heap.size [.float .f32 c0, .float .f32 c1, .float .f32 c2, .float .f32 c3, .float .f32 c4])) (gs13 : Gd d 13 (Bw w w0.heap.size [.float .f32 y0, .float .f32 y1, .float .f32 y2, .float .f32 y3, .float .f32 y4])) (hres : Bw w (w0.heap.size + 1) [.float .f32 0, .float .f32 0, .float .f32 0, .float .f32 0, .float .f32 0]) (hr15 : Ng d 15 (RowO w (w0.heap.size + 2) (.slice (some ⟨g, 0, none⟩) N N) zs)) (gr15 : Gd d 15 (RowO w (w0.heap.size + 2) (.slice (some ⟨g, 0, none⟩) N N) (zs.set k yo))) (hr17 : Ng d 17 (RowO w (w0.heap.size + 2) (.slice (some ⟨g2, 0, none⟩) N N) zs2)) (gr17 : Gd d 17 (RowO w (w0.heap.size + 2) (.slice (some ⟨g2, 0, none⟩) N N) (zs2.set k yg))) : soInv a0 w0 R g g2 N k c0 c1 c2 c3 c4 x t zs zs2 d a w :=
  ⟨u14, u42, u43, u44, u45, u46, u47, u48, u49, u50, u51, u52, u53, u54, u55, u56, y0, y1, y2, y3, y4, yo, yg, e, f0, f1, f2, f3, f4, f5, f6, f7, f8, f9, f10, f11, f12, f14, f16, f18, hbel, hs13, gs13, hres, hr15, gr15, hr17, gr17⟩
theorem soInv.start {a0 : Act} {w0 : World} {R : SoilR} {g g2 N k c0 c1 c2 c3 c4 x t : Nat} {zs zs2 : List Nat} {w : World} (n : Nat) (hbel : Below w0.heap.size w0 w) (hs : Bw w w0.heap.size [.float .f32 c0, .float .f32 c1, .float .f32 c2, .float .f32 c3, .float .f32 c4]) (hres : Bw w (w0.heap.size + 1) [.float .f32 0, .float .f32 0, .float .f32 0, .float .f32 0, .float .f32 0]) (hr : RowO w (w0.heap.size + 2) (.slice (some ⟨g, 0, none⟩) N N) zs) (hr2 : RowO w (w0.heap.size + 2) (.slice (some ⟨g2, 0, none⟩) N N) zs2) : soInv a0 w0 R g g2 N k c0 c1 c2 c3 c4 x t zs zs2 (Array.replicate n false) a0 w :=
  ⟨a0.tmps.getD 14 undef, a0.tmps.getD 42 undef, a0.tmps.getD 43 undef, a0.tmps.getD 44 undef, a0.tmps.getD 45 undef, a0.tmps.getD 46 undef, a0.tmps.getD 47 undef, a0.tmps.getD 48 undef, a0.tmps.getD 49 undef, a0.tmps.getD 50 undef, a0.tmps.getD 51 undef, a0.tmps.getD 52 undef, a0.tmps.getD 53 undef, a0.tmps.getD 54 undef, a0.tmps.getD 55 undef, a0.tmps.getD 56 undef, 0, 0, 0, 0, 0, 0, 0, by simp only [put_self], .start, .start, .start, .start, .start, .start, .start, .start, .start, .start, .start, .start, .start, .start, .start, .start, hbel, .start hs, .start, hres, .start hr, .start, .start hr2, .start⟩

def mkInv (a0 : Act) (w0 : World) (a1 : Option Addr) (N cap1 c0 c1 c2 c3 c4 : Nat) (d : Array Bool) (a : Act) (w : World) : Prop :=
  ∃ (u10 u11 u29 u30 u31 u32 u33 u34 : Value) (g g2 : Nat), a = ((((((((a0.put (some 10) u10).put (some 11) u11).put (some 29) u29).put (some 30) u30).put (some 31) u31).put (some 32) u32).put (some 33) u33).put (some 34) u34) ∧ Gd d 0 (u29 = .slice a1 N cap1) ∧ Gd d 1 (u30 = .int .i64 N) ∧ Gd d 2 (u31 = .slice (some ⟨g, 0, none⟩) N N) ∧ Gd d 3 (u32 = .slice a1 N cap1) ∧ Gd d 4 (u33 = .int .i64 N) ∧ Gd d 5 (u34 = .slice (some ⟨g2, 0, none⟩) N N) ∧ Gd d 6 (u10 = .slice (some ⟨g, 0, none⟩) N N) ∧ Gd d 7 (u11 = .slice (some ⟨g2, 0, none⟩) N N) ∧ Below w0.heap.size w0 w ∧ Bw w w0.heap.size [.float .f32 c0, .float .f32 c1, .float .f32 c2, .float .f32 c3, .float .f32 c4] ∧ Bw w (w0.heap.size + 1) [.float .f32 0, .float .f32 0, .float .f32 0, .float .f32 0, .float .f32 0] ∧ Gd d 2 (RowO w (w0.heap.size + 2) (.slice (some ⟨g, 0, none⟩) N N) (List.replicate N 0)) ∧ Gd d 5 (RowO w (w0.heap.size + 2) (.slice (some ⟨g2, 0, none⟩) N N) (List.replicate N 0)) ∧ Gd d 2 (Gd d 5 (g ≠ g2))
theorem mkInv.mk {a0 : Act} {w0 : World} {a1 : Option Addr} {N cap1 c0 c1 c2 c3 c4 : Nat} {d : Array Bool} {a : Act} {w : World} (u10 u11 u29 u30 u31 u32 u33 u34 : Value) (g g2 : Nat) (e : a = ((((((((a0.put (some 10) u10).put (some 11) u11).put (some 29) u29).put (some 30) u30).put (some 31) u31).put (some 32) u32).put (some 33) u33).put (some 34) u34)) (f0 : Gd d 0 (u29 = .slice a1 N cap1)) (f1 : Gd d 1 (u30 = .int .i64 N)) (f2 : Gd d 2 (u31 = .slice (some ⟨g, 0, none⟩) N N)) (f3 : Gd d 3 (u32 = .slice a1 N cap1)) (f4 : Gd d 4 (u33 = .int .i64 N)) (f5 : Gd d 5 (u34 = .slice (some ⟨g2, 0, none⟩) N N)) (f6 : Gd d 6 (u10 = .slice (some ⟨g, 0, none⟩) N N)) (f7 : Gd d 7 (u11 = .slice (some ⟨g2, 0, none⟩) N N)) (hbel : Below w0.heap.size w0 w) (hs : Bw w w0.heap.size [.float .f32 c0, .float .f32 c1, .float .f32 c2, .float .f32 c3, .float .f32 c4]) (hres : Bw w (w0.heap.size + 1) [.float .f32 0, .float .f32 0, .float .f32 0, .float .f32 0, .float .f32 0]) (hr2 : Gd d 2 (RowO w (w0.heap.size + 2) (.slice (some ⟨g, 0, none⟩) N N) (List.replicate N 0))) (hr5 : Gd d 5 (RowO w (w0.heap.size + 2) (.slice (some ⟨g2, 0, none⟩) N N) (List.replicate N 0))) (hne : Gd d 2 (Gd d 5 (g ≠ g2))) : mkInv a0 w0 a1 N cap1 c0 c1 c2 c3 c4 d a w :=
  ⟨u10, u11, u29, u30, u31, u32, u33, u34, g, g2, e, f0, f1, f2, f3, f4, f5, f6, f7, hbel, hs, hres, hr2, hr5, hne⟩
theorem mkInv.start {a0 : Act} {w0 : World} {a1 : Option Addr} {N cap1 c0 c1 c2 c3 c4 : Nat} {w : World} (n : Nat) (hbel : Below w0.heap.size w0 w) (hs : Bw w w0.heap.size [.float .f32 c0, .float .f32 c1, .float .f32 c2, .float .f32 c3, .float .f32 c4]) (hres : Bw w (w0.heap.size + 1) [.float .f32 0, .float .f32 0, .float .f32 0, .float .f32 0, .float .f32 0]) : mkInv a0 w0 a1 N cap1 c0 c1 c2 c3 c4 (Array.replicate n false) a0 w :=
  ⟨a0.tmps.getD 10 undef, a0.tmps.getD 11 undef, a0.tmps.getD 29 undef, a0.tmps.getD 30 undef, a0.tmps.getD 31 undef, a0.tmps.getD 32 undef, a0.tmps.getD 33 undef, a0.tmps.getD 34 undef, 0, 0, by simp only [put_self], .start, .start, .start, .start, .start, .start, .start, .start, hbel, hs, hres, .start, .start, .start⟩

end Go.Proofs.Ytdoecpghlfjhiac
