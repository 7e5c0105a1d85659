/- Snow behind rain: what comes, and the state of the regions that draw. -/
import Derived.Test.YtfdcfalkidcdnabSnowQ
import Derived.Test.YtfdcfalkidcdnabIsRain
import Derived.Test.YtfdcfalkidcdnabRegionI
import Derived.Test.YtfdcfalkidcdnabGrow
import Derived.Test.YtfdcfalkidcdnabIs32
namespace Go.Proofs.Ytfdcfalkidcdnab
open Go.RowKit
set_option linter.unusedVariables false
set_option linter.unusedSimpArgs false
set_option maxRecDepth 100000
attribute [local irreducible] wpV wpList Code.wp

theorem Bw.setFar {w : World} {b : Nat} {vs : List Value} (h : Bw w b vs) {p : Addr} (hp : p.block ≠ b) (u : Value) : Bw (w.setCell p u) b vs :=
  ⟨h.1.setFar hp u, fun j hj => by rw [World.frozen?_of_block (w := w) (a := ⟨b, j, none⟩) (Below.heap_setCell _ _ _ _ (by exact fun he => hp he.symm))]; exact h.2 j hj⟩
theorem RowO.far4 {w : World} {lo b : Nat} {v : Value} {zs : List Nat} (h : RowO w lo v zs) (hb : v.ownBlock ≠ some b) (i j k l : Nat) (p q r s : Value) : RowO ((((w.setCell ⟨b, i, none⟩ p).setCell ⟨b, j, none⟩ q).setCell ⟨b, k, none⟩ r).setCell ⟨b, l, none⟩ s) lo v zs :=
  (((h.setFar hb p).setFar hb q).setFar hb r).setFar hb s
theorem getD_lt {X : List Nat} (hz : ∀ z ∈ X, z < 4294967296) (k : Nat) : X.getD k 0 < 4294967296 := by
  rcases Nat.lt_or_ge k X.length with h | h
  · rw [List.getD_eq_getElem?_getD, List.getElem?_eq_getElem h]; exact hz _ (List.getElem_mem h)
  · rw [List.getD_eq_getElem?_getD, List.getElem?_eq_none h]; decide
theorem put_self (a : Act) (d : Nat) : a.put (some d) (a.tmps.getD d undef) = a := by
  unfold Act.put
  have : a.tmps.setIfInBounds d (a.tmps.getD d undef) = a.tmps := by
    apply Array.ext (by simp)
    intro i h1 h2
    by_cases h : d = i
    · subst h; simp [h2]
    · rw [Array.getElem_setIfInBounds_ne (h := h)]
  simp only [this]
theorem Gd.start {n j : Nat} {p : Prop} : Gd (Array.replicate n false) j p := fun h => by rw [getD_replicate_false] at h; cases h
theorem Ng.start {l : Array Bool} {j : Nat} {p : Prop} (h : p) : Ng l j p := fun _ => h
theorem Gd.undone {l : Array Bool} {i j : Nat} {p : Prop} (h : l.getD j false = false) (hne : i ≠ j) : Gd (l.setIfInBounds i true) j p := fun h9 => by rw [set_ne hne, h] at h9; cases h9
theorem StepAll.cons {P : Program} {l : List Oper} {Inv : Array Bool → Act → World → Prop} {k : Nat} {o : Oper} {rest : List Oper} (j : Nat) (hj : k + 1 = j)
    (h : ∀ d a w, d.size = l.length → Closed l d → Inv d a w → d.getD k false = false → Deps d o.after.toList → wpList P l.toArray (QI fun a' w' => Inv (d.setIfInBounds k true) a' w') [o] a w) (hr : StepAll P l Inv j rest) : StepAll P l Inv k (o :: rest) := by
  subst hj; exact ⟨h, hr⟩
def snIt (A0 A1 A2 A3 T : Option Nat) (X V : List Nat) : Nat → SnowR
  | 0 => ⟨A0, A1, A2, A3, some 0, true⟩
  | k + 1 => snowStep (snIt A0 A1 A2 A3 T X V k).s0 (snIt A0 A1 A2 A3 T X V k).s1 (snIt A0 A1 A2 A3 T X V k).s2 (snIt A0 A1 A2 A3 T X V k).s3 (some (X.getD k 0)) (some (V.getD k 0)) T
def snOuts (A0 A1 A2 A3 T : Option Nat) (X V : List Nat) (n : Nat) : List (Option Nat) := (List.range n).map fun k => (snIt A0 A1 A2 A3 T X V (k + 1)).out
def snOk (A0 A1 A2 A3 T : Option Nat) (X V : List Nat) (n : Nat) : Bool := (List.range n).all fun k => (snIt A0 A1 A2 A3 T X V (k + 1)).ok
structure RunR where
  s0 : Option Nat
  s1 : Option Nat
  s2 : Option Nat
  s3 : Option Nat
  outs : List Nat
  ok : Bool
def failRun : RunR := ⟨some 0, some 0, some 0, some 0, [], false⟩
def runSnowO (A0 A1 A2 A3 T : Option Nat) (X V : List Nat) : RunR :=
  if snowO A0 A1 A2 A3 && rainB X && decide (V.length = X.length) && posO T then
    (if snOk A0 A1 A2 A3 T X V X.length then ⟨(snIt A0 A1 A2 A3 T X V X.length).s0, (snIt A0 A1 A2 A3 T X V X.length).s1, (snIt A0 A1 A2 A3 T X V X.length).s2, (snIt A0 A1 A2 A3 T X V X.length).s3, (snOuts A0 A1 A2 A3 T X V X.length).map (fun Y => Y.getD 0), true⟩ else failRun)
  else failRun
def RunB (R : RunR) (w : World) (e : Ending) (w' : World) : Prop :=
  ∃ y0 y1 y2 y3 a cap, e = .returned (.tuple #[.agg #[.float .f32 y0, .float .f32 y1, .float .f32 y2, .float .f32 y3], .slice a R.outs.length cap, .bool R.ok]) ∧ (Is32 R.s0 y0 ∧ Is32 R.s1 y1 ∧ Is32 R.s2 y2 ∧ Is32 R.s3 y3) ∧
    FRow w' w.heap.size w'.heap.size (.slice a R.outs.length cap) R.outs ∧ R.outs.length ≤ 1048576 ∧ Below w.heap.size w w'
theorem RunB.no {w w' : World} (hb : Below w.heap.size w w') : RunB failRun w (.returned (.tuple #[.agg #[.float .f32 0, .float .f32 0, .float .f32 0, .float .f32 0], .slice none 0 0, .bool false])) w' :=
  ⟨0, 0, 0, 0, none, 0, rfl, ⟨Is32.c (by decide), Is32.c (by decide), Is32.c (by decide), Is32.c (by decide)⟩, FRow.nil w' _, by decide, hb⟩
theorem RunB.yes {w w' : World} {lo : Nat} {v : Value} {zs : List Nat} {S0 S1 S2 S3 : Option Nat} {y0 y1 y2 y3 : Nat} (h : RowO w' lo v zs) (hlo : w.heap.size ≤ lo) (hl : zs.length ≤ 1048576) (hy : Is32 S0 y0 ∧ Is32 S1 y1 ∧ Is32 S2 y2 ∧ Is32 S3 y3) (hb : Below w.heap.size w w') :
    RunB ⟨S0, S1, S2, S3, zs, true⟩ w (.returned (.tuple #[.agg #[.float .f32 y0, .float .f32 y1, .float .f32 y2, .float .f32 y3], v, .bool true])) w' := by
  obtain ⟨a, cap, rfl⟩ := h.len
  exact ⟨y0, y1, y2, y3, a, cap, rfl, hy, (FRow.mk h).mono hlo (Nat.le_refl _) (Nat.le_refl _), hl, hb⟩
theorem snOk_succ {A0 A1 A2 A3 T : Option Nat} {X V : List Nat} {k : Nat} (h : snOk A0 A1 A2 A3 T X V k = true) (h2 : (snIt A0 A1 A2 A3 T X V (k + 1)).ok = true) : snOk A0 A1 A2 A3 T X V (k + 1) = true := by
  unfold snOk at *; rw [List.range_succ, List.all_append, h]; simp [h2]
theorem snOk_no {A0 A1 A2 A3 T : Option Nat} {X V : List Nat} {k n : Nat} (hk : k < n) (h2 : (snIt A0 A1 A2 A3 T X V (k + 1)).ok = false) : snOk A0 A1 A2 A3 T X V n = false := by
  unfold snOk
  rw [Bool.eq_false_iff]
  intro h
  have := List.all_eq_true.1 h k (List.mem_range.2 hk)
  rw [h2] at this; cases this
theorem snOuts_succ (A0 A1 A2 A3 T : Option Nat) (X V : List Nat) (k : Nat) : snOuts A0 A1 A2 A3 T X V (k + 1) = snOuts A0 A1 A2 A3 T X V k ++ [(snIt A0 A1 A2 A3 T X V (k + 1)).out] := by unfold snOuts; rw [List.range_succ, List.map_append]; rfl
theorem end_out {A0 A1 I W : Option Nat} (h : (endO A0 A1 I W).ok = true) : fin32o (endO A0 A1 I W).out = true ∧ snowO (endO A0 A1 I W).s0 (endO A0 A1 I W).s1 (endO A0 A1 I W).s2 (endO A0 A1 I W).s3 = true := by
  unfold endO at h ⊢
  split at h
  · rename_i hc
    rw [if_pos hc]
    split at h
    · rename_i h2; rw [if_pos h2]; rw [Bool.and_eq_true] at h2; exact ⟨h2.2, h2.1⟩
    · cases h
  · rename_i hc
    rw [if_neg hc]
    split at h
    · rename_i h2; rw [if_pos h2]; rw [Bool.and_eq_true] at h2; exact ⟨h2.2, h2.1⟩
    · cases h
theorem step_out {A0 A1 A2 A3 X V T : Option Nat} (h : (snowStep A0 A1 A2 A3 X V T).ok = true) : fin32o (snowStep A0 A1 A2 A3 X V T).out = true ∧ snowO (snowStep A0 A1 A2 A3 X V T).s0 (snowStep A0 A1 A2 A3 X V T).s1 (snowStep A0 A1 A2 A3 X V T).s2 (snowStep A0 A1 A2 A3 X V T).s3 = true ∧ fin32o V = true := by
  unfold snowStep at h ⊢
  split at h
  · rename_i hc
    rw [if_pos hc]
    simp only [Bool.and_eq_true] at hc
    exact ⟨(end_out h).1, (end_out h).2, hc.1.2⟩
  · cases h
theorem snOuts_fin {A0 A1 A2 A3 T : Option Nat} {X V : List Nat} : ∀ {n : Nat}, snOk A0 A1 A2 A3 T X V n = true → (snOuts A0 A1 A2 A3 T X V n).all fin32o = true
  | n, h => by
    unfold snOuts
    rw [List.all_map, List.all_eq_true]
    intro k hk
    exact (step_out (List.all_eq_true.1 h k hk)).1
theorem snIt_snow {A0 A1 A2 A3 T : Option Nat} {X V : List Nat} (h0 : snowO A0 A1 A2 A3 = true) : ∀ {n : Nat}, snOk A0 A1 A2 A3 T X V n = true → snowO (snIt A0 A1 A2 A3 T X V n).s0 (snIt A0 A1 A2 A3 T X V n).s1 (snIt A0 A1 A2 A3 T X V n).s2 (snIt A0 A1 A2 A3 T X V n).s3 = true
  | 0, _ => h0
  | n + 1, h => (step_out (List.all_eq_true.1 h n (List.mem_range.2 (Nat.lt_succ_self n)))).2.1
theorem snOk_warm {A0 A1 A2 A3 T : Option Nat} {X V : List Nat} (h : snOk A0 A1 A2 A3 T X V V.length = true) : V.all fin32 = true := by
  rw [List.all_eq_true]
  intro v hv
  obtain ⟨i, hi, rfl⟩ := List.getElem_of_mem hv
  have := (step_out (List.all_eq_true.1 h i (List.mem_range.2 hi))).2.2
  rw [List.getD_eq_getElem?_getD, List.getElem?_eq_getElem hi] at this
  exact this
theorem row_at {w : World} {a : Option Addr} {zs : List Nat} (h : RowF .f32 w a zs) (hn : 0 < zs.length) : ∃ b off, a = some ⟨b, off, none⟩ ∧ b < w.heap.size ∧ ∀ i, i < zs.length → w.cell? ⟨b, off + i, none⟩ = some (.float .f32 (zs.getD i 0)) := by
  rcases h with rfl | ⟨b, off, h1, hb, hc⟩
  · simp at hn
  · exact ⟨b, off, h1, hb, hc⟩

def snInv (a0 : Act) (w0 : World) (R : SnowR) (g N k bv ov M cap c0 c1 c2 c3 x v t : Nat) (zs : List Nat) (d : Array Bool) (a : Act) (w : World) : Prop :=
  ∃ (u14 u46 u47 u48 u49 u50 u51 u52 u53 u54 u55 u56 u57 u58 u59 u60 : Value) (y0 y1 y2 y3 yo : Nat), a = ((((((((((((((((a0.put (some 14) u14).put (some 46) u46).put (some 47) u47).put (some 48) u48).put (some 49) u49).put (some 50) u50).put (some 51) u51).put (some 52) u52).put (some 53) u53).put (some 54) u54).put (some 55) u55).put (some 56) u56).put (some 57) u57).put (some 58) u58).put (some 59) u59).put (some 60) u60) ∧ Gd d 0 (u47 = .slice (some ⟨g, 0, none⟩) N N) ∧ Gd d 1 (u48 = .int .i64 k) ∧ Gd d 2 (u49 = .agg #[.float .f32 c0, .float .f32 c1, .float .f32 c2, .float .f32 c3]) ∧ Gd d 3 (u50 = .float .f32 x) ∧ Gd d 4 (u51 = .slice (some ⟨bv, ov, none⟩) M cap) ∧ Gd d 5 (u52 = .int .i64 k) ∧ Gd d 6 (u53 = .pointer (some ⟨bv, ov + k, none⟩)) ∧ Gd d 7 (u54 = .float .f32 v) ∧ Gd d 8 (u55 = .float .f32 t) ∧ Gd d 9 (u56 = .tuple #[.agg #[.float .f32 y0, .float .f32 y1, .float .f32 y2, .float .f32 y3], .float .f32 yo, .bool R.ok] ∧ (Is32 R.s0 y0 ∧ Is32 R.s1 y1 ∧ Is32 R.s2 y2 ∧ Is32 R.s3 y3 ∧ Is32 R.out yo)) ∧ Gd d 10 (u46 = .tuple #[.agg #[.float .f32 y0, .float .f32 y1, .float .f32 y2, .float .f32 y3], .float .f32 yo, .bool R.ok]) ∧ Gd d 11 (u57 = .agg #[.float .f32 y0, .float .f32 y1, .float .f32 y2, .float .f32 y3]) ∧ Gd d 12 (u58 = .float .f32 yo) ∧ Gd d 13 (u59 = .bool R.ok) ∧ Gd d 15 (u60 = .pointer (some ⟨g, k, none⟩)) ∧ Gd d 17 (u14 = .bool R.ok) ∧ Below w0.heap.size w0 w ∧ Ng d 14 (Bw w w0.heap.size [.float .f32 c0, .float .f32 c1, .float .f32 c2, .float .f32 c3]) ∧ Gd d 14 (Bw w w0.heap.size [.float .f32 y0, .float .f32 y1, .float .f32 y2, .float .f32 y3]) ∧ Bw w (w0.heap.size + 1) [.float .f32 0, .float .f32 0, .float .f32 0, .float .f32 0] ∧ Ng d 16 (RowO w (w0.heap.size + 2) (.slice (some ⟨g, 0, none⟩) N N) zs) ∧ Gd d 16 (RowO w (w0.heap.size + 2) (.slice (some ⟨g, 0, none⟩) N N) (zs.set k yo))
theorem snInv.mk {a0 : Act} {w0 : World} {R : SnowR} {g N k bv ov M cap c0 c1 c2 c3 x v t : Nat} {zs : List Nat} {d : Array Bool} {a : Act} {w : World} (u14 u46 u47 u48 u49 u50 u51 u52 u53 u54 u55 u56 u57 u58 u59 u60 : Value) (y0 y1 y2 y3 yo : Nat) (e : a = ((((((((((((((((a0.put (some 14) u14).put (some 46) u46).put (some 47) u47).put (some 48) u48).put (some 49) u49).put (some 50) u50).put (some 51) u51).put (some 52) u52).put (some 53) u53).put (some 54) u54).put (some 55) u55).put (some 56) u56).put (some 57) u57).put (some 58) u58).put (some 59) u59).put (some 60) u60)) (f0 : Gd d 0 (u47 = .slice (some ⟨g, 0, none⟩) N N)) (f1 : Gd d 1 (u48 = .int .i64 k)) (f2 : Gd d 2 (u49 = .agg #[.float .f32 c0, .float .f32 c1, .float .f32 c2, .float .f32 c3])) (f3 : Gd d 3 (u50 = .float .f32 x)) (f4 : Gd d 4 (u51 = .slice (some ⟨bv, ov, none⟩) M cap)) (f5 : Gd d 5 (u52 = .int .i64 k)) (f6 : Gd d 6 (u53 = .pointer (some ⟨bv, ov + k, none⟩))) (f7 : Gd d 7 (u54 = .float .f32 v)) (f8 : Gd d 8 (u55 = .float .f32 t)) (f9 : Gd d 9 (u56 = .tuple #[.agg #[.float .f32 y0, .float .f32 y1, .float .f32 y2, .float .f32 y3], .float .f32 yo, .bool R.ok] ∧ (Is32 R.s0 y0 ∧ Is32 R.s1 y1 ∧ Is32 R.s2 y2 ∧ Is32 R.s3 y3 ∧ Is32 R.out yo))) (f10 : Gd d 10 (u46 = .tuple #[.agg #[.float .f32 y0, .float .f32 y1, .float .f32 y2, .float .f32 y3], .float .f32 yo, .bool R.ok])) (f11 : Gd d 11 (u57 = .agg #[.float .f32 y0, .float .f32 y1, .float .f32 y2, .float .f32 y3])) (f12 : Gd d 12 (u58 = .float .f32 yo)) (f13 : Gd d 13 (u59 = .bool R.ok)) (f15 : Gd d 15 (u60 = .pointer (some ⟨g, k, none⟩))) (f17 : Gd d 17 (u14 = .bool R.ok)) (hbel : Below w0.heap.size w0 w) (hs14 : Ng d 14 (Bw w w0.heap.size [.float .f32 c0, .float .f32 c1, .float .f32 c2, .float .f32 c3])) (gs14 : Gd d 14 (Bw w w0.heap.size [.float .f32 y0, .float .f32 y1, .float .f32 y2, .float .f32 y3])) (hres : Bw w (w0.heap.size + 1) [.float .f32 0, .float .f32 0, .float .f32 0, .float .f32 0]) (hr16 : Ng d 16 (RowO w (w0.heap.size + 2) (.slice (some ⟨g, 0, none⟩) N N) zs)) (gr16 : Gd d 16 (RowO w (w0.heap.size + 2) (.slice (some ⟨g, 0, none⟩) N N) (zs.set k yo))) : snInv a0 w0 R g N k bv ov M cap c0 c1 c2 c3 x v t zs d a w :=
  ⟨u14, u46, u47, u48, u49, u50, u51, u52, u53, u54, u55, u56, u57, u58, u59, u60, y0, y1, y2, y3, yo, e, f0, f1, f2, f3, f4, f5, f6, f7, f8, f9, f10, f11, f12, f13, f15, f17, hbel, hs14, gs14, hres, hr16, gr16⟩
theorem snInv.start {a0 : Act} {w0 : World} {R : SnowR} {g N k bv ov M cap c0 c1 c2 c3 x v t : Nat} {zs : List Nat} {w : World} (n : Nat) (hbel : Below w0.heap.size w0 w) (hs : Bw w w0.heap.size [.float .f32 c0, .float .f32 c1, .float .f32 c2, .float .f32 c3]) (hres : Bw w (w0.heap.size + 1) [.float .f32 0, .float .f32 0, .float .f32 0, .float .f32 0]) (hr : RowO w (w0.heap.size + 2) (.slice (some ⟨g, 0, none⟩) N N) zs) : snInv a0 w0 R g N k bv ov M cap c0 c1 c2 c3 x v t zs (Array.replicate n false) a0 w :=
  ⟨a0.tmps.getD 14 undef, a0.tmps.getD 46 undef, a0.tmps.getD 47 undef, a0.tmps.getD 48 undef, a0.tmps.getD 49 undef, a0.tmps.getD 50 undef, a0.tmps.getD 51 undef, a0.tmps.getD 52 undef, a0.tmps.getD 53 undef, a0.tmps.getD 54 undef, a0.tmps.getD 55 undef, a0.tmps.getD 56 undef, a0.tmps.getD 57 undef, a0.tmps.getD 58 undef, a0.tmps.getD 59 undef, a0.tmps.getD 60 undef, 0, 0, 0, 0, 0, by simp only [put_self], .start, .start, .start, .start, .start, .start, .start, .start, .start, .start, .start, .start, .start, .start, .start, .start, hbel, .start hs, .start, hres, .start hr, .start⟩

end Go.Proofs.Ytfdcfalkidcdnab
