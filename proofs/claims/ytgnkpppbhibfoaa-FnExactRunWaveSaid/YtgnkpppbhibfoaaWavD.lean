/- Waves down a slope: plain facts, an append on what has no room. -/
import Derived.Test.YtgnkpppbhibfoaaReachA
import Derived.Test.YtgnkpppbhibfoaaRootN
import Derived.Test.YtgnkpppbhibfoaaIs32
import Derived.Test.YtgnkpppbhibfoaaGrow
import Derived.Test.YtgnkpppbhibfoaaIsRain
namespace Go.Proofs.Ytgnkpppbhibfoaa
open Go.RowKit
set_option linter.unusedVariables false
set_option linter.unusedSimpArgs false
set_option maxRecDepth 100000
attribute [local irreducible] wpV wpList Code.wp

def flO (R : Option Nat) (A : List Nat) (k : Nat) : Option Nat := wflowU R (some (A.getD k 0))
def wlenO (R X T : Option Nat) : Option Nat := fop .mul .f32 (fop .mul .f32 (fop .mul .f32 (some 1069547520) R) (rootO X)) T
def wcome (R I : Option Nat) (A : List Nat) : Nat → Option Nat
  | 0 => I
  | k + 1 => flO R A k
def clampO (X : Option Nat) : Option Nat := if fcmp .lss .f32 X (some 0) then some 0 else X
def wraw (R I D T : Option Nat) (A : List Nat) (k : Nat) : Option Nat := fop .add .f32 (some (A.getD k 0)) (fop .mul .f32 (fop .quo .f32 T D) (fop .sub .f32 (wcome R I A k) (flO R A k)))
def wnx (R I D T : Option Nat) (A : List Nat) (k : Nat) : Option Nat := clampO (wraw R I D T A k)
def slopeW (A : List Nat) : Bool := decide ((1 : Int) ≤ (A.length : Int)) && decide ((A.length : Int) ≤ 48) && A.all amtB
def guardW (R D T : Option Nat) (A : List Nat) : Bool := slopeW A && posO R && posO D && posO T
def shortB (R D T : Option Nat) (A : List Nat) (j : Nat) : Bool := !fcmp .gtr .f32 (wlenO R (some (A.getD j 0)) T) D
def shortO (R D T : Option Nat) (A : List Nat) (k : Nat) : Bool := (List.range k).all (shortB R D T A)
def flowsO (R : Option Nat) (A : List Nat) (k : Nat) : Bool := (List.range k).all fun j => fin32o (flO R A j)
def nxL (R I D T : Option Nat) (A : List Nat) (k : Nat) : List (Option Nat) := (List.range k).map (wnx R I D T A)
def failWav : List Nat × Option Nat × Bool := ([], some 0, false)
/-- A tick of a slope. -/
def waveV (R I D T : Option Nat) (A : List Nat) : List Nat × Option Nat × Bool :=
  if shortO R D T A A.length && ((nxL R I D T A A.length).all fin32o && fin32o (flO R A (A.length - 1))) then ((nxL R I D T A A.length).map (fun Y => Y.getD 0), flO R A (A.length - 1), true) else failWav
def stepW (R I D T : Option Nat) (A : List Nat) : List Nat × Option Nat × Bool := if guardW R D T A && amtO I then waveV R I D T A else failWav
theorem range_all_succ {p : Nat → Bool} {k : Nat} (h : (List.range k).all p = true) (h2 : p k = true) : (List.range (k + 1)).all p = true := by rw [List.range_succ, List.all_append, h]; simp [h2]
theorem range_all_no {p : Nat → Bool} {k n : Nat} (hk : k < n) (h2 : p k = false) : (List.range n).all p = false := by
  rw [Bool.eq_false_iff]
  intro h
  have := List.all_eq_true.1 h k (List.mem_range.2 hk)
  rw [h2] at this; cases this
theorem range_all_at {p : Nat → Bool} {k n : Nat} (h : (List.range n).all p = true) (hk : k < n) : p k = true := List.all_eq_true.1 h k (List.mem_range.2 hk)
theorem nxL_succ (R I D T : Option Nat) (A : List Nat) (k : Nat) : nxL R I D T A (k + 1) = nxL R I D T A k ++ [wnx R I D T A k] := by unfold nxL; rw [List.range_succ, List.map_append]; rfl
theorem nxL_len (R I D T : Option Nat) (A : List Nat) (k : Nat) : (nxL R I D T A k).length = k := by simp [nxL]
theorem nxL_at {R I D T : Option Nat} {A : List Nat} {n k : Nat} (h : (nxL R I D T A n).all fin32o = true) (hk : k < n) : fin32o (wnx R I D T A k) = true := List.all_eq_true.1 h _ (List.mem_map.2 ⟨k, List.mem_range.2 hk, rfl⟩)
theorem wget_lt {A : List Nat} (h : ∀ z ∈ A, z < 4294967296) (k : Nat) : A.getD k 0 < 4294967296 := by
  rw [List.getD_eq_getElem?_getD]
  by_cases hk : k < A.length
  · rw [List.getElem?_eq_getElem hk]; exact h _ (List.getElem_mem _)
  · rw [List.getElem?_eq_none (by omega)]; decide
theorem slope_fn {A : List Nat} (hz : ∀ z ∈ A, z < 4294967296) (h : slopeW A = true) {k : Nat} (hk : k < A.length) : FN (A.getD k 0) := by
  unfold slopeW at h
  rw [Bool.and_eq_true] at h
  have h9 := all_getD (p := amtB) h.2 k 0 hk
  exact (amt_fn (Is32.c (wget_lt hz k)) h9).2
theorem clamp_up {X : Option Nat} (h : Up X) : fin32o (clampO X) = false := by unfold clampO; rw [h.lss]; exact h.fin
/-- Where a flow is infinite, so is the next area, or the last flow. -/
theorem flow_back {R I D T : Option Nat} {r d t : Nat} {A : List Nat} (hr : Is32 R r) (hd : Is32 D d) (ht : Is32 T t) (hz : ∀ z ∈ A, z < 4294967296) (hg : guardW R D T A = true) (hn : (nxL R I D T A A.length).all fin32o = true) (hl : fin32o (flO R A (A.length - 1)) = true) :
    ∀ j k, k + j + 1 = A.length → fin32o (flO R A k) = true
  | 0, k, h => by rw [show k = A.length - 1 by omega]; exact hl
  | j + 1, k, h => by
    have ih := flow_back hr hd ht hz hg hn hl j (k + 1) (by omega)
    unfold guardW at hg
    simp only [Bool.and_eq_true] at hg
    obtain ⟨⟨⟨gs, gr⟩, gd⟩, gt⟩ := hg
    obtain ⟨rfl, fr, _⟩ := pos_fn hr gr
    obtain ⟨rfl, fd, pd⟩ := pos_fn hd gd
    obtain ⟨rfl, ft, _⟩ := pos_fn ht gt
    have a0 := slope_fn hz gs (k := k) (by omega)
    have a1 := slope_fn hz gs (k := k + 1) (by omega)
    have n0 : Nno9 (flO (some r) A k) := flow_nno fr a0
    have n1 : Nno9 (flO (some r) A (k + 1)) := flow_nno fr a1
    cases hf : fin32o (flO (some r) A k) with
    | true => rfl
    | false =>
      exfalso
      obtain ⟨q, hq, hqn, _⟩ := quo_fn ft fd pd
      have hx := nxL_at hn (k := k + 1) (by omega)
      have hs : Up (fop .sub .f32 (flO (some r) A k) (flO (some r) A (k + 1))) := by
        rcases n1 with h1 | ⟨y, h1, hy⟩
        · rw [h1] at ih; cases ih
        · rw [h1]
          rw [h1] at ih
          exact (n0.up hf).sub (hy.fn (of_decide_eq_true ih))
      have hq9 : fop .quo .f32 (some t) (some d) = some q := hq
      have hu : Up (wraw (some r) I (some d) (some t) A (k + 1)) := by
        unfold wraw
        rw [hq9]
        exact (hs.mul hqn).add a1
      have h9 := clamp_up hu
      unfold wnx at hx
      rw [h9] at hx
      cases hx
theorem wav_noflow {R I D T : Option Nat} {r d t : Nat} {A : List Nat} {k : Nat} (hr : Is32 R r) (hd : Is32 D d) (ht : Is32 T t) (hz : ∀ z ∈ A, z < 4294967296) (hg : guardW R D T A = true) (hk : k < A.length) (hf : fin32o (flO R A k) = false) : waveV R I D T A = failWav := by
  unfold waveV
  rw [if_neg]
  rw [Bool.and_eq_true, Bool.and_eq_true]
  rintro ⟨_, h2, h3⟩
  have := flow_back hr hd ht hz hg h2 h3 (A.length - k - 1) k (by omega)
  rw [hf] at this; cases this
theorem wav_long {R I D T : Option Nat} {A : List Nat} {k : Nat} (hk : k < A.length) (hf : shortB R D T A k = false) : waveV R I D T A = failWav := by
  unfold waveV shortO
  rw [range_all_no hk hf]; rfl
theorem wav_nofin {R I D T : Option Nat} {A : List Nat} (hf : (nxL R I D T A A.length).all fin32o = false) : waveV R I D T A = failWav := by
  unfold waveV
  rw [hf, Bool.false_and, Bool.and_false]; rfl
theorem wav_nolast {R I D T : Option Nat} {A : List Nat} (hf : fin32o (flO R A (A.length - 1)) = false) : waveV R I D T A = failWav := by
  unfold waveV
  rw [hf, Bool.and_false, Bool.and_false]; rfl
theorem wav_yes {R I D T : Option Nat} {A : List Nat} (h1 : shortO R D T A A.length = true) (h2 : (nxL R I D T A A.length).all fin32o = true) (h3 : fin32o (flO R A (A.length - 1)) = true) : waveV R I D T A = ((nxL R I D T A A.length).map (fun Y => Y.getD 0), flO R A (A.length - 1), true) := by
  unfold waveV
  rw [h1, h2, h3]; rfl
theorem amt_clamp {X : Option Nat} {z : Nat} (h : Is32 (clampO X) z) : amtB z = fin32o (clampO X) := by
  unfold amtB amtO
  have hz := fin_o h
  have hz2 : fin32o (some z) = fin32 z := rfl
  cases hc : clampO X with
  | none => rw [hz2, hz, hc]; exact Bool.and_false _
  | some v =>
    rw [hc] at h
    have e := h.eq
    subst e
    cases hf : fin32o (some z) with
    | false => rw [Bool.and_false]
    | true =>
      rw [Bool.and_true]
      refine geq_of h.2 hf ?_
      unfold clampO at hc
      split at hc
      · cases hc; decide +kernel
      · rename_i hn
        rw [hc] at hn
        simpa using hn
theorem slope_next {R I D T : Option Nat} {A zs : List Nat} (hg : slopeW A = true) (h : Is32s (nxL R I D T A A.length) zs) : slopeW zs = (nxL R I D T A A.length).all fin32o := by
  have hl : zs.length = A.length := by rw [← h.1, nxL_len]
  unfold slopeW at hg ⊢
  rw [Bool.and_eq_true] at hg
  rw [hl, hg.1, Bool.true_and]
  refine all_same _ _ 0 none _ _ h.1.symm fun i hi => ?_
  have h9 := h.2 i hi
  have e : (nxL R I D T A A.length).getD i none = wnx R I D T A i := by
    unfold nxL
    rw [List.getD_eq_getElem?_getD, List.getElem?_map, List.getElem?_range (by omega)]
    rfl
  rw [e] at h9 ⊢
  exact amt_clamp h9
/-- A list, a number and a bool; in new memory. -/
def WavB (V : List Nat × Option Nat × Bool) (w : World) (e : Ending) (w' : World) : Prop :=
  ∃ a cap z, e = .returned (.tuple #[.slice a V.1.length cap, .float .f32 z, .bool V.2.2]) ∧ Is32 V.2.1 z ∧ FRow w' w.heap.size w'.heap.size (.slice a V.1.length cap) V.1 ∧ V.1.length ≤ 1048576 ∧ Below w.heap.size w w'
theorem WavB.no {w w' : World} (hb : Below w.heap.size w w') : WavB failWav w (.returned (.tuple #[.slice none 0 0, .float .f32 0, .bool false])) w' := ⟨none, 0, 0, rfl, Is32.c (by decide), FRow.nil w' _, by decide, hb⟩
theorem WavB.yes {w w' : World} {lo : Nat} {v : Value} {zs : List Nat} {F : Option Nat} {z : Nat} (h : RowO w' lo v zs) (hlo : w.heap.size ≤ lo) (hz : Is32 F z) (hl : zs.length ≤ 1048576) (hb : Below w.heap.size w w') : WavB (zs, F, true) w (.returned (.tuple #[v, .float .f32 z, .bool true])) w' := by
  obtain ⟨a, cap, rfl⟩ := h.len
  exact ⟨a, cap, z, rfl, hz, (FRow.mk h).mono hlo (Nat.le_refl _) (Nat.le_refl _), hl, hb⟩
/-- A row of the call's own, or a slice without elements and capacity. -/
def OwnZ (w : World) (lo : Nat) (v : Value) (zs : List Nat) : Prop := RowO w lo v zs ∨ (zs = [] ∧ ∃ b, v = .slice (some b) 0 0)
theorem OwnZ.below {w w' : World} {lo B : Nat} {v : Value} {zs : List Nat} (h : OwnZ w lo v zs) (hb : Below B w w') (hB : w.heap.size ≤ B) : OwnZ w' lo v zs := h.imp (fun h => h.below hb hB) id
theorem OwnZ.alloc {w : World} {lo : Nat} {v : Value} {zs : List Nat} (h : OwnZ w lo v zs) (o : Obj) : OwnZ (w.alloc o) lo v zs := h.imp (fun h => h.alloc o) id
theorem OwnZ.drewN {w : World} {lo : Nat} {v : Value} {zs : List Nat} (h : OwnZ w lo v zs) (n : Nat) : OwnZ (w.drewN n) lo v zs := h
theorem run_append_cap0 {P : Program} (w : World) (t ty e : TypeId) (i : TypeInfo) (z : Value) (ht : P.underlying t = some (.slice e)) (hi : P.info? e = some i) (hz : i.zero = some z) (b a : Addr) (n c : Nat) (news : List Value) (hl : news.length = n * i.size) (hnews : ∀ j v, news[j]? = some v → w.cell? (a.add j) = some v)
    (h0 : 0 < n) (h63 : (n : Int) ≤ 9223372036854775807) (h48 : n * i.bytes ≤ 281474976710656) :
    (Builtin.append_ #[t, t] ty #[.slice (some b) 0 0, .slice (some a) n c]).run P w = (Builtin.append_ #[t, t] ty #[.slice none 0 0, .slice (some a) n c]).run P w := by
  rw [run_append_nil w t ty e i z ht hi hz a n c news hl hnews h0 h63 h48, run_append_grow w t ty e i z ht hi hz b 0 0 [] (by simp) (by intro j v h; simp at h) a n c news hl hnews (by omega) (by simpa using h63) (by rw [Nat.zero_add, nextslicecap_zero h0]; exact h48)]
  simp
section
variable {P : Program} {w : World} {ops : Array Oper} {rest : List Oper} {o : Oper} {a : Act} {Q : Exit → Act → World → Prop}
theorem push_z (P9 : Try.prog = P) (hgd : o.guard = none) (s x : Operand) (ho : o.op = .call { callee := .builtin .append, args := #[s, x], argTypes := #[22, 22] })
    {lo : Nat} {v : Value} {zs : List Nat} (hs : a.eval s = v) (hown : OwnZ w lo v zs) (b c z : Nat) (hx : a.eval x = .slice (some ⟨b, 0, none⟩) 1 c) (hc : w.cell? ⟨b, 0, none⟩ = some (.float .f32 z)) (hl : zs.length ≤ 1048576) (hlo : lo ≤ w.heap.size)
    (h : ∀ g cap w', RowO w' lo (.slice (some ⟨g, 0, none⟩) (zs.length + 1) cap) (zs ++ [z]) → Below lo w w' → wpList P ops Q rest (a.put o.dst (.slice (some ⟨g, 0, none⟩) (zs.length + 1) cap)) w') : wpList P ops Q (o :: rest) a w := by
  rcases hown with hown | ⟨rfl, b0, rfl⟩
  · exact push_any P9 hgd s x ho hs hown b c z hx hc hl hlo fun g cap w' h1 h2 => h g cap w' h1 (Below.pushed (Below.refl lo w |> fun h => ⟨h.1, h.2, h.3, h.4, h.5⟩) h2 hown (Nat.le_refl _) hlo)
  · subst P9
    obtain ⟨i0, hi, hz0, hz1, hz2⟩ := info_parts info_f32
    refine wpList_plain hgd fun K hK => ?_
    have hn : ∀ j u, [Value.float .f32 z][j]? = some u → w.cell? ((⟨b, 0, none⟩ : Addr).add j) = some u := by
      intro j u hj
      rcases j with _ | j
      · simp only [List.getElem?_cons_zero, Option.some.injEq] at hj; subst hj; simpa [Addr.add] using hc
      · simp at hj
    obtain ⟨g, cap, w', hr, h2, h3, h4, h5⟩ := run_append_lies (P := Try.prog) w 22 o.type lo 23 i0 (.float .f32 0) 1 4 Try.underlying22 hi hz0 hz1 hz2 rfl (by decide) (.slice none 0 0) 0 [] (World.ownsRow_nil w lo _ 1) ⟨b, 0, none⟩ 1 c [.float .f32 z] rfl hn (by intro u hu; simp at hu; subst hu; rfl) (by decide) (by unfold maxLen; omega) (by omega) hlo _ rfl
    have hr9 := run_append_cap0 (P := Try.prog) w 22 o.type 23 i0 (.float .f32 0) Try.underlying22 hi hz0 b0 ⟨b, 0, none⟩ 1 c [.float .f32 z] (by rw [hz1]; rfl) hn (by decide) (by decide) (by rw [hz2]; decide)
    have hg := h g cap w' (by unfold RowO; simpa using h2) ((Below.refl lo w).grown h3 hlo fun k hk => by cases hk)
    unfold Oper.wp execOp
    simp only [ho, resolve, invoke, builtin, Sem.run_bind, Sem.run_pure, Result.andThen_ok, List.map_toArray, List.map_cons, List.map_nil, hs, hx, hr9, hr]
    exact hK _ _ (by simpa using hg)
end

end Go.Proofs.Ytgnkpppbhibfoaa
