/- Slices of slices of integers: what comes in, copies, looks, marks. -/
import Derived.Test.YtckmacnmmloemaaRivO
import Derived.Test.YtckmacnmmloemaaRivH
import Derived.Deep.QuietTactic
import Derived.Deep.Slices
namespace Go.Proofs.Ytckmacnmmloemaa
open Go.RowKit
set_option linter.unusedVariables false
set_option linter.unusedSimpArgs false
set_option maxRecDepth 100000
attribute [local irreducible] wpV wpList Code.wp

open Go.Joins Go.ChangeShapes Go.WideShapes Go.Deep
/-- The rows of a slice of slices. -/
abbrev zr (Zs : List (List Int)) (k : Nat) : List Int := Zs.getD k []
def totZ (Zs : List (List Int)) (k : Nat) : Nat := ((List.range k).map fun j => (zr Zs j).length).sum
theorem totZ_zero (Zs : List (List Int)) : totZ Zs 0 = 0 := rfl
theorem totZ_succ (Zs : List (List Int)) (k : Nat) : totZ Zs (k + 1) = totZ Zs k + (zr Zs k).length := by unfold totZ; rw [List.range_succ, List.map_append, List.sum_append]; simp
theorem totZ_le (Zs : List (List Int)) {k m : Nat} (h : k ≤ m) : totZ Zs k ≤ totZ Zs m := by
  induction m with
  | zero => have : k = 0 := by omega
            subst this; exact Nat.le_refl _
  | succ m ih =>
    by_cases hk : k ≤ m
    · have := ih hk; rw [totZ_succ]; omega
    · have : k = m + 1 := by omega
      subst this; exact Nat.le_refl _
theorem row_le {Zs : List (List Int)} {k n : Nat} (h : k < n) : (zr Zs k).length ≤ totZ Zs n := by
  have h1 := totZ_le Zs (show k + 1 ≤ n by omega)
  rw [totZ_succ] at h1; omega
def RowSS (w : World) (a : Option Addr) (Zs : List (List Int)) : Prop :=
  Zs = [] ∨ ∃ b off, a = some ⟨b, off, none⟩ ∧ b < w.heap.size ∧ ∀ k, k < Zs.length → ∃ ak ck, w.cell? ⟨b, off + k, none⟩ = some (.slice ak (zr Zs k).length ck) ∧ RowC w ak (ic (zr Zs k))
theorem RowSS.below {w w' : World} {B : Nat} {a : Option Addr} {Zs : List (List Int)} (h : RowSS w a Zs) (hb : Below B w w') (hB : w.heap.size ≤ B) : RowSS w' a Zs := by
  rcases h with h | ⟨b, off, h1, h2, h3⟩
  · exact .inl h
  · refine .inr ⟨b, off, h1, Nat.lt_of_lt_of_le h2 hb.size, fun k hk => ?_⟩
    obtain ⟨ak, ck, h4, h5⟩ := h3 k hk
    exact ⟨ak, ck, by rw [hb.cell (p := ⟨b, off + k, none⟩) (by show b < B; omega)]; exact h4, h5.below hb hB⟩
theorem RowSS.drewN {w : World} {a : Option Addr} {Zs : List (List Int)} (h : RowSS w a Zs) (n : Nat) : RowSS (w.drewN n) a Zs := h
/-- A slice of slices that came in. -/
def IsRowSS (w : World) (a : Option Addr) (len cap : Nat) (Zs : List (List Int)) : Prop := Zs.length = len ∧ len ≤ cap ∧ cap ≤ maxLen ∧ RowSS w a Zs ∧ ∀ k, k < len → (zr Zs k).length ≤ maxLen
section
variable {H : Type} {enc : TypeId × Value → H} {w : World} {base : Nat} {spare : Nat → Bool} {held : Bool}
theorem isRowSS_of {a' : Addr} {len cap : Nat} (hl : len ≤ cap) (hm : cap ≤ maxLen) (each : ∀ k, k < len → ∃ (zs : List Int) (ak : Option Addr) (ck : Nat), w.cell? (a'.add k) = some (.slice ak zs.length ck) ∧ RowC w ak (ic zs) ∧ zs.length ≤ maxLen) : ∃ Zs, IsRowSS w (some a') len cap Zs := by
  have e1 : ∀ k (hk : k < len), zr ((List.range len).map (fun k => if h : k < len then Classical.choose (each k h) else [])) k = Classical.choose (each k hk) := by
    intro k hk
    unfold zr
    rw [List.getD_eq_getElem?_getD, List.getElem?_map, List.getElem?_range hk]
    simp only [Option.map_some, Option.getD_some, dif_pos hk]
  refine ⟨(List.range len).map (fun k => if h : k < len then Classical.choose (each k h) else []), by simp, hl, hm, ?_, ?_⟩
  · by_cases h0 : len = 0
    · left; subst h0; rfl
    · obtain ⟨b, off, spot⟩ := a'
      have hspot : spot = none := by
        obtain ⟨zs, ak, ck, hn, _⟩ := each 0 (by omega)
        simpa [Addr.add] using World.cell?_spot hn
      subst hspot
      refine .inr ⟨b, off, rfl, ?_, fun k hk => ?_⟩
      · obtain ⟨zs, ak, ck, hn, _⟩ := each 0 (by omega)
        simpa [Addr.add] using cell_lt hn
      · simp only [List.length_map, List.length_range] at hk
        have hsp := Classical.choose_spec (each k hk)
        rw [e1 k hk]
        generalize Classical.choose (each k hk) = z at hsp ⊢
        obtain ⟨ak, ck, h1, h2, h3⟩ := hsp
        rw [Go.WideShapes.add_plain] at h1
        exact ⟨ak, ck, h1, h2⟩
  · intro k hk
    rw [e1 k hk]
    obtain ⟨ak, ck, h1, h2, h3⟩ := Classical.choose_spec (each k hk)
    exact h3
theorem open_ss9 {fuel : Nat} {v : Value} {x : DataW H × List MemPlace} (h : DataW.trod enc Try.prog w base spare held fuel 39 [v] = some x) : ∃ a len cap Zs, v = .slice a len cap ∧ IsRowSS w a len cap Zs := by
  rcases open_slice Try.underlying39 h with ⟨hcs, _⟩ | ⟨a', len, cap, m, n, D, Pl, hcs, hb, hl, hm, hmm, hx, hi⟩
  · obtain rfl : v = .slice none 0 0 := by simpa using hcs
    exact ⟨none, 0, 0, [], rfl, rfl, Nat.le_refl _, Nat.zero_le _, .inl rfl, fun k hk => by omega⟩
  · obtain rfl : v = .slice (some a') len cap := by simpa using hcs
    obtain ⟨Zs, hz⟩ := isRowSS_of (w := w) (a' := a') hl hm (fun q hq => by
      obtain ⟨cs', hc, ht'⟩ := hi q (by rw [hmm]; split <;> omega)
      have hC : Try.prog.cellsOf 22 = 1 := by kernel_rfl
      rw [hC, Nat.mul_one] at hc
      obtain ⟨_, hcl, hat⟩ := World.cells?_some hc
      obtain ⟨u, rfl⟩ : ∃ u, cs' = [u] := by
        match cs', hcl with
        | [u], _ => exact ⟨u, rfl⟩
      obtain ⟨ak, lk, ck, zs, rfl, h1, h2, h3, h4, _⟩ := open_ints9 (v := u) ht'
      rw [Nat.mul_one] at h1
      subst h1
      exact ⟨zs, ak, ck, Go.ChangeShapes.cell_of_cells?_one hc, h4, by omega⟩)
    exact ⟨_, _, _, Zs, rfl, hz⟩
end
/-- A slice of slices that a call made: its rows lie apart from it and from one another. -/
structure MadeSS (w : World) (lo hi : Nat) (v : Value) (n : Nat) (Zs : List (List Int)) (S : List Value) : Prop where
  out : HRow w 22 1 lo hi v n S
  len : Zs.length = n
  row : ∀ k, k < n → ∃ ak ck, S[k]? = some (.slice ak (zr Zs k).length ck) ∧ HRow w 2 1 lo hi (.slice ak (zr Zs k).length ck) (zr Zs k).length (ic (zr Zs k))
  far : ∀ (k : Nat) (u : Value) (b : Nat), S[k]? = some u → u.ownBlock = some b → v.ownBlock ≠ some b
  apart : ∀ (j k : Nat) (u t : Value) (b : Nat), j ≠ k → S[j]? = some u → S[k]? = some t → u.ownBlock = some b → t.ownBlock ≠ some b
def HSS (w : World) (lo hi : Nat) (v : Value) (n : Nat) (Zs : List (List Int)) : Prop := ∃ S, MadeSS w lo hi v n Zs S
section
variable {w w' : World} {lo hi : Nat} {v : Value} {n : Nat} {Zs : List (List Int)} {S : List Value}
theorem MadeSS.slen (h : MadeSS w lo hi v n Zs S) : S.length = n := by have := h.out.len; omega
theorem MadeSS.below {B : Nat} (h : MadeSS w lo hi v n Zs S) (hb : Below B w w') (hB : hi ≤ B) : MadeSS w' lo hi v n Zs S :=
  ⟨h.out.below hb hB, h.len, fun k hk => by obtain ⟨ak, ck, h1, h2⟩ := h.row k hk; exact ⟨ak, ck, h1, h2.below hb hB⟩, h.far, h.apart⟩
theorem MadeSS.kept {lo2 hi2 : Nat} (h : MadeSS w lo hi v n Zs S) (hk : Kept lo2 hi2 w w') (hd : hi ≤ lo2 ∨ hi2 ≤ lo) : MadeSS w' lo hi v n Zs S :=
  ⟨h.out.kept hk hd, h.len, fun k hj => by obtain ⟨ak, ck, h1, h2⟩ := h.row k hj; exact ⟨ak, ck, h1, h2.kept hk hd⟩, h.far, h.apart⟩
theorem MadeSS.mono {lo' hi' : Nat} (h : MadeSS w lo hi v n Zs S) (hl : lo' ≤ lo) (hh : hi ≤ hi') (hs : hi' ≤ w.heap.size) : MadeSS w lo' hi' v n Zs S :=
  ⟨h.out.mono hl hh hs, h.len, fun k hj => by obtain ⟨ak, ck, h1, h2⟩ := h.row k hj; exact ⟨ak, ck, h1, h2.mono hl hh hs⟩, h.far, h.apart⟩
theorem HSS.below {B : Nat} (h : HSS w lo hi v n Zs) (hb : Below B w w') (hB : hi ≤ B) : HSS w' lo hi v n Zs := by obtain ⟨S, h⟩ := h; exact ⟨S, h.below hb hB⟩
theorem HSS.kept {lo2 hi2 : Nat} (h : HSS w lo hi v n Zs) (hk : Kept lo2 hi2 w w') (hd : hi ≤ lo2 ∨ hi2 ≤ lo) : HSS w' lo hi v n Zs := by obtain ⟨S, h⟩ := h; exact ⟨S, h.kept hk hd⟩
theorem HSS.mono {lo' hi' : Nat} (h : HSS w lo hi v n Zs) (hl : lo' ≤ lo) (hh : hi ≤ hi') (hs : hi' ≤ w.heap.size) : HSS w lo' hi' v n Zs := by obtain ⟨S, h⟩ := h; exact ⟨S, h.mono hl hh hs⟩
theorem HSS.lh (h : HSS w lo hi v n Zs) : hi ≤ w.heap.size := by obtain ⟨S, h⟩ := h; exact h.out.2.2
theorem HSS.alloc (h : HSS w lo hi v n Zs) (o : Obj) : HSS (w.alloc o) lo hi v n Zs := h.below ((Below.refl _ _).alloc h.lh o) (Nat.le_refl _)
theorem HSS.drewN (h : HSS w lo hi v n Zs) (q : Nat) : HSS (w.drewN q) lo hi v n Zs := by obtain ⟨S, h⟩ := h; exact ⟨S, ⟨h.out.drewN q, h.len, h.row, h.far, h.apart⟩⟩
theorem HSS.row {a : Option Addr} {c : Nat} (h : HSS w lo hi (.slice a n c) n Zs) : RowSS w a Zs := by
  obtain ⟨S, h⟩ := h
  rcases h.out.row with h0 | ⟨b, off, h1, h2, h3⟩
  · left; have h4 := h.slen; have h5 := h.len; rw [h0, List.length_nil] at h4; exact List.eq_nil_of_length_eq_zero (by omega)
  · right
    refine ⟨b, off, h1, h2, fun k hk => ?_⟩
    obtain ⟨ak, ck, h4, h5⟩ := h.row k (by have := h.len; omega)
    exact ⟨ak, ck, h3 k _ h4, h5.row⟩
theorem HSS.nil (w : World) (lo : Nat) : HSS w lo w.heap.size (.slice none 0 0) 0 [] := ⟨[], HRow.nil _ _ _ _, rfl, fun k hk => by omega, fun k u b h => by simp at h, fun j k u t b _ h => by simp at h⟩
end
theorem set_get {α : Type} (l : List α) (k j : Nat) (u : α) (hk : k < l.length) : (l.set k u)[j]? = if j = k then some u else l[j]? := by
  by_cases h : j = k
  · subst h; rw [if_pos rfl, List.getElem?_set_self hk]
  · rw [if_neg h, List.getElem?_set_ne (fun e => h e.symm)]
theorem zr_set {Zs : List (List Int)} {k j : Nat} {z : List Int} (hk : k < Zs.length) : zr (Zs.set k z) j = if j = k then z else zr Zs j := by
  unfold zr
  rw [List.getD_eq_getElem?_getD, set_get _ _ _ _ hk]
  by_cases h : j = k
  · rw [if_pos h, if_pos h]; rfl
  · rw [if_neg h, if_neg h, ← List.getD_eq_getElem?_getD]
/-- A new row is put into the slice of slices. -/
theorem MadeSS.put {w : World} {lo hi hi' g c n k : Nat} {Zs : List (List Int)} {S : List Value} (h : MadeSS w lo hi (.slice (some ⟨g, 0, none⟩) n c) n Zs S) (hk : k < n) {ak : Option Addr} {ck : Nat} {z : List Int} (hr : HRow w 2 1 hi hi' (.slice ak z.length ck) z.length (ic z)) (hh : hi ≤ hi') :
    MadeSS (w.setCell ⟨g, k, none⟩ (.slice ak z.length ck)) lo hi' (.slice (some ⟨g, 0, none⟩) n c) n (Zs.set k z) (S.set k (.slice ak z.length ck)) := by
  have hg := h.out.1.lt g rfl
  have hgh := h.out.2.1 g rfl
  have hsl := h.slen
  have hZl := h.len
  have hm := h.mono (Nat.le_refl _) hh hr.2.2
  have new : ∀ b, (Value.slice ak z.length ck).ownBlock = some b → hi ≤ b := fun b hb => (hr.1.lt b hb).1
  have old : ∀ (j : Nat) u b, S[j]? = some u → u.ownBlock = some b → b < hi := fun j u b hj hb => by
    have hjn : j < n := by have := (List.getElem?_eq_some_iff.1 hj).1; omega
    obtain ⟨aj, cj, h1, h2⟩ := h.row j hjn
    rw [h1] at hj; cases hj
    exact h2.2.1 b hb
  have hsame : ∀ {w2 : World} {v2 : Value} {n2 : Nat} {xs2 : List Value} {e2 : TypeId} {lo2 hi2 : Nat}, w2 = w → HRow w e2 1 lo2 hi2 v2 n2 xs2 → v2.ownBlock ≠ some g → HRow (w.setCell ⟨g, k, none⟩ (.slice ak z.length ck)) e2 1 lo2 hi2 v2 n2 xs2 := fun _ h3 h4 => ⟨owns_far h3.1 h4 _, h3.2.1, by rw [setCell_size]; exact h3.2.2⟩
  refine ⟨(hm.out.store k _).1, by rw [List.length_set]; exact hZl, fun j hj => ?_, fun j u b hj hb => ?_, fun j q u t b hjq hj hq hb => ?_⟩
  · rw [zr_set (by omega), set_get _ _ _ _ (by omega)]
    by_cases hjk : j = k
    · rw [if_pos hjk, if_pos hjk]
      exact ⟨ak, ck, rfl, hsame rfl (hr.mono (by omega) (Nat.le_refl _) hr.2.2) (fun e => by have := new g e; omega)⟩
    · rw [if_neg hjk, if_neg hjk]
      obtain ⟨aj, cj, h1, h2⟩ := hm.row j hj
      exact ⟨aj, cj, h1, hsame rfl h2 (fun e => h.far j _ g h1 e rfl)⟩
  · rw [set_get _ _ _ _ (by omega)] at hj
    by_cases hjk : j = k
    · rw [if_pos hjk] at hj; cases hj
      have := new b hb
      intro e
      have e2 : g = b := Option.some.inj e
      omega
    · rw [if_neg hjk] at hj; exact h.far j u b hj hb
  · rw [set_get _ _ _ _ (by omega)] at hj hq
    by_cases hjk : j = k
    · rw [if_pos hjk] at hj; rw [if_neg (fun e => hjq (hjk.trans e.symm))] at hq; cases hj
      intro e; have := new b hb; have := old q t b hq e; omega
    · rw [if_neg hjk] at hj
      by_cases hqk : q = k
      · rw [if_pos hqk] at hq; cases hq
        intro e; have := new b e; have := old j u b hj hb; omega
      · rw [if_neg hqk] at hq; exact h.apart j q u t b hjq hj hq hb
end Go.Proofs.Ytckmacnmmloemaa
