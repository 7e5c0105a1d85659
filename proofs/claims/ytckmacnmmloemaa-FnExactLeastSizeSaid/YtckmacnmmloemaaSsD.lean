/- Slices of slices of integers: what comes in, copies, looks, marks. -/
import Derived.Test.YtckmacnmmloemaaRivO
import Derived.Test.YtckmacnmmloemaaRivH
import Derived.Test.YtckmacnmmloemaaRegMk
import Derived.Deep.QuietTactic
import Derived.Deep.Slices
namespace Go.Proofs.Ytckmacnmmloemaa
open Go.RowKit
set_option linter.unusedVariables false
set_option linter.unusedSimpArgs false
set_option maxRecDepth 100000
attribute [local irreducible] wpV wpList Code.wp

open Go.Joins Go.ChangeShapes Go.WideShapes Go.Deep
/-- The rows of a slice of slices. -/
abbrev zr (Zs : List (List Int)) (k : Nat) : List Int := Zs.getD k []
def totZ (Zs : List (List Int)) (k : Nat) : Nat := ((List.range k).map fun j => (zr Zs j).length).sum
theorem totZ_zero (Zs : List (List Int)) : totZ Zs 0 = 0 := rfl
theorem totZ_succ (Zs : List (List Int)) (k : Nat) : totZ Zs (k + 1) = totZ Zs k + (zr Zs k).length := by unfold totZ; rw [List.range_succ, List.map_append, List.sum_append]; simp
theorem totZ_le (Zs : List (List Int)) {k m : Nat} (h : k ≤ m) : totZ Zs k ≤ totZ Zs m := by
  induction m with
  | zero => have : k = 0 := by omega
            subst this; exact Nat.le_refl _
  | succ m ih =>
    by_cases hk : k ≤ m
    · have := ih hk; rw [totZ_succ]; omega
    · have : k = m + 1 := by omega
      subst this; exact Nat.le_refl _
theorem row_le {Zs : List (List Int)} {k n : Nat} (h : k < n) : (zr Zs k).length ≤ totZ Zs n := by
  have h1 := totZ_le Zs (show k + 1 ≤ n by omega)
  rw [totZ_succ] at h1; omega
def RowSS (w : World) (a : Option Addr) (Zs : List (List Int)) : Prop :=
  Zs = [] ∨ ∃ b off, a = some ⟨b, off, none⟩ ∧ b < w.heap.size ∧ ∀ k, k < Zs.length → ∃ ak ck, w.cell? ⟨b, off + k, none⟩ = some (.slice ak (zr Zs k).length ck) ∧ RowC w ak (ic (zr Zs k))
theorem RowSS.below {w w' : World} {B : Nat} {a : Option Addr} {Zs : List (List Int)} (h : RowSS w a Zs) (hb : Below B w w') (hB : w.heap.size ≤ B) : RowSS w' a Zs := by
  rcases h with h | ⟨b, off, h1, h2, h3⟩
  · exact .inl h
  · refine .inr ⟨b, off, h1, Nat.lt_of_lt_of_le h2 hb.size, fun k hk => ?_⟩
    obtain ⟨ak, ck, h4, h5⟩ := h3 k hk
    exact ⟨ak, ck, by rw [hb.cell (p := ⟨b, off + k, none⟩) (by show b < B; omega)]; exact h4, h5.below hb hB⟩
theorem RowSS.drewN {w : World} {a : Option Addr} {Zs : List (List Int)} (h : RowSS w a Zs) (n : Nat) : RowSS (w.drewN n) a Zs := h
/-- A slice of slices that came in. -/
def IsRowSS (w : World) (a : Option Addr) (len cap : Nat) (Zs : List (List Int)) : Prop := Zs.length = len ∧ len ≤ cap ∧ cap ≤ maxLen ∧ RowSS w a Zs ∧ ∀ k, k < len → (zr Zs k).length ≤ maxLen
section
variable {H : Type} {enc : TypeId × Value → H} {w : World} {base : Nat} {spare : Nat → Bool} {held : Bool}
theorem isRowSS_of {a' : Addr} {len cap : Nat} (hl : len ≤ cap) (hm : cap ≤ maxLen) (each : ∀ k, k < len → ∃ (zs : List Int) (ak : Option Addr) (ck : Nat), w.cell? (a'.add k) = some (.slice ak zs.length ck) ∧ RowC w ak (ic zs) ∧ zs.length ≤ maxLen) : ∃ Zs, IsRowSS w (some a') len cap Zs := by
  have e1 : ∀ k (hk : k < len), zr ((List.range len).map (fun k => if h : k < len then Classical.choose (each k h) else [])) k = Classical.choose (each k hk) := by
    intro k hk
    unfold zr
    rw [List.getD_eq_getElem?_getD, List.getElem?_map, List.getElem?_range hk]
    simp only [Option.map_some, Option.getD_some, dif_pos hk]
  refine ⟨(List.range len).map (fun k => if h : k < len then Classical.choose (each k h) else []), by simp, hl, hm, ?_, ?_⟩
  · by_cases h0 : len = 0
    · left; subst h0; rfl
    · obtain ⟨b, off, spot⟩ := a'
      have hspot : spot = none := by
        obtain ⟨zs, ak, ck, hn, _⟩ := each 0 (by omega)
        simpa [Addr.add] using World.cell?_spot hn
      subst hspot
      refine .inr ⟨b, off, rfl, ?_, fun k hk => ?_⟩
      · obtain ⟨zs, ak, ck, hn, _⟩ := each 0 (by omega)
        simpa [Addr.add] using cell_lt hn
      · simp only [List.length_map, List.length_range] at hk
        have hsp := Classical.choose_spec (each k hk)
        rw [e1 k hk]
        generalize Classical.choose (each k hk) = z at hsp ⊢
        obtain ⟨ak, ck, h1, h2, h3⟩ := hsp
        rw [Go.WideShapes.add_plain] at h1
        exact ⟨ak, ck, h1, h2⟩
  · intro k hk
    rw [e1 k hk]
    obtain ⟨ak, ck, h1, h2, h3⟩ := Classical.choose_spec (each k hk)
    exact h3
theorem open_ss9 {fuel : Nat} {v : Value} {x : DataW H × List MemPlace} (h : DataW.trod enc Try.prog w base spare held fuel 39 [v] = some x) : ∃ a len cap Zs, v = .slice a len cap ∧ IsRowSS w a len cap Zs := by
  rcases open_slice Try.underlying39 h with ⟨hcs, _⟩ | ⟨a', len, cap, m, n, D, Pl, hcs, hb, hl, hm, hmm, hx, hi⟩
  · obtain rfl : v = .slice none 0 0 := by simpa using hcs
    exact ⟨none, 0, 0, [], rfl, rfl, Nat.le_refl _, Nat.zero_le _, .inl rfl, fun k hk => by omega⟩
  · obtain rfl : v = .slice (some a') len cap := by simpa using hcs
    obtain ⟨Zs, hz⟩ := isRowSS_of (w := w) (a' := a') hl hm (fun q hq => by
      obtain ⟨cs', hc, ht'⟩ := hi q (by rw [hmm]; split <;> omega)
      have hC : Try.prog.cellsOf 22 = 1 := by kernel_rfl
      rw [hC, Nat.mul_one] at hc
      obtain ⟨_, hcl, hat⟩ := World.cells?_some hc
      obtain ⟨u, rfl⟩ : ∃ u, cs' = [u] := by
        match cs', hcl with
        | [u], _ => exact ⟨u, rfl⟩
      obtain ⟨ak, lk, ck, zs, rfl, h1, h2, h3, h4, _⟩ := open_ints9 (v := u) ht'
      rw [Nat.mul_one] at h1
      subst h1
      exact ⟨zs, ak, ck, Go.ChangeShapes.cell_of_cells?_one hc, h4, by omega⟩)
    exact ⟨_, _, _, Zs, rfl, hz⟩
end
/-- A slice of slices that a call made: it lies in [p, q), its rows in [lo, hi), apart from it and from one another. -/
structure MadeSS (w : World) (p q lo hi : Nat) (v : Value) (n : Nat) (Zs : List (List Int)) (S : List Value) : Prop where
  out : HRow w 22 1 p q v n S
  len : Zs.length = n
  row : ∀ k, k < n → ∃ ak ck, S[k]? = some (.slice ak (zr Zs k).length ck) ∧ HRow w 2 1 lo hi (.slice ak (zr Zs k).length ck) (zr Zs k).length (ic (zr Zs k))
  far : ∀ (k : Nat) (u : Value) (b : Nat), S[k]? = some u → u.ownBlock = some b → v.ownBlock ≠ some b
  apart : ∀ (j k : Nat) (u t : Value) (b : Nat), j ≠ k → S[j]? = some u → S[k]? = some t → u.ownBlock = some b → t.ownBlock ≠ some b
  top : hi ≤ w.heap.size
def HSS (w : World) (p q lo hi : Nat) (v : Value) (n : Nat) (Zs : List (List Int)) : Prop := ∃ S, MadeSS w p q lo hi v n Zs S
section
variable {w w' : World} {p q lo hi : Nat} {v : Value} {n : Nat} {Zs : List (List Int)} {S : List Value}
theorem MadeSS.slen (h : MadeSS w p q lo hi v n Zs S) : S.length = n := by have := h.out.len; omega
theorem MadeSS.below {B : Nat} (h : MadeSS w p q lo hi v n Zs S) (hb : Below B w w') (hB : q ≤ B ∧ hi ≤ B) : MadeSS w' p q lo hi v n Zs S :=
  ⟨h.out.below hb hB.1, h.len, fun k hk => by obtain ⟨ak, ck, h1, h2⟩ := h.row k hk; exact ⟨ak, ck, h1, h2.below hb hB.2⟩, h.far, h.apart, Nat.le_trans h.top hb.size⟩
theorem MadeSS.kept {lo2 hi2 : Nat} (h : MadeSS w p q lo hi v n Zs S) (hk : Kept lo2 hi2 w w') (hd : (q ≤ lo2 ∨ hi2 ≤ p) ∧ (hi ≤ lo2 ∨ hi2 ≤ lo)) : MadeSS w' p q lo hi v n Zs S :=
  ⟨h.out.kept hk hd.1, h.len, fun k hj => by obtain ⟨ak, ck, h1, h2⟩ := h.row k hj; exact ⟨ak, ck, h1, h2.kept hk hd.2⟩, h.far, h.apart, Nat.le_trans h.top hk.size⟩
theorem MadeSS.mono {p' q' lo' hi' : Nat} (h : MadeSS w p q lo hi v n Zs S) (hp : p' ≤ p) (hq : q ≤ q') (hqs : q' ≤ w.heap.size) (hl : lo' ≤ lo) (hh : hi ≤ hi') (hs : hi' ≤ w.heap.size) : MadeSS w p' q' lo' hi' v n Zs S :=
  ⟨h.out.mono hp hq hqs, h.len, fun k hj => by obtain ⟨ak, ck, h1, h2⟩ := h.row k hj; exact ⟨ak, ck, h1, h2.mono hl hh hs⟩, h.far, h.apart, hs⟩
theorem HSS.below {B : Nat} (h : HSS w p q lo hi v n Zs) (hb : Below B w w') (hB : q ≤ B ∧ hi ≤ B) : HSS w' p q lo hi v n Zs := by obtain ⟨S, h⟩ := h; exact ⟨S, h.below hb hB⟩
theorem HSS.kept {lo2 hi2 : Nat} (h : HSS w p q lo hi v n Zs) (hk : Kept lo2 hi2 w w') (hd : (q ≤ lo2 ∨ hi2 ≤ p) ∧ (hi ≤ lo2 ∨ hi2 ≤ lo)) : HSS w' p q lo hi v n Zs := by obtain ⟨S, h⟩ := h; exact ⟨S, h.kept hk hd⟩
theorem HSS.lh (h : HSS w p q lo hi v n Zs) : q ≤ w.heap.size ∧ hi ≤ w.heap.size := by obtain ⟨S, h⟩ := h; exact ⟨h.out.2.2, h.top⟩
theorem HSS.alloc (h : HSS w p q lo hi v n Zs) (o : Obj) : HSS (w.alloc o) p q lo hi v n Zs := h.below (B := w.heap.size) (below1 w o) h.lh
theorem HSS.drewN (h : HSS w p q lo hi v n Zs) (m : Nat) : HSS (w.drewN m) p q lo hi v n Zs := by obtain ⟨S, h⟩ := h; exact ⟨S, ⟨h.out.drewN m, h.len, h.row, h.far, h.apart, h.top⟩⟩
theorem HSS.row {a : Option Addr} {c : Nat} (h : HSS w p q lo hi (.slice a n c) n Zs) : RowSS w a Zs := by
  obtain ⟨S, h⟩ := h
  rcases h.out.row with h0 | ⟨b, off, h1, h2, h3⟩
  · left; have h4 := h.slen; have h5 := h.len; rw [h0, List.length_nil] at h4; exact List.eq_nil_of_length_eq_zero (by omega)
  · right
    refine ⟨b, off, h1, h2, fun k hk => ?_⟩
    obtain ⟨ak, ck, h4, h5⟩ := h.row k (by have := h.len; omega)
    exact ⟨ak, ck, h3 k _ h4, h5.row⟩
theorem HSS.nil (w : World) (p lo : Nat) : HSS w p w.heap.size lo w.heap.size (.slice none 0 0) 0 [] := ⟨[], HRow.nil _ _ _ _, rfl, fun k hk => by omega, fun k u b h => by simp at h, fun j k u t b _ h => by simp at h, Nat.le_refl _⟩
end
theorem set_get {α : Type} (l : List α) (k j : Nat) (u : α) (hk : k < l.length) : (l.set k u)[j]? = if j = k then some u else l[j]? := by
  by_cases h : j = k
  · subst h; rw [if_pos rfl, List.getElem?_set_self hk]
  · rw [if_neg h, List.getElem?_set_ne (fun e => h e.symm)]
theorem zr_set {Zs : List (List Int)} {k j : Nat} {z : List Int} (hk : k < Zs.length) : zr (Zs.set k z) j = if j = k then z else zr Zs j := by
  unfold zr
  rw [List.getD_eq_getElem?_getD, set_get _ _ _ _ hk]
  by_cases h : j = k
  · rw [if_pos h, if_pos h]; rfl
  · rw [if_neg h, if_neg h, ← List.getD_eq_getElem?_getD]
/-- A new row is put into the slice of slices. -/
theorem MadeSS.put {w : World} {p q lo hi hi' g c n k : Nat} {Zs : List (List Int)} {S : List Value} (h : MadeSS w p q lo hi (.slice (some ⟨g, 0, none⟩) n c) n Zs S) (hk : k < n) {ak : Option Addr} {ck : Nat} {z : List Int} (hr : HRow w 2 1 hi hi' (.slice ak z.length ck) z.length (ic z)) (hh : hi ≤ hi') (hqh : q ≤ hi) (hlo : lo ≤ hi) :
    MadeSS (w.setCell ⟨g, k, none⟩ (.slice ak z.length ck)) p q lo hi' (.slice (some ⟨g, 0, none⟩) n c) n (Zs.set k z) (S.set k (.slice ak z.length ck)) := by
  have hg := h.out.1.lt g rfl
  have hgh := h.out.2.1 g rfl
  have hsl := h.slen
  have hZl := h.len
  have hm := h.mono (Nat.le_refl _) (Nat.le_refl _) h.out.2.2 (Nat.le_refl _) hh hr.2.2
  have new : ∀ b, (Value.slice ak z.length ck).ownBlock = some b → hi ≤ b := fun b hb => (hr.1.lt b hb).1
  have old : ∀ (j : Nat) u b, S[j]? = some u → u.ownBlock = some b → b < hi := fun j u b hj hb => by
    have hjn : j < n := by have := (List.getElem?_eq_some_iff.1 hj).1; omega
    obtain ⟨aj, cj, h1, h2⟩ := h.row j hjn
    rw [h1] at hj; cases hj
    exact h2.2.1 b hb
  have hsame : ∀ {w2 : World} {v2 : Value} {n2 : Nat} {xs2 : List Value} {e2 : TypeId} {lo2 hi2 : Nat}, w2 = w → HRow w e2 1 lo2 hi2 v2 n2 xs2 → v2.ownBlock ≠ some g → HRow (w.setCell ⟨g, k, none⟩ (.slice ak z.length ck)) e2 1 lo2 hi2 v2 n2 xs2 := fun _ h3 h4 => ⟨owns_far h3.1 h4 _, h3.2.1, by rw [setCell_size]; exact h3.2.2⟩
  refine ⟨(hm.out.store k _).1, by rw [List.length_set]; exact hZl, fun j hj => ?_, fun j u b hj hb => ?_, fun j r u t b hjr hj hr9 hb => ?_, by rw [setCell_size]; exact hr.2.2⟩
  · rw [zr_set (by omega), set_get _ _ _ _ (by omega)]
    by_cases hjk : j = k
    · rw [if_pos hjk, if_pos hjk]
      exact ⟨ak, ck, rfl, hsame rfl (hr.mono (by omega) (Nat.le_refl _) hr.2.2) (fun e => by have := new g e; omega)⟩
    · rw [if_neg hjk, if_neg hjk]
      obtain ⟨aj, cj, h1, h2⟩ := hm.row j hj
      exact ⟨aj, cj, h1, hsame rfl h2 (fun e => h.far j _ g h1 e rfl)⟩
  · rw [set_get _ _ _ _ (by omega)] at hj
    by_cases hjk : j = k
    · rw [if_pos hjk] at hj; cases hj
      have := new b hb
      intro e
      have e2 : g = b := Option.some.inj e
      omega
    · rw [if_neg hjk] at hj; exact h.far j u b hj hb
  · rw [set_get _ _ _ _ (by omega)] at hj hr9
    by_cases hjk : j = k
    · rw [if_pos hjk] at hj; rw [if_neg (fun e => hjr (hjk.trans e.symm))] at hr9; cases hj
      intro e; have := new b hb; have := old r t b hr9 e; omega
    · rw [if_neg hjk] at hj
      by_cases hqk : r = k
      · rw [if_pos hqk] at hr9; cases hr9
        intro e; have := new b e; have := old j u b hj hb; omega
      · rw [if_neg hqk] at hr9; exact h.apart j r u t b hjr hj hr9 hb
/-- A new row comes behind a slice of slices. -/
theorem MadeSS.push {w w' : World} {p q lo hi hi2 n g c : Nat} {v : Value} {Zs : List (List Int)} {S : List Value} (h : MadeSS w p q lo hi v n Zs S) {ak : Option Addr} {ck : Nat} {z : List Int} (hr : HRow w 2 1 hi hi2 (.slice ak z.length ck) z.length (ic z)) (hqh : q ≤ hi) (hlo : lo ≤ hi)
    (ho : w'.ownsRow p 22 1 (.slice (some ⟨g, 0, none⟩) (n + 1) c) (n + 1) (S ++ [.slice ak z.length ck])) (hg : w.grownBy w' v.ownBlock) (hgn : v.ownBlock = some g ∨ g = w.heap.size) (hgl : g < w'.heap.size) :
    MadeSS w' p w'.heap.size lo w'.heap.size (.slice (some ⟨g, 0, none⟩) (n + 1) c) (n + 1) (Zs ++ [z]) (S ++ [.slice ak z.length ck]) := by
  have hsl := h.slen
  have hZl := h.len
  have new : ∀ b, (Value.slice ak z.length ck).ownBlock = some b → hi ≤ b ∧ b < hi2 := fun b hb => ⟨(hr.1.lt b hb).1, hr.2.1 b hb⟩
  have hi2s := hr.2.2
  have old : ∀ (j : Nat) u b, S[j]? = some u → u.ownBlock = some b → b < hi := fun j u b hj hb => by
    have hjn : j < n := by have := (List.getElem?_eq_some_iff.1 hj).1; omega
    obtain ⟨aj, cj, h1, h2⟩ := h.row j hjn
    rw [h1] at hj; cases hj
    exact h2.2.1 b hb
  have htop := h.top
  have hvb : ∀ k, v.ownBlock = some k → k < q := fun k hk => h.out.2.1 k hk
  have gr : ∀ {u2 : Value} {n2 : Nat} {xs2 : List Value} {lo2 hi3 : Nat}, HRow w 2 1 lo2 hi3 u2 n2 xs2 → (∀ k, v.ownBlock = some k → u2.ownBlock ≠ some k) → lo ≤ lo2 → HRow w' 2 1 lo w'.heap.size u2 n2 xs2 := fun h3 h4 h5 => (HRow.mk' (owns_pushed h3.1 hg h4)).mono h5 (Nat.le_refl _) (Nat.le_refl _)
  have at9 : ∀ j, (S ++ [Value.slice ak z.length ck])[j]? = if j = n then some (Value.slice ak z.length ck) else S[j]? := fun j => by
    by_cases e : j = n
    · subst e; rw [if_pos rfl, ← hsl, List.getElem?_append_right (Nat.le_refl _), Nat.sub_self]; rfl
    · rw [if_neg e]
      by_cases e2 : j < n
      · rw [List.getElem?_append_left (by omega)]
      · rw [List.getElem?_eq_none (by simp; omega), List.getElem?_eq_none (by omega)]
  have zr9 : ∀ j, j < n + 1 → zr (Zs ++ [z]) j = if j = n then z else zr Zs j := fun j hj => by
    unfold zr
    rw [List.getD_eq_getElem?_getD]
    by_cases e : j = n
    · subst e; rw [if_pos rfl, ← hZl, List.getElem?_append_right (Nat.le_refl _), Nat.sub_self]; rfl
    · rw [if_neg e, List.getElem?_append_left (by omega), ← List.getD_eq_getElem?_getD]
  refine ⟨HRow.mk' ho, by rw [List.length_append, hZl]; rfl, fun j hj => ?_, fun j u b hj hb => ?_, fun j r u t b hjr hj hr9 hb => ?_, Nat.le_refl _⟩
  · rw [zr9 j hj, at9]
    by_cases e : j = n
    · rw [if_pos e, if_pos e]
      exact ⟨ak, ck, rfl, gr hr (fun k hk e2 => by have := hvb k hk; have := new k e2; omega) hlo⟩
    · rw [if_neg e, if_neg e]
      obtain ⟨aj, cj, h1, h2⟩ := h.row j (by omega)
      exact ⟨aj, cj, h1, gr h2 (fun k hk e2 => h.far j _ k h1 e2 hk) (Nat.le_refl _)⟩
  · rw [at9] at hj
    intro e2
    have e3 : g = b := Option.some.inj e2
    by_cases e : j = n
    · rw [if_pos e] at hj; cases hj
      have h9 := new b hb
      rcases hgn with h8 | h8
      · have := hvb g h8; omega
      · omega
    · rw [if_neg e] at hj
      have h9 := old j u b hj hb
      rcases hgn with h8 | h8
      · exact h.far j u b hj hb (e3 ▸ h8)
      · omega
  · rw [at9] at hj hr9
    intro e2
    by_cases e : j = n
    · rw [if_pos e] at hj; rw [if_neg (fun e3 => hjr (e.trans e3.symm))] at hr9; cases hj
      have := new b hb; have := old r t b hr9 e2; omega
    · rw [if_neg e] at hj
      by_cases e3 : r = n
      · rw [if_pos e3] at hr9; cases hr9
        have := new b e2; have := old j u b hj hb; omega
      · rw [if_neg e3] at hr9; exact h.apart j r u t b hjr hj hr9 hb e2
end Go.Proofs.Ytckmacnmmloemaa
