/- Rows of cells: what comes in, what a call makes, what is kept. -/
import Derived.Test.YtckmacnmmloemaaFk
import Derived.ProofKit
import Derived.OpenShut
import Derived.Below
import Derived.Deep.QuietTactic
import Derived.BigQuiet
import Derived.Deep.AppendLies
import Derived.ChangeSlices
import Derived.Deep.Slices
namespace Go.Proofs.Ytckmacnmmloemaa
open Go.RowKit
set_option linter.unusedVariables false
set_option linter.unusedSimpArgs false
set_option maxRecDepth 100000

theorem cell_lt {w : World} {p : Addr} {v : Value} (h : w.cell? p = some v) : p.block < w.heap.size := by
  rcases Nat.lt_or_ge p.block w.heap.size with h1 | h1
  · exact h1
  · have : w.heap[p.block]? = none := by simp [h1]
    simp [World.cell?, this] at h
theorem below_drewN {B : Nat} {a w : World} (h : Below B a w) (n : Nat) : Below B a (w.drewN n) := h.trans ⟨rfl, rfl, rfl, Nat.le_refl _, fun _ _ => rfl⟩
/-- But for blocks from lo on and below hi all is as it was. -/
structure Kept (lo hi : Nat) (w w' : World) : Prop where
  os : w'.os = w.os
  tape : w'.tape = w.tape
  output : w'.output = w.output
  size : w.heap.size ≤ w'.heap.size
  block : ∀ k, k < lo ∨ hi ≤ k → k < w.heap.size → w'.heap[k]? = w.heap[k]?
theorem Kept.below {lo hi B : Nat} {w w' : World} (h : Kept lo hi w w') (hB : B ≤ lo) (hs : B ≤ w.heap.size) : Below B w w' :=
  ⟨h.os, h.tape, h.output, h.size, fun k hk => h.block k (.inl (by omega)) (by omega)⟩
theorem setCell_size (w : World) (p : Addr) (u : Value) : (w.setCell p u).heap.size = w.heap.size := by simp [World.setCell]
theorem below1 (w : World) (o : Obj) : Below w.heap.size w (w.alloc o) := (Below.refl _ _).alloc (Nat.le_refl _) _
theorem below2 (w : World) (o o' : Obj) : Below w.heap.size w ((w.alloc o).alloc o') := (below1 w o).alloc (by simp) _
theorem below3 (w : World) (o o' o'' : Obj) : Below w.heap.size w (((w.alloc o).alloc o').alloc o'') := (below2 w o o').alloc (by simp; omega) _
theorem Kept.refl (lo hi : Nat) (w : World) : Kept lo hi w w := ⟨rfl, rfl, rfl, Nat.le_refl _, fun _ _ _ => rfl⟩
theorem Kept.trans {lo hi : Nat} {a b c : World} (h : Kept lo hi a b) (k : Kept lo hi b c) : Kept lo hi a c :=
  ⟨k.os.trans h.os, k.tape.trans h.tape, k.output.trans h.output, Nat.le_trans h.size k.size, fun i hi1 hi2 => (k.block i hi1 (Nat.lt_of_lt_of_le hi2 h.size)).trans (h.block i hi1 hi2)⟩
theorem Kept.of_below {lo hi B : Nat} {w w' : World} (h : Below B w w') (hB : w.heap.size ≤ B) : Kept lo hi w w' := ⟨h.os, h.tape, h.output, h.size, fun k _ hk => h.block k (by omega)⟩
/-- A slice leads to a row that begins with these cells. -/
def RowC (w : World) (a : Option Addr) (xs : List Value) : Prop :=
  xs = [] ∨ ∃ b off, a = some ⟨b, off, none⟩ ∧ b < w.heap.size ∧ ∀ (i : Nat) (u : Value), xs[i]? = some u → w.cell? ⟨b, off + i, none⟩ = some u
theorem RowC.below {w w' : World} {B : Nat} {a : Option Addr} {xs : List Value} (h : RowC w a xs) (hb : Below B w w') (hB : w.heap.size ≤ B) : RowC w' a xs := by
  rcases h with h | ⟨b, off, h1, h2, h3⟩
  · exact .inl h
  · refine .inr ⟨b, off, h1, Nat.lt_of_lt_of_le h2 hb.size, fun i u hi => ?_⟩
    rw [hb.cell (p := ⟨b, off + i, none⟩) (by show b < B; omega)]
    exact h3 i u hi
theorem RowC.drewN {w : World} {a : Option Addr} {xs : List Value} (h : RowC w a xs) (n : Nat) : RowC (w.drewN n) a xs := h
/-- The cells of integers. -/
def ic (zs : List Int) : List Value := zs.map (Value.int .i64)
theorem ic_at {zs : List Int} {i : Nat} (h : i < zs.length) : (ic zs)[i]? = some (.int .i64 (zs.getD i 0)) := by
  unfold ic
  rw [List.getElem?_map, List.getElem?_eq_getElem h, List.getD_eq_getElem?_getD, List.getElem?_eq_getElem h]
  rfl
theorem ic_length (zs : List Int) : (ic zs).length = zs.length := by simp [ic]
theorem ic_append (zs ys : List Int) : ic (zs ++ ys) = ic zs ++ ic ys := by simp [ic]
theorem ic_set (zs : List Int) (j : Nat) (z : Int) : ic (zs.set j z) = (ic zs).set j (.int .i64 z) := by simp [ic, List.map_set]
theorem ic_nil {zs : List Int} (h : ic zs = []) : zs = [] := by simpa [ic] using h
theorem RowC.ints {w : World} {a : Option Addr} {zs : List Int} (h : RowC w a (ic zs)) : zs = [] ∨ ∃ b off, a = some ⟨b, off, none⟩ ∧ b < w.heap.size ∧ ∀ i, i < zs.length → w.cell? ⟨b, off + i, none⟩ = some (.int .i64 (zs.getD i 0)) := by
  rcases h with h | ⟨b, off, h1, h2, h3⟩
  · exact .inl (ic_nil h)
  · exact .inr ⟨b, off, h1, h2, fun i hi => h3 i _ (ic_at hi)⟩
theorem RowC.of_ints {w : World} {b off : Nat} {zs : List Int} (h2 : b < w.heap.size) (h3 : ∀ i, i < zs.length → w.cell? ⟨b, off + i, none⟩ = some (.int .i64 (zs.getD i 0))) : RowC w (some ⟨b, off, none⟩) (ic zs) := by
  refine .inr ⟨b, off, rfl, h2, fun i u hi => ?_⟩
  have hl : i < zs.length := by have := (List.getElem?_eq_some_iff.1 hi).1; rwa [ic_length] at this
  rw [ic_at hl] at hi
  rw [h3 i hl]
  exact hi
theorem ownsRow_sameG {w w' : World} {base : Nat} {e : TypeId} {s : Nat} {v : Value} {n : Nat} {xs : List Value} (h : w.ownsRow base e s v n xs) (hb : ∀ k, v.ownBlock = some k → w'.heap[k]? = w.heap[k]?) : w'.ownsRow base e s v n xs := by
  obtain ⟨h1, h2⟩ := h
  refine ⟨h1, ?_⟩
  rcases h2 with h2 | ⟨g, cap, cur, hv, hg, hh, r⟩
  · exact .inl h2
  · exact .inr ⟨g, cap, cur, hv, hg, by rw [hb g (by rw [hv]; rfl)]; exact hh, r⟩
theorem owns_below {w w' : World} {lo B : Nat} {e : TypeId} {s : Nat} {v : Value} {n : Nat} {xs : List Value} (h : w.ownsRow lo e s v n xs) (hb : Below B w w') (hB : w.heap.size ≤ B) : w'.ownsRow lo e s v n xs :=
  ownsRow_sameG h fun k hk => hb.block k (Nat.lt_of_lt_of_le (h.lt k hk).2 hB)
theorem owns_made {w w' : World} {lo : Nat} {e : TypeId} {s : Nat} {v : Value} {n : Nat} {xs : List Value} (h : w.ownsRow lo e s v n xs) (hg : w.grownBy w' none) : w'.ownsRow lo e s v n xs := by
  refine World.ownsRow.kept h hg ?_
  cases hu : v.ownBlock with
  | none => exact .inl rfl
  | some k => exact .inr (by simp)
theorem owns_far {w : World} {lo : Nat} {e : TypeId} {s : Nat} {v : Value} {n : Nat} {xs : List Value} (h : w.ownsRow lo e s v n xs) {p : Addr} (hp : v.ownBlock ≠ some p.block) (u : Value) : (w.setCell p u).ownsRow lo e s v n xs :=
  ownsRow_sameG h fun k hk => Below.heap_setCell _ _ _ _ (fun he => hp (by rw [hk, he]))
theorem below_made {B : Nat} {a w w' : World} (h : Below B a w) (hg : w.grownBy w' none) (hs : B ≤ w.heap.size) : Below B a w' := h.grown hg hs fun k hk => by cases hk
/-- A row that a call made, in a block from lo on and below hi. -/
def HRow (w : World) (e : TypeId) (s lo hi : Nat) (v : Value) (n : Nat) (xs : List Value) : Prop :=
  w.ownsRow lo e s v n xs ∧ (∀ k, v.ownBlock = some k → k < hi) ∧ hi ≤ w.heap.size
section
variable {w w' : World} {e : TypeId} {s lo hi : Nat} {v : Value} {n : Nat} {xs : List Value}
theorem HRow.below {B : Nat} (h : HRow w e s lo hi v n xs) (hb : Below B w w') (hB : hi ≤ B) : HRow w' e s lo hi v n xs :=
  ⟨ownsRow_sameG h.1 fun k hk => hb.block k (by have := h.2.1 k hk; omega), h.2.1, Nat.le_trans h.2.2 hb.size⟩
theorem HRow.kept {lo2 hi2 : Nat} (h : HRow w e s lo hi v n xs) (hk : Kept lo2 hi2 w w') (hd : hi ≤ lo2 ∨ hi2 ≤ lo) : HRow w' e s lo hi v n xs :=
  ⟨ownsRow_sameG h.1 fun k hv => hk.block k (by have := h.2.1 k hv; have := (h.1.lt k hv).1; omega) (by have := (h.1.lt k hv).2; omega), h.2.1, Nat.le_trans h.2.2 hk.size⟩
theorem HRow.alloc (h : HRow w e s lo hi v n xs) (o : Obj) : HRow (w.alloc o) e s lo hi v n xs := h.below ((Below.refl _ _).alloc h.2.2 o) (Nat.le_refl _)
theorem HRow.drewN (h : HRow w e s lo hi v n xs) (q : Nat) : HRow (w.drewN q) e s lo hi v n xs := h
theorem HRow.mk' (h : w.ownsRow lo e s v n xs) : HRow w e s lo w.heap.size v n xs := ⟨h, fun k hk => (h.lt k hk).2, Nat.le_refl _⟩
theorem HRow.nil (w : World) (e : TypeId) (s lo : Nat) : HRow w e s lo w.heap.size (.slice none 0 0) 0 [] := HRow.mk' (World.ownsRow_nil w lo e s)
theorem HRow.mono {lo' hi' : Nat} (h : HRow w e s lo hi v n xs) (hl : lo' ≤ lo) (hh : hi ≤ hi') (hs : hi' ≤ w.heap.size) : HRow w e s lo' hi' v n xs := by
  obtain ⟨⟨h1, h2⟩, h3, h4⟩ := h
  refine ⟨⟨h1, ?_⟩, fun k hk => Nat.lt_of_lt_of_le (h3 k hk) hh, hs⟩
  rcases h2 with h2 | ⟨g, cap, cur, hv, hg, r⟩
  · exact .inl h2
  · exact .inr ⟨g, cap, cur, hv, Nat.le_trans hl hg, r⟩
theorem HRow.setFar (h : HRow w e s lo hi v n xs) {p : Addr} (hp : p.block < lo ∨ hi ≤ p.block) (u : Value) : HRow (w.setCell p u) e s lo hi v n xs :=
  ⟨owns_far h.1 (fun he => by have h1 := h.2.1 _ he; have h2 := (h.1.lt _ he).1; omega) u, h.2.1, by rw [setCell_size]; exact h.2.2⟩
theorem HRow.cases (h : HRow w e s lo hi v n xs) : (v = .slice none 0 0 ∧ n = 0) ∨ ∃ g cap, v = .slice (some ⟨g, 0, none⟩) n cap ∧ lo ≤ g ∧ g < hi := by
  obtain ⟨h1, h2⟩ := h.1
  rcases h2 with ⟨rfl, h0⟩ | ⟨g, cap, cur, rfl, hg, _⟩
  · exact .inl ⟨rfl, h0⟩
  · exact .inr ⟨g, cap, rfl, hg, h.2.1 g rfl⟩
theorem HRow.len (h : HRow w e s lo hi v n xs) : xs.length = n * s := h.1.1
theorem owns_row {a : Option Addr} {m cap : Nat} (h : w.ownsRow lo e s (.slice a m cap) n xs) : RowC w a xs := by
  obtain ⟨h1, h2⟩ := h
  rcases h2 with ⟨h3, h0⟩ | ⟨g, cap', cur, h3, hg, hh, hn, hm, hs, ht⟩
  · left; rw [h0, Nat.zero_mul] at h1; exact List.eq_nil_of_length_eq_zero h1
  · injection h3 with h4 h5 h6
    subst h4
    refine .inr ⟨g, 0, rfl, (Array.getElem?_eq_some_iff.1 hh).1, fun i u hi => ?_⟩
    have hil : i < n * s := by have := (List.getElem?_eq_some_iff.1 hi).1; omega
    rw [Nat.zero_add, cell_of_row w g i cur e (0, 0) hh]
    rw [← ht, List.getElem?_take, if_pos hil] at hi
    simpa using hi
theorem HRow.row {a : Option Addr} {m cap : Nat} (h : HRow w e s lo hi (.slice a m cap) n xs) : RowC w a xs := owns_row h.1
theorem HRow.at {g cap : Nat} (h : HRow w e s lo hi (.slice (some ⟨g, 0, none⟩) n cap) n xs) (j : Nat) (hj : j < n * s) : w.cell? ⟨g, j, none⟩ = xs[j]? ∧ w.frozen? ⟨g, j, none⟩ = false := ⟨h.1.cellAt j hj, h.1.frozenAt j⟩
theorem HRow.store {g cap : Nat} (h : HRow w e s lo hi (.slice (some ⟨g, 0, none⟩) n cap) n xs) (j : Nat) (u : Value) :
    HRow (w.setCell ⟨g, j, none⟩ u) e s lo hi (.slice (some ⟨g, 0, none⟩) n cap) n (xs.set j u) ∧ Kept lo hi w (w.setCell ⟨g, j, none⟩ u) := by
  have h2 := h.1.stored j u
  have hlt := (h.1.lt g rfl)
  have hgh := h.2.1 g rfl
  exact ⟨⟨h2.1, h.2.1, by rw [setCell_size]; exact h.2.2⟩, ⟨rfl, rfl, rfl, by rw [setCell_size]; exact Nat.le_refl _, fun k hk _ => Below.heap_setCell _ _ _ _ (by show k ≠ g; omega)⟩⟩
end
/-- A copy of a slice. -/
def CopyC (e : TypeId) (s : Nat) (w : World) (n : Nat) (xs : List Value) (en : Ending) (w' : World) : Prop :=
  ∃ a cap, en = .returned (.slice a n cap) ∧ Below w.heap.size w w' ∧ HRow w' e s w.heap.size w'.heap.size (.slice a n cap) n xs
end Go.Proofs.Ytckmacnmmloemaa
