/- What comes of the functions that make hills; numbers that are told, and rows of them; the hill that is given where it is valid. -/
import Derived.Test.YtdpnkpgfepckdaaIs
namespace Go.Proofs.Ytdpnkpgfepckdaa
open Go.RowKit
set_option maxRecDepth 100000

structure HR where
  wide : Int
  high : Int
  zs : List Nat
  ok : Bool
def failH : HR := ⟨0, 0, [], false⟩

/-- A hill in new memory, and whether there is one. -/
def RetHB (rw rh : Int) (rz : List Nat) (rok : Bool) (W : World) (e : Ending) (w' : World) : Prop :=
  ∃ a cap, e = .returned (.tuple #[.agg #[.int .i64 rw, .int .i64 rh, .slice a rz.length cap], .bool rok]) ∧ Below W.heap.size W w' ∧ FRow w' W.heap.size w'.heap.size (.slice a rz.length cap) rz

def okO (o : Option Nat) : Bool := match o with | some b => fin32 b | none => false
def okT (T : List (Option Nat)) : Bool := T.all okO
def valsT (T : List (Option Nat)) : List Nat := T.map (·.getD 0)
def giveH (wide high : Int) (T : List (Option Nat)) : HR := if okT T then ⟨wide, high, valsT T, true⟩ else failH

theorem told_fin {o : Option Nat} {r : Nat} (h : Rp .f32 o r) : fin32 r = okO o := by
  cases o with
  | some b => obtain rfl : r = b := h; rfl
  | none =>
    have := h.1
    rw [nan32_iff, decide_eq_true_eq] at this
    unfold fin32 okO
    rw [decide_eq_false_iff_not]
    omega

/-- A row of numbers that are told. -/
def Told (T : List (Option Nat)) (rs : List Nat) : Prop := rs.length = T.length ∧ ∀ i, i < T.length → Rp .f32 (T.getD i none) (rs.getD i 0)
theorem Told.nil : Told [] [] := ⟨rfl, fun i hi => by cases hi⟩
theorem Told.snoc {T : List (Option Nat)} {rs : List Nat} {o : Option Nat} {r : Nat} (h : Told T rs) (hr : Rp .f32 o r) : Told (T ++ [o]) (rs ++ [r]) := by
  obtain ⟨h1, h2⟩ := h
  refine ⟨by simp [h1], fun i hi => ?_⟩
  rcases Nat.lt_or_ge i T.length with h3 | h3
  · have := h2 i h3
    rw [List.getD_eq_getElem?_getD, List.getElem?_append_left h3, List.getD_eq_getElem?_getD, List.getElem?_append_left (by omega)]
    rw [List.getD_eq_getElem?_getD, List.getD_eq_getElem?_getD] at this
    exact this
  · have : i = T.length := by simp at hi; omega
    subst this
    rw [List.getD_eq_getElem?_getD, List.getElem?_append_right (Nat.le_refl _), List.getD_eq_getElem?_getD, List.getElem?_append_right (by omega), h1, Nat.sub_self]
    exact hr
theorem Told.tail {o : Option Nat} {T : List (Option Nat)} {r : Nat} {rs : List Nat} (h : Told (o :: T) (r :: rs)) : Rp .f32 o r ∧ Told T rs :=
  ⟨h.2 0 (by simp), by have := h.1; simpa using this, fun i hi => by have := h.2 (i + 1) (by simp; omega); simpa using this⟩
theorem Told.all : ∀ {T : List (Option Nat)} {rs : List Nat}, Told T rs → rs.all fin32 = okT T
  | [], rs, h => by have := h.1; simp at this; subst this; rfl
  | o :: T, rs, h => by
    cases rs with
    | nil => have := h.1; simp at this
    | cons r rs =>
      obtain ⟨h1, h2⟩ := h.tail
      rw [List.all_cons, h2.all, told_fin h1]; rfl
theorem Told.vals : ∀ {T : List (Option Nat)} {rs : List Nat}, Told T rs → okT T = true → rs = valsT T
  | [], rs, h, _ => by have := h.1; simp at this; subst this; rfl
  | o :: T, rs, h, hok => by
    cases rs with
    | nil => have := h.1; simp at this
    | cons r rs =>
      obtain ⟨h1, h2⟩ := h.tail
      have hok' : okO o = true ∧ okT T = true := by simpa [okT] using hok
      cases o with
      | none => cases hok'.1
      | some b =>
        obtain rfl : r = b := h1
        rw [h2.vals hok'.2]; rfl
theorem valsT_length (T : List (Option Nat)) : (valsT T).length = T.length := by simp [valsT]

/-- Results are words of 32 bits. -/
theorem write_lt (d : Ieee.Datum) : Ieee.single.write d < 4294967296 := by
  have hword : ∀ s r, r ≤ 2147483647 → Ieee.single.word s r < 4294967296 := fun s r hr => by
    unfold Ieee.Format.word
    have hw : Ieee.single.signWeight = 2147483648 := by decide
    rw [hw]
    split <;> omega
  have hinf : Ieee.single.infRung = 2139095040 := by decide +kernel
  cases d with
  | number s m e =>
    show Ieee.single.nearest s m e < _
    unfold Ieee.Format.nearest
    split
    · exact hword _ _ (by omega)
    · refine hword _ _ ?_
      rw [hinf]
      exact Nat.le_trans (Nat.min_le_right _ _) (by omega)
  | infinity s => exact hword _ _ (by rw [hinf]; omega)
  | nan s f =>
    refine hword _ _ ?_
    rw [hinf]
    have : f % Ieee.single.binade < 8388608 := Nat.mod_lt _ (by decide)
    omega
theorem fl_lt {op : BinOp} (hop : op = .add ∨ op = .sub ∨ op = .mul ∨ op = .quo) {x y r : Nat} (h : Rp .f32 (floatBits op .f32 x y) r) : r < 4294967296 := by
  have hm : ∀ o : Option Ieee.Datum, Rp .f32 (o.map Ieee.single.write) r → r < 4294967296 := fun o ho => by
    cases o with
    | none => exact ho.2
    | some d => obtain rfl : r = _ := ho; exact write_lt d
  rcases hop with rfl | rfl | rfl | rfl <;> exact hm _ h
def LtO (o : Option Nat) : Prop := ∀ b, o = some b → b < 4294967296
theorem Rp.lt {o : Option Nat} {r : Nat} (h : Rp .f32 o r) (ho : LtO o) : r < 4294967296 := by
  cases o with
  | none => exact h.2
  | some b => obtain rfl : r = b := h; exact ho _ rfl
theorem fop_lt {op : BinOp} (hop : op = .add ∨ op = .sub ∨ op = .mul ∨ op = .quo) (X Y : Option Nat) : LtO (fop op .f32 X Y) := by
  intro b hb
  cases X with
  | none => cases hb
  | some x =>
    cases Y with
    | none => cases hb
    | some y =>
      have h2 : floatBits op .f32 x y = some b := hb
      exact fl_lt hop (x := x) (y := y) (by rw [h2]; exact Rp.refl _ _)

theorem FRow.setOther {w : World} {lo hi : Nat} {v : Value} {zs : List Nat} (h : FRow w lo hi v zs) {p : Addr} (hp : p.block < lo ∨ hi ≤ p.block) (u : Value) : FRow (w.setCell p u) lo hi v zs :=
  ⟨ownsRow_same h.1 fun k hk => Below.heap_setCell _ _ _ _ (by have := h.2.1 k hk; have := (h.1.lt k hk).1; omega), h.2.1, by rw [setCell_size]; exact h.2.2⟩
theorem FRow.setBox {w : World} {lo hi b : Nat} {v : Value} {zs : List Nat} (h : FRow w lo hi v zs) (hb : b < lo ∨ hi ≤ b) (u0 u1 u2 : Value) :
    FRow (((w.setCell ⟨b, 0, none⟩ u0).setCell ⟨b, 1, none⟩ u1).setCell ⟨b, 2, none⟩ u2) lo (((w.setCell ⟨b, 0, none⟩ u0).setCell ⟨b, 1, none⟩ u1).setCell ⟨b, 2, none⟩ u2).heap.size v zs :=
  (((h.setOther (p := ⟨b, 0, none⟩) hb u0).setOther (p := ⟨b, 1, none⟩) hb u1).setOther (p := ⟨b, 2, none⟩) hb u2).mono (Nat.le_refl _) (by simp only [setCell_size]; exact h.2.2) (Nat.le_refl _)
theorem belowSetBox {B b : Nat} {w w1 : World} (h : Below B w w1) (hb : B ≤ b) (u0 u1 u2 : Value) : Below B w (((w1.setCell ⟨b, 0, none⟩ u0).setCell ⟨b, 1, none⟩ u1).setCell ⟨b, 2, none⟩ u2) :=
  ((h.setCell (p := ⟨b, 0, none⟩) hb u0).setCell (p := ⟨b, 1, none⟩) hb u1).setCell (p := ⟨b, 2, none⟩) hb u2

/-- A box that holds a hill, and may be written. -/
def BoxW (w : World) (b : Nat) (wide high : Int) (v : Value) : Prop := BoxH w b wide high v ∧ ∀ o, w.frozen? ⟨b, o, none⟩ = false
theorem BoxW.below {w w' : World} {b B : Nat} {wide high : Int} {v : Value} (h : BoxW w b wide high v) (hb : Below B w w') (hB : b < B) : BoxW w' b wide high v :=
  ⟨h.1.below hb hB, fun o => by rw [hb.frozen (p := ⟨b, o, none⟩) hB]; exact h.2 o⟩
theorem BoxH.alloc {w : World} {b : Nat} {wide high : Int} {v : Value} (h : BoxH w b wide high v) (o : Obj) : BoxH (w.alloc o) b wide high v := h.below (below1 w o) h.2.2.2
theorem BoxW.alloc {w : World} {b : Nat} {wide high : Int} {v : Value} (h : BoxW w b wide high v) (o : Obj) : BoxW (w.alloc o) b wide high v := h.below (below1 w o) h.1.2.2.2
theorem BoxW.new (w : World) (wide high : Int) (v : Value) (t : TypeId) : BoxW (w.alloc (.cells #[.int .i64 wide, .int .i64 high, v] t)) w.heap.size wide high v :=
  ⟨BoxH.new w wide high v t, fun o => by simp [go_sem]⟩
theorem BoxH.c0 {w : World} {b : Nat} {wide high : Int} {v : Value} (h : BoxH w b wide high v) : w.cell? ⟨b, 0, none⟩ = some (.int .i64 wide) := h.1
theorem BoxH.c1 {w : World} {b : Nat} {wide high : Int} {v : Value} (h : BoxH w b wide high v) : w.cell? ⟨b, 1, none⟩ = some (.int .i64 high) := h.2.1
theorem BoxH.c2 {w : World} {b : Nat} {wide high : Int} {v : Value} (h : BoxH w b wide high v) : w.cell? ⟨b, 2, none⟩ = some v := h.2.2.1
theorem BoxH.drew {w : World} {b : Nat} {wide high : Int} {v : Value} (h : BoxH w b wide high v) : BoxH w.drew b wide high v := h
theorem BoxH.at (w : World) (b : Nat) (hb : b = w.heap.size) (wide high : Int) (v : Value) (t : TypeId) : BoxH (w.alloc (.cells #[.int .i64 wide, .int .i64 high, v] t)) b wide high v := hb ▸ BoxH.new w wide high v t
theorem BoxW.at (w : World) (b : Nat) (hb : b = w.heap.size) (wide high : Int) (v : Value) (t : TypeId) : BoxW (w.alloc (.cells #[.int .i64 wide, .int .i64 high, v] t)) b wide high v := hb ▸ BoxW.new w wide high v t
theorem cell_far3 {w : World} {b c : Nat} (h : b ≠ c) (u0 u1 u2 : Value) (o : Nat) : (((w.setCell ⟨c, 0, none⟩ u0).setCell ⟨c, 1, none⟩ u1).setCell ⟨c, 2, none⟩ u2).cell? ⟨b, o, none⟩ = w.cell? ⟨b, o, none⟩ :=
  World.cell?_of_block (w := w) (a := ⟨b, o, none⟩) (by rw [Below.heap_setCell _ _ _ _ (by exact h), Below.heap_setCell _ _ _ _ (by exact h), Below.heap_setCell _ _ _ _ (by exact h)])
theorem BoxH.grown {w w' : World} {b : Nat} {wide high : Int} {v : Value} {row : Option Nat} (h : BoxH w b wide high v) (hg : w.grownBy w' row) (hne : some b ≠ row) : BoxH w' b wide high v := by
  have hb := hg.block b h.2.2.2 hne
  obtain ⟨h0, h1, h2, h3⟩ := h
  exact ⟨by rw [World.cell?_of_block (w := w) (a := ⟨b, 0, none⟩) hb, h0], by rw [World.cell?_of_block (w := w) (a := ⟨b, 1, none⟩) hb, h1], by rw [World.cell?_of_block (w := w) (a := ⟨b, 2, none⟩) hb, h2], Nat.lt_of_lt_of_le h3 hg.size⟩
theorem BoxW.grown {w w' : World} {b : Nat} {wide high : Int} {v : Value} {row : Option Nat} (h : BoxW w b wide high v) (hg : w.grownBy w' row) (hne : some b ≠ row) : BoxW w' b wide high v :=
  ⟨h.1.grown hg hne, fun o => by rw [World.frozen?_of_block (w := w) (a := ⟨b, o, none⟩) (hg.block b h.1.2.2.2 hne)]; exact h.2 o⟩
theorem BoxW.drew {w : World} {b : Nat} {wide high : Int} {v : Value} (h : BoxW w b wide high v) : BoxW w.drew b wide high v := h

theorem BoxW.kept {w w' : World} {b lo hi : Nat} {wide high : Int} {v : Value} (h : BoxW w b wide high v) (hk : Kept lo hi w w') (hB : b < lo ∨ hi ≤ b) : BoxW w' b wide high v :=
  ⟨h.1.kept hk hB, fun o => by rw [World.frozen?_of_block (w := w) (a := ⟨b, o, none⟩) (hk.block b hB h.1.2.2.2)]; exact h.2 o⟩
end Go.Proofs.Ytdpnkpgfepckdaa
