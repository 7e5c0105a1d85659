/- Rows of numbers that a call makes: by append, by make and stores; what they leave alone. -/
import Derived.Test.YtdmcjloaommnpaaMarkF
import Derived.Test.YtdmcjloaommnpaaFk
import Derived.Deep.AppendLies
namespace Go.Proofs.Ytdmcjloaommnpaa
open Go.RowKit
set_option linter.unusedVariables false

/-- A row that the call made, in a block from lo on. -/
def RowO (w : World) (lo : Nat) (v : Value) (zs : List Nat) : Prop := w.ownsRow lo 26 1 v zs.length (zs.map (.float .f32))
/-- Two rows in blocks of their own. -/
def Apart (v u : Value) : Prop := ∀ g, v.ownBlock = some g → u.ownBlock ≠ some g
/-- A world after a push: the row may have been written, new blocks made. -/
def Pushed (w w' : World) (v : Value) (g : Nat) : Prop := w.grownBy w' v.ownBlock ∧ (v.ownBlock = some g ∨ g = w.heap.size) ∧ g < w'.heap.size

theorem RowO.frow {w : World} {lo : Nat} {v : Value} {zs : List Nat} (h : RowO w lo v zs) : FRow w lo w.heap.size v zs := FRow.mk h
theorem RowO.below {w w' : World} {lo B : Nat} {v : Value} {zs : List Nat} (h : RowO w lo v zs) (hb : Below B w w') (hB : w.heap.size ≤ B) : RowO w' lo v zs :=
  ownsRow_same h fun k hk => hb.block k (Nat.lt_of_lt_of_le (h.lt k hk).2 hB)
theorem RowO.alloc {w : World} {lo : Nat} {v : Value} {zs : List Nat} (h : RowO w lo v zs) (o : Obj) : RowO (w.alloc o) lo v zs := h.below (bel1 w o) (Nat.le_refl _)
theorem RowO.drewN {w : World} {lo : Nat} {v : Value} {zs : List Nat} (h : RowO w lo v zs) (n : Nat) : RowO (w.drewN n) lo v zs := h
theorem RowO.nil (w : World) (lo : Nat) : RowO w lo (.slice none 0 0) [] := World.ownsRow_nil w lo _ 1
theorem RowO.len {w : World} {lo : Nat} {v : Value} {zs : List Nat} (h : RowO w lo v zs) : ∃ a cap, v = .slice a zs.length cap := by
  obtain ⟨a, cap, h1, _⟩ := (FRow.mk h).slice
  exact ⟨a, cap, h1⟩
theorem RowO.lo {w : World} {lo : Nat} {v : Value} {zs : List Nat} (h : RowO w lo v zs) : ∀ k, v.ownBlock = some k → lo ≤ k ∧ k < w.heap.size := fun k hk => h.lt k hk
theorem RowO.other {w w' : World} {lo g : Nat} {v u : Value} {zs : List Nat} (h : RowO w lo u zs) (hp : Pushed w w' v g) (ha : Apart v u) : RowO w' lo u zs := by
  refine World.ownsRow.kept h hp.1 ?_
  cases hu : u.ownBlock with
  | none => exact .inl rfl
  | some k => exact .inr fun he => ha k he.symm hu
theorem Apart.next {w w' : World} {lo g : Nat} {v u : Value} {zs : List Nat} {n cap : Nat} (ha : Apart v u) (hp : Pushed w w' v g) (hu : RowO w lo u zs) : Apart (.slice (some ⟨g, 0, none⟩) n cap) u := by
  intro k hk hk2
  simp only [Value.ownBlock, Option.some.injEq] at hk
  subst hk
  rcases hp.2.1 with h | h
  · exact ha _ h hk2
  · have := (hu.lo _ hk2).2; omega
theorem Apart.symm {v u : Value} (h : Apart v u) : Apart u v := fun g h1 h2 => h g h2 h1
theorem Apart.nil (u : Value) (n c : Nat) : Apart (.slice none n c) u := fun g h => by cases h
theorem Bx.pushed {w w' : World} {lo g b : Nat} {v : Value} {zs : List Nat} {vs : List Value} (h : Bx w b vs) (hp : Pushed w w' v g) (hr : RowO w lo v zs) (hb : b < lo) : Bx w' b vs := by
  have hne : some b ≠ v.ownBlock := fun he => by have := (hr.lo b he.symm).1; omega
  exact ⟨Nat.lt_of_lt_of_le h.1 hp.1.size, fun j u hj => hp.1.cell (h.2 j u hj) hne⟩
theorem Below.pushed {B : Nat} {a w w' : World} {lo g : Nat} {v : Value} {zs : List Nat} (h : Below B a w) (hp : Pushed w w' v g) (hr : RowO w lo v zs) (hB : B ≤ lo) (hs : B ≤ w.heap.size) : Below B a w' :=
  h.grown hp.1 hs fun k hk => Nat.le_trans hB (hr.lo k hk).1

section
variable {P : Program} {w : World} {ops : Array Oper} {rest : List Oper} {o : Oper} {a : Act} {Q : Exit → Act → World → Prop}
/-- One number more, behind a row that the call made. -/
theorem push_any (P9 : Try.prog = P) (hgd : o.guard = none) (s x : Operand) (ho : o.op = .call { callee := .builtin .append, args := #[s, x], argTypes := #[22, 22] })
    {lo : Nat} {v : Value} {zs : List Nat} (hs : a.eval s = v) (hown : RowO w lo v zs) (b c z : Nat) (hx : a.eval x = .slice (some ⟨b, 0, none⟩) 1 c) (hc : w.cell? ⟨b, 0, none⟩ = some (.float .f32 z)) (hl : zs.length ≤ 1048576) (hlo : lo ≤ w.heap.size)
    (h : ∀ g cap w', RowO w' lo (.slice (some ⟨g, 0, none⟩) (zs.length + 1) cap) (zs ++ [z]) → Pushed w w' v g → wpList P ops Q rest (a.put o.dst (.slice (some ⟨g, 0, none⟩) (zs.length + 1) cap)) w') : wpList P ops Q (o :: rest) a w := by
  subst P9
  obtain ⟨i0, hi, hz0, hz1, hz2⟩ := info_parts info_f32
  refine wpList_append_lies w hgd s x 22 ho lo 26 i0 (.float .f32 0) 1 4 Try.underlying22 hi hz0 hz1 hz2 rfl (by decide) v zs.length _ hs hown ⟨b, 0, none⟩ 1 c [.float .f32 z] hx rfl ?_ ?_ (by decide) (by unfold maxLen; omega) (by omega) hlo _ rfl ?_
  · intro j u hj
    rcases j with _ | j
    · simp only [List.getElem?_cons_zero, Option.some.injEq] at hj; subst hj; simpa [Addr.add] using hc
    · simp at hj
  · intro u hu; simp at hu; subst hu; rfl
  · intro g cap w' h1 h2 h3 h4
    refine h g cap w' ?_ ⟨h2, h3, h4⟩
    unfold RowO
    rw [List.length_append, List.map_append]
    exact h1
theorem news_row (w : World) (b off : Nat) (zs : List Nat) (hc : ∀ i, i < zs.length → w.cell? ⟨b, off + i, none⟩ = some (.float .f32 (zs.getD i 0))) (j : Nat) (u : Value) (hu : (zs.map (Value.float .f32))[j]? = some u) : w.cell? ((⟨b, off, none⟩ : Addr).add j) = some u := by
  rw [List.getElem?_map] at hu
  by_cases hj : j < zs.length
  · rw [List.getElem?_eq_getElem hj] at hu
    simp only [Option.map_some, Option.some.injEq] at hu
    have := hc j hj
    rw [List.getD_eq_getElem?_getD, List.getElem?_eq_getElem hj, Option.getD_some, hu] at this
    rw [Go.WideShapes.add_plain]
    exact this
  · rw [List.getElem?_eq_none (by omega)] at hu; cases hu
/-- Many numbers more, behind a row that the call made. -/
theorem push_all (P9 : Try.prog = P) (hgd : o.guard = none) (s x : Operand) (ho : o.op = .call { callee := .builtin .append, args := #[s, x], argTypes := #[22, 22] })
    {lo : Nat} {v : Value} {zs ys : List Nat} (hs : a.eval s = v) (hown : RowO w lo v zs) (b off c : Nat) (hx : a.eval x = .slice (some ⟨b, off, none⟩) ys.length c) (hc : ∀ i, i < ys.length → w.cell? ⟨b, off + i, none⟩ = some (.float .f32 (ys.getD i 0))) (h0 : 0 < ys.length) (hl : zs.length + ys.length ≤ 1048576) (hlo : lo ≤ w.heap.size)
    (h : ∀ g cap w', RowO w' lo (.slice (some ⟨g, 0, none⟩) (zs.length + ys.length) cap) (zs ++ ys) → Pushed w w' v g → wpList P ops Q rest (a.put o.dst (.slice (some ⟨g, 0, none⟩) (zs.length + ys.length) cap)) w') : wpList P ops Q (o :: rest) a w := by
  subst P9
  obtain ⟨i0, hi, hz0, hz1, hz2⟩ := info_parts info_f32
  refine wpList_append_lies w hgd s x 22 ho lo 26 i0 (.float .f32 0) 1 4 Try.underlying22 hi hz0 hz1 hz2 rfl (by decide) v zs.length _ hs hown ⟨b, off, none⟩ ys.length c (ys.map (Value.float .f32)) hx (by simp) (fun j u hu => news_row w b off ys hc j u hu) ?_ h0 (by unfold maxLen; omega) (by omega) hlo _ rfl ?_
  · intro u hu
    obtain ⟨z, _, rfl⟩ := List.mem_map.1 hu
    rfl
  · intro g cap w' h1 h2 h3 h4
    refine h g cap w' ?_ ⟨h2, h3, h4⟩
    unfold RowO
    rw [List.length_append, List.map_append]
    exact h1
/-- A row of noughts. -/
theorem make_any (P9 : Try.prog = P) (hg : o.guard = none) (l c : Operand) (hop : o.op = Op.makeSlice 22 l c) (kl kc : IntKind) (L C : Int) (n : Nat) (hl : a.eval l = .int kl L) (hc : a.eval c = .int kc C) (hL : L = (n : Int)) (hC : C = (n : Int)) (hn : n ≤ 1048576) {lo : Nat} (hlo : lo ≤ w.heap.size)
    (hK : ∀ w', RowO w' lo (.slice (some ⟨w.heap.size, 0, none⟩) n n) (List.replicate n 0) → w.grownBy w' none → wpList P ops Q rest (a.put o.dst (.slice (some ⟨w.heap.size, 0, none⟩) n n)) w') :
    wpList P ops Q (o :: rest) a w := by
  subst P9
  obtain ⟨i0, hi, hz0, hz1, hz2⟩ := info_parts info_f32
  refine wpList_make_full w hg l c 22 hop lo 26 i0 (.float .f32 0) 1 Try.underlying22 hi hz0 hz1 kl kc L C n hl hc hL hC (by rw [hz2]; omega) (by unfold maxLen; omega) hlo ?_
  intro w' h1 h2
  refine hK w' ?_ h2
  unfold RowO
  rw [List.length_replicate, List.map_replicate]
  rw [show (Value.float FloatKind.f32 0).cells = #[Value.float FloatKind.f32 0] from rfl, toList_madeCells_one, Nat.mul_one] at h1
  exact h1
end
theorem Below.made {B : Nat} {a w w' : World} (h : Below B a w) (hg : w.grownBy w' none) (hs : B ≤ w.heap.size) : Below B a w' := h.grown hg hs fun k hk => by cases hk
theorem Bx.made {w w' : World} {b : Nat} {vs : List Value} (h : Bx w b vs) (hg : w.grownBy w' none) : Bx w' b vs := ⟨Nat.lt_of_lt_of_le h.1 hg.size, fun j u hj => hg.cell (h.2 j u hj) (by simp)⟩
theorem RowO.made {w w' : World} {lo : Nat} {v : Value} {zs : List Nat} (h : RowO w lo v zs) (hg : w.grownBy w' none) : RowO w' lo v zs := by
  refine World.ownsRow.kept h hg ?_
  cases hu : v.ownBlock with
  | none => exact .inl rfl
  | some k => exact .inr (by simp)
/-- A number in the row, and that it may be written. -/
theorem RowO.at {w : World} {lo g n cap : Nat} {zs : List Nat} (h : RowO w lo (.slice (some ⟨g, 0, none⟩) n cap) zs) (hn : n = zs.length) (j : Nat) (hj : j < zs.length) : w.cell? ⟨g, j, none⟩ = some (.float .f32 (zs.getD j 0)) ∧ w.frozen? ⟨g, j, none⟩ = false :=
  FRow.at (FRow.mk h) j hj hn
/-- A store into the row. -/
theorem RowO.store {w : World} {lo g cap n : Nat} {zs : List Nat} (h : RowO w lo (.slice (some ⟨g, 0, none⟩) n cap) zs) (hn : n = zs.length) (j z : Nat) : RowO (w.setCell ⟨g, j, none⟩ (.float .f32 z)) lo (.slice (some ⟨g, 0, none⟩) n cap) (zs.set j z) := by
  subst hn
  have := (FRow.store (FRow.mk h) j z).1.1
  unfold RowO
  rw [List.length_set] at this ⊢
  exact this
theorem RowO.setFar {w : World} {lo : Nat} {v : Value} {zs : List Nat} (h : RowO w lo v zs) {p : Addr} (hp : v.ownBlock ≠ some p.block) (u : Value) : RowO (w.setCell p u) lo v zs :=
  ownsRow_same h fun k hk => Below.heap_setCell _ _ _ _ (fun he => hp (by rw [hk, he]))
theorem Bx.setFar {w : World} {b : Nat} {vs : List Value} (h : Bx w b vs) {p : Addr} (hp : p.block ≠ b) (u : Value) : Bx (w.setCell p u) b vs :=
  ⟨by simp; exact h.1, fun j x hj => by rw [World.cell?_of_block (w := w) (a := ⟨b, j, none⟩) (Below.heap_setCell _ _ _ _ (by exact fun he => hp he.symm))]; exact h.2 j x hj⟩
theorem Bx.kept {w w' : World} {b lo hi : Nat} {vs : List Value} (h : Bx w b vs) (hk : Kept lo hi w w') (hB : b < lo ∨ hi ≤ b) : Bx w' b vs :=
  ⟨Nat.lt_of_lt_of_le h.1 hk.size, fun j u hj => by rw [World.cell?_of_block (w := w) (a := ⟨b, j, none⟩) (hk.block b hB h.1)]; exact h.2 j u hj⟩
theorem eqF_b (a a' : Option Addr) (cap cap' : Nat) (zs : List Nat) (w : World) (h : RowF .f32 w a zs) (h' : RowF .f32 w a' zs) (hl : zs.length ≤ 1048576) :
    Calls Try.prog 18 #[.slice a zs.length cap, .slice a' zs.length cap'] w fun e w' => e = .returned (.bool true) ∧ Below w.heap.size w w' :=
  (eqFloat32S_any a a' cap cap' zs w h h' hl).mono fun e w' ⟨h1, n, h2⟩ => ⟨h1, by rw [h2]; exact beld (Below.refl _ _) n⟩
/-- A list of numbers, with a bool; in new memory. -/
def ListB (R : List Nat × Bool) (w : World) (e : Ending) (w' : World) : Prop :=
  ∃ a cap, e = .returned (.tuple #[.slice a R.1.length cap, .bool R.2]) ∧ FRow w' w.heap.size w'.heap.size (.slice a R.1.length cap) R.1 ∧ R.1.length ≤ 1048576 ∧ Below w.heap.size w w'
theorem ListB.no {w w' : World} (hb : Below w.heap.size w w') : ListB ([], false) w (.returned (.tuple #[.slice none 0 0, .bool false])) w' :=
  ⟨none, 0, rfl, (FRow.nil w' _), by decide, hb⟩
theorem ListB.yes {w w' : World} {lo : Nat} {v : Value} {zs : List Nat} (h : RowO w' lo v zs) (hlo : w.heap.size ≤ lo) (hl : zs.length ≤ 1048576) (hb : Below w.heap.size w w') : ListB (zs, true) w (.returned (.tuple #[v, .bool true])) w' := by
  obtain ⟨a, cap, rfl⟩ := h.len
  exact ⟨a, cap, rfl, (FRow.mk h).mono hlo (Nat.le_refl _) (Nat.le_refl _), hl, hb⟩
/-- Two lists, with a bool; in new memory, each in blocks of its own. -/
def PostLL (Z1 Z2 : List Nat) (B : Bool) (w : World) (e : Ending) (w' : World) : Prop :=
  ∃ a1 c1 lo1 hi1 a2 c2 lo2 hi2, e = .returned (.tuple #[.slice a1 Z1.length c1, .slice a2 Z2.length c2, .bool B]) ∧ FRow w' lo1 hi1 (.slice a1 Z1.length c1) Z1 ∧ FRow w' lo2 hi2 (.slice a2 Z2.length c2) Z2 ∧
    w.heap.size ≤ lo1 ∧ w.heap.size ≤ lo2 ∧ Z1.length ≤ 1048576 ∧ Z2.length ≤ 1048576 ∧ (hi1 ≤ lo2 ∨ hi2 ≤ lo1) ∧ Below w.heap.size w w'
theorem RowO.one {w : World} {lo B : Nat} {v : Value} {zs : List Nat} (h : RowO w lo v zs) (hB : B ≤ lo) (hs : B ≤ w.heap.size) : ∃ l h', FRow w l h' v zs ∧ B ≤ l ∧ ((v.ownBlock = none ∧ l = w.heap.size ∧ h' = w.heap.size) ∨ (v.ownBlock = some l ∧ h' = l + 1 ∧ l < w.heap.size)) := by
  obtain ⟨h1, h2⟩ := h
  rcases h2 with ⟨rfl, h0⟩ | ⟨g, cap, cur, rfl, hg, hh, r⟩
  · exact ⟨w.heap.size, w.heap.size, ⟨⟨h1, .inl ⟨rfl, h0⟩⟩, (fun k hk => by cases hk), Nat.le_refl _⟩, hs, .inl ⟨rfl, rfl, rfl⟩⟩
  · have hlt : g < w.heap.size := by
      rcases Nat.lt_or_ge g w.heap.size with h | h
      · exact h
      · rw [Array.getElem?_eq_none h] at hh; cases hh
    refine ⟨g, g + 1, ⟨⟨h1, .inr ⟨g, cap, cur, rfl, Nat.le_refl _, hh, r⟩⟩, fun k hk => ?_, hlt⟩, Nat.le_trans hB hg, .inr ⟨rfl, rfl, hlt⟩⟩
    simp only [Value.ownBlock, Option.some.injEq] at hk
    omega
theorem PostLL.no {w w' : World} (hb : Below w.heap.size w w') : PostLL [] [] false w (.returned (.tuple #[.slice none 0 0, .slice none 0 0, .bool false])) w' :=
  ⟨none, 0, _, _, none, 0, _, _, rfl, FRow.nil w' w'.heap.size, FRow.nil w' w'.heap.size, hb.size, hb.size, by decide, by decide, .inl (Nat.le_refl _), hb⟩
theorem PostLL.yes {w w' : World} {lo : Nat} {v u : Value} {zs ys : List Nat} (h : RowO w' lo v zs) (h' : RowO w' lo u ys) (ha : Apart v u) (hlo : w.heap.size ≤ lo) (hl : zs.length ≤ 1048576) (hl' : ys.length ≤ 1048576) (hb : Below w.heap.size w w') : PostLL zs ys true w (.returned (.tuple #[v, u, .bool true])) w' := by
  obtain ⟨l1, h1, f1, b1, c1⟩ := h.one hlo hb.size
  obtain ⟨l2, h2, f2, b2, c2⟩ := h'.one hlo hb.size
  obtain ⟨a, cap, rfl⟩ := h.len
  obtain ⟨a', cap', rfl⟩ := h'.len
  refine ⟨a, cap, l1, h1, a', cap', l2, h2, rfl, f1, f2, b1, b2, hl, hl', ?_, hb⟩
  rcases c1 with ⟨_, rfl, rfl⟩ | ⟨e1, rfl, g1⟩
  · right; rcases c2 with ⟨_, rfl, rfl⟩ | ⟨_, rfl, g2⟩ <;> omega
  · rcases c2 with ⟨_, rfl, rfl⟩ | ⟨e2, rfl, g2⟩
    · left; omega
    · have : l1 ≠ l2 := fun he => ha l1 e1 (by rw [he]; exact e2)
      omega
/-- The row that is filled so far. -/
theorem fill_set (acc : List Nat) (n z : Nat) (h : acc.length < n) : (acc ++ List.replicate (n - acc.length) 0).set acc.length z = (acc ++ [z]) ++ List.replicate (n - (acc ++ [z]).length) 0 := by
  rw [List.set_append_right _ _ (Nat.le_refl _), Nat.sub_self, List.length_append, List.length_singleton, show n - acc.length = (n - (acc.length + 1)) + 1 by omega, List.replicate_succ, List.set_cons_zero]
  simp
theorem fill_len (acc : List Nat) (n : Nat) (h : acc.length ≤ n) : (acc ++ List.replicate (n - acc.length) 0).length = n := by simp; omega
theorem fill_all (acc : List Nat) (n : Nat) (h : acc.length = n) : acc ++ List.replicate (n - acc.length) 0 = acc := by subst h; simp
end Go.Proofs.Ytdmcjloaommnpaa
