/- Makes and pushes in rows of integers and dams. -/
import Derived.Test.YtckmacnmmloemaaRivH
import Derived.Test.YtckmacnmmloemaaRegionI
namespace Go.Proofs.Ytckmacnmmloemaa
open Go.RowKit
set_option linter.unusedVariables false
set_option linter.unusedSimpArgs false
set_option maxRecDepth 100000
attribute [local irreducible] wpV wpList Code.wp

theorem Gd.start {n j : Nat} {p : Prop} : Gd (Array.replicate n false) j p := fun h => by rw [getD_replicate_false] at h; cases h
theorem Ng.start {l : Array Bool} {j : Nat} {p : Prop} (h : p) : Ng l j p := fun _ => h
theorem Gd.undone {l : Array Bool} {i j : Nat} {p : Prop} (h : l.getD j false = false) (hne : i ≠ j) : Gd (l.setIfInBounds i true) j p := fun h9 => by rw [set_ne hne, h] at h9; cases h9
theorem StepAll.cons {P : Program} {l : List Oper} {Inv : Array Bool → Act → World → Prop} {k : Nat} {o : Oper} {rest : List Oper} (j : Nat) (hj : k + 1 = j)
    (h : ∀ d a w, d.size = l.length → Closed l d → Inv d a w → d.getD k false = false → Deps d o.after.toList → wpList P l.toArray (QI fun a' w' => Inv (d.setIfInBounds k true) a' w') [o] a w) (hr : StepAll P l Inv j rest) : StepAll P l Inv k (o :: rest) := by
  subst hj; exact ⟨h, hr⟩

theorem Gd.imp2 {l : Array Bool} {i : Nat} {p q r : Prop} (h : Gd l i p) (k : Gd l i q) (f : p → q → r) : Gd l i r := fun h9 => f (h h9) (k h9)
section
variable {P : Program} {w : World} {ops : Array Oper} {rest : List Oper} {o : Oper} {a : Act} {Q : Exit → Act → World → Prop}
theorem makeZ (P9 : Try.prog = P) (hg : o.guard = none) (l c : Operand) (hop : o.op = Op.makeSlice 22 l c) (kl kc : IntKind) (L C : Int) (n : Nat) (hl : a.eval l = .int kl L) (hc : a.eval c = .int kc C) (hL : L = (n : Int)) (hC : C = (n : Int)) (hn : n ≤ 1048576) {lo : Nat} (hlo : lo ≤ w.heap.size)
    (hK : ∀ w', w'.ownsRow lo 2 1 (.slice (some ⟨w.heap.size, 0, none⟩) n n) n (List.replicate n (.int .i64 0)) → w.grownBy w' none → wpList P ops Q rest (a.put o.dst (.slice (some ⟨w.heap.size, 0, none⟩) n n)) w') :
    wpList P ops Q (o :: rest) a w := by
  subst P9
  obtain ⟨i0, hi, hz0, hz1, hz2⟩ := info_parts info_z64
  refine wpList_make_full w hg l c 22 hop lo 2 i0 (.int .i64 0) 1 Try.underlying22 hi hz0 hz1 kl kc L C n hl hc hL hC (by rw [hz2]; omega) (by unfold maxLen; omega) hlo ?_
  intro w' h1 h2
  refine hK w' ?_ h2
  rw [show (Value.int .i64 0).cells = #[Value.int .i64 0] from rfl, toList_madeCells_one, Nat.mul_one] at h1
  exact h1
theorem makeD (P9 : Try.prog = P) (hg : o.guard = none) (l c : Operand) (hop : o.op = Op.makeSlice 27 l c) (kl kc : IntKind) (L C : Int) (n : Nat) (hl : a.eval l = .int kl L) (hc : a.eval c = .int kc C) (hL : L = (n : Int)) (hC : C = (n : Int)) (hn : n ≤ 1048576) {lo : Nat} (hlo : lo ≤ w.heap.size)
    (hK : ∀ w', w'.ownsRow lo 98 4 (.slice (some ⟨w.heap.size, 0, none⟩) n n) n (List.replicate (n * 4) (.int .i64 0)) → w.grownBy w' none → wpList P ops Q rest (a.put o.dst (.slice (some ⟨w.heap.size, 0, none⟩) n n)) w') :
    wpList P ops Q (o :: rest) a w := by
  subst P9
  obtain ⟨i0, hi, hz0, hz1, hz2⟩ := info_parts info_dam
  refine wpList_make_full w hg l c 27 hop lo 98 i0 (.agg #[.int .i64 0, .int .i64 0, .int .i64 0, .int .i64 0]) 4 Try.underlying27 hi hz0 hz1 kl kc L C n hl hc hL hC (by rw [hz2]; omega) (by unfold maxLen; omega) hlo ?_
  intro w' h1 h2
  refine hK w' ?_ h2
  rw [← toList_madeCells_dam]
  exact h1

/-- One integer more, behind a row that the call made. -/
theorem pushZ (P9 : Try.prog = P) (hgd : o.guard = none) (s x : Operand) (ho : o.op = .call { callee := .builtin .append, args := #[s, x], argTypes := #[22, 22] })
    {lo n : Nat} {v : Value} {zs : List Int} (hs : a.eval s = v) (hown : w.ownsRow lo 2 1 v n (ic zs)) (b c : Nat) (z : Int) (hx : a.eval x = .slice (some ⟨b, 0, none⟩) 1 c) (hc : w.cell? ⟨b, 0, none⟩ = some (.int .i64 z)) (hl : n ≤ 1048576) (hlo : lo ≤ w.heap.size)
    (h : ∀ g cap w', w'.ownsRow lo 2 1 (.slice (some ⟨g, 0, none⟩) (n + 1) cap) (n + 1) (ic (zs ++ [z])) → w.grownBy w' v.ownBlock → (v.ownBlock = some g ∨ g = w.heap.size) → g < w'.heap.size → wpList P ops Q rest (a.put o.dst (.slice (some ⟨g, 0, none⟩) (n + 1) cap)) w') : wpList P ops Q (o :: rest) a w := by
  subst P9
  obtain ⟨i0, hi, hz0, hz1, hz2⟩ := info_parts info_z64
  refine wpList_append_lies w hgd s x 22 ho lo 2 i0 (.int .i64 0) 1 8 Try.underlying22 hi hz0 hz1 hz2 rfl (by decide) v n _ hs hown ⟨b, 0, none⟩ 1 c [.int .i64 z] hx rfl ?_ ?_ (by decide) (by unfold maxLen; omega) (by omega) hlo _ rfl ?_
  · intro j u hj
    rcases j with _ | j
    · simp only [List.getElem?_cons_zero, Option.some.injEq] at hj; subst hj; simpa [Addr.add] using hc
    · simp at hj
  · intro u hu; simp at hu; subst hu; rfl
  · intro g cap w' h1 h2 h3 h4
    refine h g cap w' ?_ h2 h3 h4
    rw [ic_append]
    exact h1
end
theorem owns_pushed {w w' : World} {lo : Nat} {e : TypeId} {s n : Nat} {v u : Value} {xs : List Value} (h : w.ownsRow lo e s u n xs) (hg : w.grownBy w' v.ownBlock) (ha : ∀ k, v.ownBlock = some k → u.ownBlock ≠ some k) : w'.ownsRow lo e s u n xs := by
  refine World.ownsRow.kept h hg ?_
  cases hu : u.ownBlock with
  | none => exact .inl rfl
  | some k => exact .inr fun he => ha k he.symm hu
theorem Bw.pushed {w w' : World} {v : Value} {b : Nat} {vs : List Value} (h : Bw w b vs) (hg : w.grownBy w' v.ownBlock) (hb : v.ownBlock ≠ some b) : Bw w' b vs := by
  have hh : w'.heap[b]? = w.heap[b]? := hg.block b h.1.1 (fun e => hb e.symm)
  exact ⟨⟨Nat.lt_of_lt_of_le h.1.1 hg.size, fun j u hj => (World.cell?_of_block (a := ⟨b, j, none⟩) hh).trans (h.1.2 j u hj)⟩, fun j hj => (World.frozen?_of_block (a := ⟨b, j, none⟩) hh).trans (h.2 j hj)⟩
theorem inZ_any (n lo hi : Int) (w : World) : Calls Try.prog 84 #[.int .i64 n, .int .i64 lo, .int .i64 hi] w (SayS (decide (lo ≤ n) && decide (n ≤ hi)) w) := by
  by_cases h1 : lo ≤ n
  · by_cases h2 : n ≤ hi
    · go_enter Try.func84, Try.ntmps84
      go_wp2
      go_ret
      exact ⟨_, by simp [h1, h2], rfl, rfl⟩
    · go_enter Try.func84, Try.ntmps84
      go_wp2
      go_ret
      exact ⟨_, by simp [h1, h2], rfl, rfl⟩
  · go_enter Try.func84, Try.ntmps84
    go_wp2
    go_ret
    exact ⟨_, by rw [decide_eq_false (by omega : ¬ lo ≤ n), Bool.false_and], rfl, rfl⟩
theorem isNodeCount_any (n : Int) (w : World) : Calls Try.prog 88 #[.int .i64 n] w (SayS (decide (1 ≤ n) && decide (n ≤ 12)) w) := by
  by_cases h1 : 1 ≤ n
  · by_cases h2 : n ≤ 12
    · go_enter Try.func88, Try.ntmps88
      go_wp2
      go_ret
      exact ⟨_, by simp [h1, h2], rfl, rfl⟩
    · go_enter Try.func88, Try.ntmps88
      go_wp2
      go_ret
      exact ⟨_, by simp [h1, h2], rfl, rfl⟩
  · go_enter Try.func88, Try.ntmps88
    go_wp2
    go_ret
    exact ⟨_, by rw [decide_eq_false (by omega : ¬ 1 ≤ n), Bool.false_and], rfl, rfl⟩
end Go.Proofs.Ytckmacnmmloemaa
