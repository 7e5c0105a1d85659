/- Appends to slices of slices. -/
import Derived.Test.YtckmacnmmloemaaSs
import Derived.Test.YtckmacnmmloemaaOwnI
namespace Go.Proofs.Ytckmacnmmloemaa
open Go.RowKit
set_option linter.unusedVariables false
set_option linter.unusedSimpArgs false
set_option maxRecDepth 100000
attribute [local irreducible] wpV wpList Code.wp

theorem Src.own {w : World} {lo g0 g1 g2 n d0 d1 d2 : Nat} {D M V : List Int} (r0 : w.ownsRow lo 2 1 (.slice (some ⟨g0, 0, none⟩) n d0) n (ic D)) (r1 : w.ownsRow lo 98 4 (.slice (some ⟨g1, 0, none⟩) n d1) n (ic M)) (r2 : w.ownsRow lo 2 1 (.slice (some ⟨g2, 0, none⟩) n d2) n (ic V)) (hp : 0 < n) (hl : n ≤ 1048576) : Src w g0 0 g1 0 g2 0 n D M V := by
  have e0 : D.length = n := by have := r0.1; rw [ic_length] at this; omega
  have e1 : M.length = n * 4 := by have := r1.1; rw [ic_length] at this; omega
  have e2 : V.length = n := by have := r2.1; rw [ic_length] at this; omega
  exact ⟨(r0.lt g0 rfl).2, (r1.lt g1 rfl).2, (r2.lt g2 rfl).2, fun i hi => by rw [Nat.zero_add, r0.cellAt i (by omega), ic_at hi], fun i hi => by rw [Nat.zero_add, r1.cellAt i (by omega), ic_at hi], fun i hi => by rw [Nat.zero_add, r2.cellAt i (by omega), ic_at hi], e0, e1, e2, hp, hl⟩
/-- Another row grows: a slice of slices stays. -/
theorem MadeSS.grown {w w' : World} {p q lo hi n : Nat} {v v2 : Value} {Zs : List (List Int)} {S : List Value} (h : MadeSS w p q lo hi v n Zs S) (hg : w.grownBy w' v2.ownBlock) (ho : ∀ b, v2.ownBlock = some b → v.ownBlock ≠ some b ∧ ∀ (j : Nat) (u : Value), S[j]? = some u → u.ownBlock ≠ some b) : MadeSS w' p q lo hi v n Zs S :=
  ⟨⟨owns_pushed h.out.1 hg (fun b hb => (ho b hb).1), h.out.2.1, Nat.le_trans h.out.2.2 hg.size⟩, h.len, fun k hk => by obtain ⟨ak, ck, h1, h2⟩ := h.row k hk; exact ⟨ak, ck, h1, owns_pushed h2.1 hg (fun b hb => (ho b hb).2 k _ h1), h2.2.1, Nat.le_trans h2.2.2 hg.size⟩, h.far, h.apart, Nat.le_trans h.top hg.size⟩
theorem Kept.set {lo hi : Nat} (w : World) (p : Addr) (u : Value) (h : lo ≤ p.block ∧ p.block < hi) : Kept lo hi w (w.setCell p u) := ⟨rfl, rfl, rfl, by rw [setCell_size]; exact Nat.le_refl _, fun k hk _ => Below.heap_setCell _ _ _ _ (by omega)⟩
theorem MadeSS.push9 {w w' : World} {p q lo hi hi2 n g c lk : Nat} {v : Value} {Zs : List (List Int)} {S : List Value} (h : MadeSS w p q lo hi v n Zs S) {ak : Option Addr} {ck : Nat} {z : List Int} (hz : z.length = lk) (hr : HRow w 2 1 hi hi2 (.slice ak lk ck) lk (ic z)) (hqh : q ≤ hi) (hlo : lo ≤ hi)
    (ho : w'.ownsRow p 22 1 (.slice (some ⟨g, 0, none⟩) (n + 1) c) (n + 1) (S ++ [.slice ak lk ck])) (hg : w.grownBy w' v.ownBlock) (hgn : v.ownBlock = some g ∨ g = w.heap.size) (hgl : g < w'.heap.size) :
    MadeSS w' p w'.heap.size lo w'.heap.size (.slice (some ⟨g, 0, none⟩) (n + 1) c) (n + 1) (Zs ++ [z]) (S ++ [.slice ak lk ck]) := by
  subst hz
  exact h.push hr hqh hlo ho hg hgn hgl
section
variable {P : Program} {w : World} {ops : Array Oper} {rest : List Oper} {o : Oper} {a : Act} {Q : Exit → Act → World → Prop}
theorem makeS (P9 : Try.prog = P) (hg : o.guard = none) (l c : Operand) (hop : o.op = Op.makeSlice 39 l c) (kl kc : IntKind) (L C : Int) (n : Nat) (hl : a.eval l = .int kl L) (hc : a.eval c = .int kc C) (hL : L = (n : Int)) (hC : C = (n : Int)) (hn : n ≤ 1048576) {lo : Nat} (hlo : lo ≤ w.heap.size)
    (hK : ∀ w', w'.ownsRow lo 22 1 (.slice (some ⟨w.heap.size, 0, none⟩) n n) n (List.replicate n (.slice none 0 0)) → w.grownBy w' none → wpList P ops Q rest (a.put o.dst (.slice (some ⟨w.heap.size, 0, none⟩) n n)) w') :
    wpList P ops Q (o :: rest) a w := by
  subst P9
  obtain ⟨i0, hi, hz0, hz1, hz2⟩ := info_parts info_zs
  refine wpList_make_full w hg l c 39 hop lo 22 i0 (.slice none 0 0) 1 Try.underlying39 hi hz0 hz1 kl kc L C n hl hc hL hC (by rw [hz2]; omega) (by unfold maxLen; omega) hlo ?_
  intro w' h1 h2
  refine hK w' ?_ h2
  rw [show (Value.slice none 0 0).cells = #[Value.slice none 0 0] from rfl, toList_madeCells_one, Nat.mul_one] at h1
  exact h1
/-- One row more, behind a slice of slices that the call made. -/
theorem pushS (P9 : Try.prog = P) (hgd : o.guard = none) (s x : Operand) (ho : o.op = .call { callee := .builtin .append, args := #[s, x], argTypes := #[39, 39] })
    {lo n : Nat} {v : Value} {S : List Value} (hs : a.eval s = v) (hown : w.ownsRow lo 22 1 v n S) (b c : Nat) (ak : Option Addr) (lk ck : Nat) (hx : a.eval x = .slice (some ⟨b, 0, none⟩) 1 c) (hc : w.cell? ⟨b, 0, none⟩ = some (.slice ak lk ck)) (hl : n ≤ 1048576) (hlo : lo ≤ w.heap.size)
    (h : ∀ g cap w', w'.ownsRow lo 22 1 (.slice (some ⟨g, 0, none⟩) (n + 1) cap) (n + 1) (S ++ [.slice ak lk ck]) → w.grownBy w' v.ownBlock → (v.ownBlock = some g ∨ g = w.heap.size) → g < w'.heap.size → wpList P ops Q rest (a.put o.dst (.slice (some ⟨g, 0, none⟩) (n + 1) cap)) w') : wpList P ops Q (o :: rest) a w := by
  subst P9
  obtain ⟨i0, hi, hz0, hz1, hz2⟩ := info_parts info_zs
  refine wpList_append_lies w hgd s x 39 ho lo 22 i0 (.slice none 0 0) 1 24 Try.underlying39 hi hz0 hz1 hz2 rfl (by decide) v n _ hs hown ⟨b, 0, none⟩ 1 c [.slice ak lk ck] hx rfl ?_ ?_ (by decide) (by unfold maxLen; omega) (by omega) hlo _ rfl ?_
  · intro j u hj
    rcases j with _ | j
    · simp only [List.getElem?_cons_zero, Option.some.injEq] at hj; subst hj; simpa [Addr.add] using hc
    · simp at hj
  · intro u hu; simp at hu; subst hu; rfl
  · intro g cap w' h1 h2 h3 h4
    exact h g cap w' h1 h2 h3 h4
end
end Go.Proofs.Ytckmacnmmloemaa
