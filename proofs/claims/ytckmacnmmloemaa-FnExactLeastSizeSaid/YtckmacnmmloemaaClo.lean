/- Clones of rows of integers and of dams, and a first append of a whole row. -/
import Derived.Test.YtckmacnmmloemaaRegMk
import Derived.Test.YtckmacnmmloemaaRvQ
import Derived.Deep.AppendLies
namespace Go.Proofs.Ytckmacnmmloemaa
open Go.RowKit
set_option linter.unusedVariables false
set_option linter.unusedSimpArgs false
set_option maxRecDepth 100000
attribute [local irreducible] wpV wpList Code.wp
theorem news_ic (w : World) (b off : Nat) (zs : List Int) (hc : ∀ i, i < zs.length → w.cell? ⟨b, off + i, none⟩ = some (.int .i64 (zs.getD i 0))) (j : Nat) (u : Value) (hu : (ic zs)[j]? = some u) : w.cell? ((⟨b, off, none⟩ : Addr).add j) = some u := by
  by_cases hj : j < zs.length
  · rw [ic_at hj, Option.some.injEq] at hu
    rw [Go.WideShapes.add_plain, ← hu]
    exact hc j hj
  · rw [List.getElem?_eq_none (by rw [ic_length]; omega)] at hu; cases hu
theorem ic_one (zs : List Int) : ∀ u ∈ ic zs, u.oneCell' = true := by
  intro u hu
  unfold ic at hu
  obtain ⟨z, _, rfl⟩ := List.mem_map.1 hu
  rfl
theorem owns_lo {w : World} {lo lo' : Nat} {e : TypeId} {s : Nat} {v : Value} {n : Nat} {xs : List Value} (h : w.ownsRow lo e s v n xs) (hl : lo' ≤ lo) : w.ownsRow lo' e s v n xs := ((HRow.mk' h).mono hl (Nat.le_refl _) (Nat.le_refl _)).1
section
variable {P : Program} {w : World} {ops : Array Oper} {rest : List Oper} {o : Oper} {a : Act} {Q : Exit → Act → World → Prop}
theorem pushFirstZ (P9 : Try.prog = P) (hgd : o.guard = none) (s x : Operand) (ho : o.op = .call { callee := .builtin .append, args := #[s, x], argTypes := #[22, 22] })
    {lo : Nat} {v : Value} {ys : List Int} (hs : a.eval s = v) (hown : w.ownsRow lo 2 1 v 0 []) (b off c m : Nat) (hx : a.eval x = .slice (some ⟨b, off, none⟩) m c) (hm : ys.length = m * 1) (hc : ∀ i, i < ys.length → w.cell? ⟨b, off + i, none⟩ = some (.int .i64 (ys.getD i 0))) (h0 : 0 < m) (hl : m ≤ 1048576) (hlo : lo ≤ w.heap.size)
    (h : ∀ g cap w', w'.ownsRow lo 2 1 (.slice (some ⟨g, 0, none⟩) m cap) m (ic ys) → w.grownBy w' v.ownBlock → (v.ownBlock = some g ∨ g = w.heap.size) → g < w'.heap.size → wpList P ops Q rest (a.put o.dst (.slice (some ⟨g, 0, none⟩) m cap)) w') : wpList P ops Q (o :: rest) a w := by
  subst P9
  obtain ⟨i0, hi, hz0, hz1, hz2⟩ := info_parts info_z64
  refine wpList_append_lies w hgd s x 22 ho lo 2 i0 (.int .i64 0) 1 8 Try.underlying22 hi hz0 hz1 hz2 rfl (by decide) v 0 _ hs hown ⟨b, off, none⟩ m c (ic ys) hx (by rw [ic_length]; omega) (fun j u hu => news_ic w b off ys hc j u hu) (ic_one ys) h0 (by unfold maxLen; omega) (by omega) hlo _ rfl ?_
  intro g cap w' h1 h2 h3 h4
  rw [Nat.zero_add, List.nil_append] at h1
  rw [Nat.zero_add]
  exact h g cap w' h1 h2 h3 h4
theorem pushFirstD (P9 : Try.prog = P) (hgd : o.guard = none) (s x : Operand) (ho : o.op = .call { callee := .builtin .append, args := #[s, x], argTypes := #[27, 27] })
    {lo : Nat} {v : Value} {ys : List Int} (hs : a.eval s = v) (hown : w.ownsRow lo 98 4 v 0 []) (b off c m : Nat) (hx : a.eval x = .slice (some ⟨b, off, none⟩) m c) (hm : ys.length = m * 4) (hc : ∀ i, i < ys.length → w.cell? ⟨b, off + i, none⟩ = some (.int .i64 (ys.getD i 0))) (h0 : 0 < m) (hl : m ≤ 1048576) (hlo : lo ≤ w.heap.size)
    (h : ∀ g cap w', w'.ownsRow lo 98 4 (.slice (some ⟨g, 0, none⟩) m cap) m (ic ys) → w.grownBy w' v.ownBlock → (v.ownBlock = some g ∨ g = w.heap.size) → g < w'.heap.size → wpList P ops Q rest (a.put o.dst (.slice (some ⟨g, 0, none⟩) m cap)) w') : wpList P ops Q (o :: rest) a w := by
  subst P9
  obtain ⟨i0, hi, hz0, hz1, hz2⟩ := info_parts info_dam
  refine wpList_append_lies w hgd s x 27 ho lo 98 i0 (.agg #[.int .i64 0, .int .i64 0, .int .i64 0, .int .i64 0]) 4 32 Try.underlying27 hi hz0 hz1 hz2 rfl (by decide) v 0 _ hs hown ⟨b, off, none⟩ m c (ic ys) hx (by rw [ic_length]; omega) (fun j u hu => news_ic w b off ys hc j u hu) (ic_one ys) h0 (by unfold maxLen; omega) (by omega) hlo _ rfl ?_
  intro g cap w' h1 h2 h3 h4
  rw [Nat.zero_add, List.nil_append] at h1
  rw [Nat.zero_add]
  exact h g cap w' h1 h2 h3 h4
end
set_option maxHeartbeats 1000000 in
theorem cloneZ_any (b off m cap : Nat) (ys : List Int) (w : World) (hb : b < w.heap.size) (hc : ∀ i, i < ys.length → w.cell? ⟨b, off + i, none⟩ = some (.int .i64 (ys.getD i 0))) (hm : ys.length = m * 1) (h0 : 0 < m) (hl : m ≤ 1048576) :
    Calls Try.prog 103 #[.slice (some ⟨b, off, none⟩) m cap] w fun e w' => ∃ g c, e = .returned (.slice (some ⟨g, 0, none⟩) m c) ∧ w'.ownsRow w.heap.size 2 1 (.slice (some ⟨g, 0, none⟩) m c) m (ic ys) ∧ Below w.heap.size w w' := by
  have HC : Hid (∀ i, i < ys.length → (w.alloc (.cells #[] 2)).cell? ⟨b, off + i, none⟩ = some (.int .i64 (ys.getD i 0))) := Lib.hid fun i hi => by
    rw [(bel1 w _).cell (p := ⟨b, off + i, none⟩) hb]; exact hc i hi
  have HR : Hid ((w.alloc (.cells #[] 2)).ownsRow w.heap.size 2 1 (.slice (some ⟨w.heap.size, 0, none⟩) 0 0) 0 []) := Lib.hid (World.ownsRow_lit (base := w.heap.size) (e := 2) (size := 1) w #[] 0 (Nat.le_refl _) (by decide) rfl)
  have Hn := Lib.hid hm
  clear hc hm
  go_enter Try.func103, Try.ntmps103
  have hq : ∀ W : World, Sem.run Try.prog (binOp BinOp.eql 22 (Value.slice (some { block := b, off := off }) m cap) (Value.slice none 0 0)) W = .ok (.bool false) W := fun W => by first | rfl | simp [binOp, go_sem]
  go_wp2_with (at_builtin; refine pushFirstZ rfl rfl _ _ rfl rfl HR.out b off _ m rfl Hn.out HC.out h0 hl (by simp) ?_)
  intro g9 c9 w9 hr hp hg hg2
  have HB := Lib.hid ((bel1 w (.cells #[] 2)).grown hp (by simp) (fun j hj => by simp only [Value.ownBlock, Option.some.injEq] at hj; omega))
  have Hr := Lib.hid hr
  clear hr hp hg hg2
  go_wp2_with fail
  go_ret
  exact ⟨g9, c9, rfl, Hr.out, HB.out⟩
set_option maxHeartbeats 1000000 in
theorem cloneD_any (b off m cap : Nat) (ys : List Int) (w : World) (hb : b < w.heap.size) (hc : ∀ i, i < ys.length → w.cell? ⟨b, off + i, none⟩ = some (.int .i64 (ys.getD i 0))) (hm : ys.length = m * 4) (h0 : 0 < m) (hl : m ≤ 1048576) :
    Calls Try.prog 104 #[.slice (some ⟨b, off, none⟩) m cap] w fun e w' => ∃ g c, e = .returned (.slice (some ⟨g, 0, none⟩) m c) ∧ w'.ownsRow w.heap.size 98 4 (.slice (some ⟨g, 0, none⟩) m c) m (ic ys) ∧ Below w.heap.size w w' := by
  have HC : Hid (∀ i, i < ys.length → (w.alloc (.cells #[] 98)).cell? ⟨b, off + i, none⟩ = some (.int .i64 (ys.getD i 0))) := Lib.hid fun i hi => by
    rw [(bel1 w _).cell (p := ⟨b, off + i, none⟩) hb]; exact hc i hi
  have HR : Hid ((w.alloc (.cells #[] 98)).ownsRow w.heap.size 98 4 (.slice (some ⟨w.heap.size, 0, none⟩) 0 0) 0 []) := Lib.hid (World.ownsRow_lit (base := w.heap.size) (e := 98) (size := 4) w #[] 0 (Nat.le_refl _) (by decide) rfl)
  have Hn := Lib.hid hm
  clear hc hm
  go_enter Try.func104, Try.ntmps104
  have hq : ∀ W : World, Sem.run Try.prog (binOp BinOp.eql 27 (Value.slice (some { block := b, off := off }) m cap) (Value.slice none 0 0)) W = .ok (.bool false) W := fun W => by first | rfl | simp [binOp, go_sem]
  go_wp2_with (at_builtin; refine pushFirstD rfl rfl _ _ rfl rfl HR.out b off _ m rfl Hn.out HC.out h0 hl (by simp) ?_)
  intro g9 c9 w9 hr hp hg hg2
  have HB := Lib.hid ((bel1 w (.cells #[] 98)).grown hp (by simp) (fun j hj => by simp only [Value.ownBlock, Option.some.injEq] at hj; omega))
  have Hr := Lib.hid hr
  clear hr hp hg hg2
  go_wp2_with fail
  go_ret
  exact ⟨g9, c9, rfl, Hr.out, HB.out⟩
end Go.Proofs.Ytckmacnmmloemaa
