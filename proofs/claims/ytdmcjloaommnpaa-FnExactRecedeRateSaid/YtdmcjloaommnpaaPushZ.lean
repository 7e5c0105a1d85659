/- An append on a slice without capacity. -/
import Derived.Test.YtdmcjloaommnpaaGrow
namespace Go.Proofs.Ytdmcjloaommnpaa
open Go.RowKit
set_option linter.unusedVariables false
set_option linter.unusedSimpArgs false
set_option maxRecDepth 100000
attribute [local irreducible] wpV wpList Code.wp

/-- A row of the call's own, or a slice without elements and capacity. -/
def OwnZ (w : World) (lo : Nat) (v : Value) (zs : List Nat) : Prop := RowO w lo v zs ∨ (zs = [] ∧ ∃ b, v = .slice (some b) 0 0)
theorem OwnZ.below {w w' : World} {lo B : Nat} {v : Value} {zs : List Nat} (h : OwnZ w lo v zs) (hb : Below B w w') (hB : w.heap.size ≤ B) : OwnZ w' lo v zs := h.imp (fun h => h.below hb hB) id
theorem OwnZ.alloc {w : World} {lo : Nat} {v : Value} {zs : List Nat} (h : OwnZ w lo v zs) (o : Obj) : OwnZ (w.alloc o) lo v zs := h.imp (fun h => h.alloc o) id
theorem OwnZ.drewN {w : World} {lo : Nat} {v : Value} {zs : List Nat} (h : OwnZ w lo v zs) (n : Nat) : OwnZ (w.drewN n) lo v zs := h
theorem run_append_cap0 {P : Program} (w : World) (t ty e : TypeId) (i : TypeInfo) (z : Value) (ht : P.underlying t = some (.slice e)) (hi : P.info? e = some i) (hz : i.zero = some z) (b a : Addr) (n c : Nat) (news : List Value) (hl : news.length = n * i.size) (hnews : ∀ j v, news[j]? = some v → w.cell? (a.add j) = some v)
    (h0 : 0 < n) (h63 : (n : Int) ≤ 9223372036854775807) (h48 : n * i.bytes ≤ 281474976710656) :
    (Builtin.append_ #[t, t] ty #[.slice (some b) 0 0, .slice (some a) n c]).run P w = (Builtin.append_ #[t, t] ty #[.slice none 0 0, .slice (some a) n c]).run P w := by
  rw [run_append_nil w t ty e i z ht hi hz a n c news hl hnews h0 h63 h48, run_append_grow w t ty e i z ht hi hz b 0 0 [] (by simp) (by intro j v h; simp at h) a n c news hl hnews (by omega) (by simpa using h63) (by rw [Nat.zero_add, nextslicecap_zero h0]; exact h48)]
  simp
section
variable {P : Program} {w : World} {ops : Array Oper} {rest : List Oper} {o : Oper} {a : Act} {Q : Exit → Act → World → Prop}
theorem push_z (P9 : Try.prog = P) (hgd : o.guard = none) (s x : Operand) (ho : o.op = .call { callee := .builtin .append, args := #[s, x], argTypes := #[22, 22] })
    {lo : Nat} {v : Value} {zs : List Nat} (hs : a.eval s = v) (hown : OwnZ w lo v zs) (b c z : Nat) (hx : a.eval x = .slice (some ⟨b, 0, none⟩) 1 c) (hc : w.cell? ⟨b, 0, none⟩ = some (.float .f32 z)) (hl : zs.length ≤ 1048576) (hlo : lo ≤ w.heap.size)
    (h : ∀ g cap w', RowO w' lo (.slice (some ⟨g, 0, none⟩) (zs.length + 1) cap) (zs ++ [z]) → Below lo w w' → wpList P ops Q rest (a.put o.dst (.slice (some ⟨g, 0, none⟩) (zs.length + 1) cap)) w') : wpList P ops Q (o :: rest) a w := by
  rcases hown with hown | ⟨rfl, b0, rfl⟩
  · exact push_any P9 hgd s x ho hs hown b c z hx hc hl hlo fun g cap w' h1 h2 => h g cap w' h1 (Below.pushed (Below.refl lo w |> fun h => ⟨h.1, h.2, h.3, h.4, h.5⟩) h2 hown (Nat.le_refl _) hlo)
  · subst P9
    obtain ⟨i0, hi, hz0, hz1, hz2⟩ := info_parts info_f32
    refine wpList_plain hgd fun K hK => ?_
    have hn : ∀ j u, [Value.float .f32 z][j]? = some u → w.cell? ((⟨b, 0, none⟩ : Addr).add j) = some u := by
      intro j u hj
      rcases j with _ | j
      · simp only [List.getElem?_cons_zero, Option.some.injEq] at hj; subst hj; simpa [Addr.add] using hc
      · simp at hj
    obtain ⟨g, cap, w', hr, h2, h3, h4, h5⟩ := run_append_lies (P := Try.prog) w 22 o.type lo 26 i0 (.float .f32 0) 1 4 Try.underlying22 hi hz0 hz1 hz2 rfl (by decide) (.slice none 0 0) 0 [] (World.ownsRow_nil w lo _ 1) ⟨b, 0, none⟩ 1 c [.float .f32 z] rfl hn (by intro u hu; simp at hu; subst hu; rfl) (by decide) (by unfold maxLen; omega) (by omega) hlo _ rfl
    have hr9 := run_append_cap0 (P := Try.prog) w 22 o.type 26 i0 (.float .f32 0) Try.underlying22 hi hz0 b0 ⟨b, 0, none⟩ 1 c [.float .f32 z] (by rw [hz1]; rfl) hn (by decide) (by decide) (by rw [hz2]; decide)
    have hg := h g cap w' (by unfold RowO; simpa using h2) ((Below.refl lo w).grown h3 hlo fun k hk => by cases hk)
    unfold Oper.wp execOp
    simp only [ho, resolve, invoke, builtin, Sem.run_bind, Sem.run_pure, Result.andThen_ok, List.map_toArray, List.map_cons, List.map_nil, hs, hx, hr9, hr]
    exact hK _ _ (by simpa using hg)
end
end Go.Proofs.Ytdmcjloaommnpaa
