/- The model's own copy of a hill. -/
import Derived.Test.YtgnkpppbhibfoabGive
import Derived.Deep.RegionHeld3
import Derived.Deep.AppendLies
import Derived.WalkSpells
namespace Go.Proofs.Ytgnkpppbhibfoab
open Go.RowKit
set_option maxRecDepth 100000

theorem news_floats (w : World) (b off : Nat) (zs : List Nat) (hc : ∀ i, i < zs.length → w.cell? ⟨b, off + i, none⟩ = some (.float .f32 (zs.getD i 0))) (j : Nat) (u : Value) (hu : (zs.map (Value.float .f32))[j]? = some u) : w.cell? ((⟨b, off, none⟩ : Addr).add j) = some u := by
  rw [Go.WideShapes.add_plain]
  rw [List.getElem?_map] at hu
  have hj : j < zs.length := by
    rcases Nat.lt_or_ge j zs.length with h | h
    · exact h
    · rw [List.getElem?_eq_none h] at hu; cases hu
  rw [hc j hj, ← hu, List.getD_eq_getElem?_getD, List.getElem?_eq_getElem hj]
  rfl
theorem one_floats (zs : List Nat) : ∀ u ∈ zs.map (Value.float .f32), u.oneCell' = true := by
  intro u hu
  obtain ⟨z, _, rfl⟩ := List.mem_map.1 hu
  rfl

set_option maxHeartbeats 3200000 in
theorem l02Own_row (b : Nat) (wide high : Int) (bb off cap : Nat) (zs : List Nat) (w : World) (h0 : w.cell? ⟨b, 0, none⟩ = some (.int .i64 wide)) (h1 : w.cell? ⟨b, 1, none⟩ = some (.int .i64 high)) (h2 : w.cell? ⟨b, 2, none⟩ = some (.slice (some ⟨bb, off, none⟩) zs.length cap))
    (hpos : 0 < zs.length) (hl : zs.length ≤ 1048576) (hb : bb < w.heap.size) (hc : ∀ i, i < zs.length → w.cell? ⟨bb, off + i, none⟩ = some (.float .f32 (zs.getD i 0))) :
    Calls Try.prog 70 #[.pointer (some ⟨b, 0, none⟩)] w (CopyH w wide high zs) := by
  obtain ⟨i0, hi, hz0, hz1, hz2⟩ := info_parts info_f32
  have lb : b < w.heap.size := World.block_lt_of_cell? w _ h0
  have hnews : ∀ o o', Hid (∀ j u, (zs.map (Value.float .f32))[j]? = some u → ((w.alloc o).alloc o').drew.cell? ((⟨bb, off, none⟩ : Addr).add j) = some u) := fun o o' => news_floats _ bb off zs fun i hi => by
    show ((w.alloc o).alloc o').cell? _ = _
    rw [World.cell?_alloc_past _ _ _ (by simp; omega), World.cell?_alloc_past _ _ _ hb]; exact hc i hi
  have hlit : ∀ o, Hid (((w.alloc o).alloc (.cells #[] 22)).drew.ownsRow (w.heap.size + 1) 22 1 (.slice (some ⟨w.heap.size + 1, 0, none⟩) 0 0) 0 []) := fun o => by
    have := World.ownsRow_lit (base := w.heap.size + 1) (e := 22) (size := 1) (w.alloc o) #[] 0 (by simp) (by simp [maxLen]) rfl
    simp only [World.size_alloc] at this
    exact this
  have Hlit := Lib.hid hlit
  have hthree : ∀ o o', ((w.alloc o).alloc o').drew.cell? ⟨b, 0, none⟩ = some (.int .i64 wide) ∧ ((w.alloc o).alloc o').drew.cell? ⟨b, 1, none⟩ = some (.int .i64 high) ∧ ((w.alloc o).alloc o').drew.cell? ⟨b, 2, none⟩ = some (.slice (some ⟨bb, off, none⟩) zs.length cap) := fun o o' => by
    refine ⟨?_, ?_, ?_⟩ <;> (show ((w.alloc o).alloc o').cell? _ = _) <;> rw [World.cell?_alloc_past _ _ _ (by simp; omega), World.cell?_alloc_past _ _ _ lb] <;> assumption
  have H3 := Lib.hid hthree
  have Hn := Lib.hid hnews
  have Hone := Lib.hid (one_floats zs)
  clear hc hnews hlit hthree
  have hne : b ≠ w.heap.size := by omega
  go_enter Try.func70, Try.ntmps70
  go_wp2_with fail
  go_region_held3 (fun w' => w'.cell? ⟨b, 0, none⟩ = some (.int .i64 wide) ∧ w'.cell? ⟨b, 1, none⟩ = some (.int .i64 high) ∧ w'.cell? ⟨b, 2, none⟩ = some (.slice (some ⟨bb, off, none⟩) zs.length cap))
    (first | exact ⟨k0, k1, k2⟩ | exact ⟨(cell_far3 hne _ _ _ _).trans k0, (cell_far3 hne _ _ _ _).trans k1, (cell_far3 hne _ _ _ _).trans k2⟩ | go_keep)
    ((refine step_append_lies _ (by rfl) _ _ _ (by rfl) (w.heap.size + 1) 22 i0 (.float .f32 0) 1 4 Try.underlying23 hi hz0 hz1 hz2 rfl (by omega) (.slice (some ⟨w.heap.size + 1, 0, none⟩) 0 0) 0 [] (by rfl) (Hlit.out _).out ⟨bb, off, none⟩ zs.length cap (zs.map (Value.float .f32)) (by rfl) (by simp) (Hn.out _ _).out Hone.out hpos (by unfold maxLen; omega) (by omega) (by simp) (w.heap.size + 2) (by simp) ?_; intro gg cap1 w1 hown1 hgrow hat hlt; have k0 := hgrow.cell (H3.out _ _).1 (by simp [Value.ownBlock]; omega); have k1 := hgrow.cell (H3.out _ _).2.1 (by simp [Value.ownBlock]; omega); have k2 := hgrow.cell (H3.out _ _).2.2 (by simp [Value.ownBlock]; omega); obtain ⟨⟨r0, r1, r2, _⟩, rf⟩ := (((BoxW.new w 0 0 (.slice none 0 0) 25).alloc (.cells #[] 22)).drew).grown hgrow (by simp [Value.ownBlock])))
  have hb1 : Below w.heap.size w w1 := ((below2 _ _ _).drew).grown hgrow (by simp; omega) (fun k hk => by simp [Value.ownBlock] at hk; omega)
  have Hb1 := Lib.hid hb1
  have Hown := Lib.hid hown1
  clear hb1 hown1 hgrow hat k0 k1 k2 rf h0 h1 h2
  go_wp2_with fail
  refine bodyPost_ret (v := .agg #[.int .i64 wide, .int .i64 high, .slice (some ⟨gg, 0, none⟩) zs.length cap1]) (by simp [results, Try.results70, go_sem, r0, r1, r2]) rfl ⟨some ⟨gg, 0, none⟩, cap1, rfl, belowSetBox Hb1.out (Nat.le_refl _) _ _ _, ?_⟩
  have h2 := Hown.out
  rw [Nat.zero_add, List.nil_append] at h2
  exact ((FRow.mk h2).setBox (.inl (Nat.lt_succ_self _)) _ _ _).mono (by omega) (Nat.le_refl _) (Nat.le_refl _)
end Go.Proofs.Ytgnkpppbhibfoab
