/- The program's lines of a hill. -/
import Derived.Test.YtdpnkpgfepckdaaHillR
import Derived.Test.YtdpnkpgfepckdaaRainA
import Derived.Test.YtdpnkpgfepckdaaGrow
import Derived.Deep.QuietTactic
import Derived.Deep.Cut
namespace Go.Proofs.Ytdpnkpgfepckdaa
open Go.RowKit
set_option linter.unusedVariables false
set_option linter.unusedSimpArgs false
set_option maxRecDepth 100000
attribute [local irreducible] wpV wpList Code.wp

def rowL (wn : Nat) (zs : List Nat) (y : Nat) : List Nat := (zs.drop (y * wn)).take wn
def colL (wn hn : Nat) (zs : List Nat) (x : Nat) : List Nat := (List.range hn).map fun j => zs.getD (j * wn + x) 0
theorem rowL_length {wn hn y : Nat} {zs : List Nat} (hl : zs.length = wn * hn) (hy : y < hn) : (rowL wn zs y).length = wn := by
  unfold rowL
  rw [List.length_take, List.length_drop, hl]
  have : (y + 1) * wn ≤ hn * wn := Nat.mul_le_mul_right _ hy
  rw [Nat.add_mul, Nat.one_mul] at this
  rw [Nat.mul_comm wn hn]
  omega
theorem rowL_get {wn y j : Nat} {zs : List Nat} (hj : j < wn) : (rowL wn zs y).getD j 0 = zs.getD (y * wn + j) 0 := by
  unfold rowL
  rw [List.getD_eq_getElem?_getD, List.getElem?_take, if_pos hj, List.getElem?_drop, List.getD_eq_getElem?_getD]
theorem colL_length (wn hn : Nat) (zs : List Nat) (x : Nat) : (colL wn hn zs x).length = hn := by simp [colL]
theorem colL_get {wn hn x j : Nat} {zs : List Nat} (hj : j < hn) : (colL wn hn zs x).getD j 0 = zs.getD (j * wn + x) 0 := by
  unfold colL
  rw [List.getD_eq_getElem?_getD, List.getElem?_map, List.getElem?_range hj]; rfl
theorem cell_in {wn hn y j : Nat} (hy : y < hn) (hj : j < wn) : y * wn + j < wn * hn := by
  have : (y + 1) * wn ≤ hn * wn := Nat.mul_le_mul_right _ hy
  rw [Nat.add_mul, Nat.one_mul] at this
  rw [Nat.mul_comm wn hn]
  omega

set_option maxHeartbeats 1000000 in
theorem rowOf_any (wn hn y b off cap : Nat) (w : World) (hw0 : 0 < wn) (hw : wn ≤ 16) (hh : hn ≤ 16) (hy : y < hn) (hc : wn * hn ≤ cap) :
    Calls Try.prog 57 #[.agg #[.int .i64 (wn : Int), .int .i64 (hn : Int), .slice (some ⟨b, off, none⟩) (wn * hn) cap], .int .i64 (y : Int)] w fun e w' => e = .returned (.slice (some ⟨b, off + y * wn, none⟩) wn wn) ∧ Below w.heap.size w w' := by
  have hy1 : (y + 1) * wn ≤ hn * wn := Nat.mul_le_mul_right _ hy
  have hy2 : hn * wn ≤ 256 := Nat.le_trans (Nat.mul_le_mul hh hw) (by decide)
  have hy3 : (y + 1) * wn = y * wn + wn := by rw [Nat.add_mul, Nat.one_mul]
  obtain ⟨p, hp⟩ : ∃ p, y * wn = p := ⟨_, rfl⟩
  have hpi : (y : Int) * (wn : Int) = (p : Int) := by rw [← hp]; exact (Int.natCast_mul _ _).symm
  have hpi2 : ((y : Int) + 1) * (wn : Int) = ((p + wn : Nat) : Int) := by rw [Int.add_mul, hpi, Int.one_mul]; exact (Int.natCast_add _ _).symm
  rw [hp] at hy3 ⊢
  rw [hy3] at hy1
  have hi1 : IntKind.i64.wrap (p : Int) = (p : Int) := IntWalk.i64_in _ (by omega)
  have hi2 : IntKind.i64.wrap ((p + wn : Nat) : Int) = ((p + wn : Nat) : Int) := IntWalk.i64_in _ (by omega)
  have hi3 : IntKind.i64.wrap ((y : Int) + 1) = (y : Int) + 1 := IntWalk.i64_in _ (by omega)
  have hpq : wn * hn = hn * wn := Nat.mul_comm _ _
  obtain ⟨N, hN⟩ : ∃ N, wn * hn = N := ⟨_, rfl⟩
  rw [hN] at hc hpq ⊢
  have HP := Lib.hid hp
  clear hp hN
  have hwn0 : ¬ wn = 0 := by omega
  have hle1 : (0 : Int) ≤ (p : Int) := by omega
  have hle2 : (p : Int) ≤ ((p + wn : Nat) : Int) := by omega
  have hle3 : ((p + wn : Nat) : Int) ≤ (cap : Int) := by omega
  go_enter Try.func57, Try.ntmps57
  go_wp2_with fail
  go_quiet (fail)
  go_wp2_with fail
  go_ret
  exact ⟨by show Ending.returned (.slice _ (p + wn - p) (p + wn - p)) = _; rw [Nat.add_sub_cancel_left], below_drewN (below1 _ _) _⟩

def ColTo (wn hn : Nat) (zs : List Nat) (x j : Nat) (Ys : List Nat) : Prop := Ys.length = hn ∧ ∀ m, m < j → Ys.getD m 0 = zs.getD (m * wn + x) 0
theorem ColTo.next {wn hn x j z : Nat} {zs Ys : List Nat} (h : ColTo wn hn zs x j Ys) (hj : j < hn) (hz : zs.getD (j * wn + x) 0 = z) : ColTo wn hn zs x (j + 1) (Ys.set j z) := by
  obtain ⟨h1, h2⟩ := h
  refine ⟨by rw [List.length_set]; exact h1, fun m hm => ?_⟩
  by_cases e : m = j
  · subst e
    rw [List.getD_eq_getElem?_getD, List.getElem?_set_self (by omega)]
    exact hz.symm
  · rw [List.getD_eq_getElem?_getD, List.getElem?_set_ne (fun h => e h.symm), ← List.getD_eq_getElem?_getD]
    exact h2 m (by omega)
theorem ColTo.all {wn hn x : Nat} {zs Ys : List Nat} (h : ColTo wn hn zs x hn Ys) : Ys = colL wn hn zs x := by
  refine List.ext_getElem (by rw [h.1, colL_length]) fun m hm hm2 => ?_
  have h2 := h.2 m (by rw [← h.1]; exact hm)
  rw [List.getD_eq_getElem?_getD, List.getElem?_eq_getElem hm] at h2
  have h3 := colL_get (wn := wn) (hn := hn) (x := x) (zs := zs) (j := m) (by rw [← h.1]; exact hm)
  rw [List.getD_eq_getElem?_getD, List.getElem?_eq_getElem hm2] at h3
  exact h2.trans h3.symm

set_option maxHeartbeats 2000000 in
theorem columnOf_any (wn hn x b off cap : Nat) (zs : List Nat) (w : World) (hw0 : 0 < wn) (hw : wn ≤ 16) (hh : hn ≤ 16) (hx : x < wn) (hc : wn * hn ≤ cap) (hzl : zs.length = wn * hn) (hbb : b < w.heap.size) (hcell : ∀ i, i < zs.length → w.cell? ⟨b, off + i, none⟩ = some (.float .f32 (zs.getD i 0))) :
    Calls Try.prog 58 #[.agg #[.int .i64 (wn : Int), .int .i64 (hn : Int), .slice (some ⟨b, off, none⟩) (wn * hn) cap], .int .i64 (x : Int)] w fun e w' => e = .returned (.slice (some ⟨w.heap.size + 1, 0, none⟩) hn hn) ∧ RowO w' (w.heap.size + 1) (.slice (some ⟨w.heap.size + 1, 0, none⟩) hn hn) (colL wn hn zs x) ∧ Below w.heap.size w w' := by
  have HC := Lib.hid hcell
  have HZl := Lib.hid hzl
  clear hcell
  obtain ⟨W1, hW1⟩ : ∃ W, (w.alloc (.cells #[.int .i64 (wn : Int), .int .i64 (hn : Int), .slice (some ⟨b, off, none⟩) (wn * hn) cap] 44)) = W := ⟨_, rfl⟩
  have hbx : BoxH W1 w.heap.size (wn : Int) (hn : Int) (.slice (some ⟨b, off, none⟩) (wn * hn) cap) := by rw [← hW1]; exact BoxH.new w _ _ _ 44
  have hb1 : Below w.heap.size w W1 := by rw [← hW1]; exact below1 _ _
  have hs1 : W1.heap.size = w.heap.size + 1 := by rw [← hW1]; simp
  have HBX1 := Lib.hid hbx
  have HB1 := Lib.hid hb1
  have HW1 := Lib.hid hW1
  have HS1 := Lib.hid hs1
  obtain ⟨s0, s1, s2, _⟩ := hbx
  clear hb1 hW1 hs1
  go_enter Try.func58, Try.ntmps58
  go_upto_region 1 with fail
  rw [HW1.out]
  clear HW1
  go_wp2_with (at_make; refine make_any rfl rfl _ _ rfl .i64 .i64 _ _ hn rfl rfl rfl rfl (by omega) (lo := w.heap.size + 1) (by have := HS1.out; omega) ?_)
  intro w2 hown hgrow
  rw [HS1.out] at hown ⊢
  have HRow2 := Lib.hid hown
  have HBX2 := Lib.hid (HBX1.out.grown hgrow (by simp))
  have HB2 := Lib.hid (HB1.out.grown hgrow (by have := HS1.out; omega) (fun k hk => by cases hk))
  clear hown hgrow s0 s1 s2 HBX1 HB1
  go_wp2_with fail
  go_loopw [12] (fun iv wr => ∃ (j : Nat) (Ys : List Nat), j ≤ hn ∧ iv = .int .i64 j ∧ Hid (ColTo wn hn zs x j Ys) ∧ Hid (RowO wr (w.heap.size + 1) (.slice (some ⟨w.heap.size + 1, 0, none⟩) hn hn) Ys) ∧ Hid (BoxH wr w.heap.size (wn : Int) (hn : Int) (.slice (some ⟨b, off, none⟩) (wn * hn) cap)) ∧ Hid (Below w.heap.size w wr)) (fun iv _ => hn - (intOf iv).toNat)
  case atStart => exact ⟨0, _, Nat.zero_le _, rfl, Lib.hid ⟨by simp, fun m hm => by omega⟩, HRow2, HBX2, HB2⟩
  case round =>
    clear HRow2 HBX2 HB2
    obtain ⟨j, Ys, hj, rfl, HCo, HRow, HBX, HB⟩ := hrel
    obtain ⟨s0, s1, s2, s3⟩ := HBX.out
    by_cases hlt : j < hn
    · have hj0 : (0 : Int) ≤ (j : Int) := by omega
      have hj1 : (j : Int) < (hn : Int) := by omega
      have hx0 : (0 : Int) ≤ (x : Int) := by omega
      have hx1 : (x : Int) < (wn : Int) := by omega
      have hyl : Ys.length = hn := HCo.out.1
      go_wp2_with fail
      refine (rowOf_any wn hn j b off cap wr hw0 hw hh hlt hc).mono ?_
      rintro e w3 ⟨rfl, hb⟩
      have HB3 := Lib.hid (HB.out.trans (hb.mono HB.out.size))
      have HBX3 := Lib.hid (HBX.out.below hb s3)
      have HRow3 := Lib.hid (HRow.out.below hb (Nat.le_refl _))
      clear hb s0 s1 s2 s3
      obtain ⟨hcy, hfy⟩ := HRow3.out.at hyl.symm j (by omega)
      have hcl : w3.cell? ⟨b, off + j * wn + x, none⟩ = some (.float .f32 (zs.getD (j * wn + x) 0)) := by rw [Nat.add_assoc, HB3.out.cell (p := ⟨b, off + (j * wn + x), none⟩) hbb]; exact HC.out _ (by rw [HZl.out]; exact cell_in hlt hx)
      obtain ⟨p, hp⟩ : ∃ p, j * wn = p := ⟨_, rfl⟩
      rw [hp] at hcl ⊢
      have HP := Lib.hid hp
      have Hyl := Lib.hid hyl
      clear hp hyl
      generalize Ys.getD j 0 = old at hcy
      obtain ⟨zc, hzc⟩ : ∃ z, zs.getD (p + x) 0 = z := ⟨_, rfl⟩
      rw [hzc] at hcl
      have HZc := Lib.hid hzc
      clear hzc
      go_wp2
      go_roundw
      case rel => exact ⟨j + 1, Ys.set j zc, by omega, by go_num, Lib.hid (HCo.out.next hlt (by rw [HP.out]; exact HZc.out)), Lib.hid (HRow3.out.store Hyl.out.symm j zc), Lib.hid (HBX3.out.kept (lo := w.heap.size + 1) (hi := w.heap.size + 2) ⟨rfl, rfl, rfl, by rw [setCell_size]; exact Nat.le_refl _, fun k hk _ => Below.heap_setCell _ _ _ _ (by show k ≠ w.heap.size + 1; omega)⟩ (.inl (by omega))), Lib.hid (HB3.out.setCell (by show w.heap.size ≤ w.heap.size + 1; omega) _)⟩
      case measure => simp [intOf]; omega
    · have hjn : j = hn := by omega
      subst hjn
      have hji : ¬ (j : Int) < (j : Int) := by omega
      go_wp2_with fail
      go_ret
      exact ⟨rfl, by rw [← HCo.out.all]; exact HRow.out, HB.out⟩

end Go.Proofs.Ytdpnkpgfepckdaa
