/- Lists of dams: the laws' copies, looks and marks. -/
import Derived.Test.YtckmacnmmloemaaRowZ
import Derived.Deep.RegionHeld3
namespace Go.Proofs.Ytckmacnmmloemaa
open Go.RowKit
set_option linter.unusedVariables false
set_option linter.unusedSimpArgs false
set_option maxRecDepth 100000
attribute [local irreducible] wpV wpList Code.wp

theorem info_dam : (Try.prog.info? 98).map (fun i => (i.zero, i.size, i.bytes)) = some (some (.agg #[.int .i64 0, .int .i64 0, .int .i64 0, .int .i64 0]), 4, 32) := by kernel_rfl
set_option maxHeartbeats 2000000 in
theorem toDam_any (z0 z1 z2 z3 : Int) (w : World) : Calls Try.prog 99 #[.agg #[.int .i64 z0, .int .i64 z1, .int .i64 z2, .int .i64 z3]] w fun e w' => e = .returned (.agg #[.int .i64 z0, .int .i64 z1, .int .i64 z2, .int .i64 z3]) ∧ Below w.heap.size w w' := by
  go_enter Try.func99, Try.ntmps99
  go_wp2_with fail
  refine bodyPost_ret (v := .agg #[.int .i64 z0, .int .i64 z1, .int .i64 z2, .int .i64 z3]) (by first | (simp [results, Try.results99, go_sem]; done) | (simp (maxDischargeDepth := 12) [results, Try.results99, go_sem]; done) | (simp (maxDischargeDepth := 12) [results, Try.results99, go_sem]; rfl)) rfl ⟨rfl, ?_⟩
  exact (by repeat (first | with_reducible exact Below.refl _ _ | with_reducible refine beld ?_ _ | (with_reducible refine Below.alloc ?_ ?_ _; rotate_left; exact (by first | (simp; done) | (simp; omega) | omega)) | (with_reducible refine Below.setCell ?_ ?_ _; rotate_left; exact (by first | (simp; done) | (simp; omega) | omega))))

set_option maxHeartbeats 2000000 in
theorem eqDam_any (z0 z1 z2 z3 : Int) (w : World) : Calls Try.prog 106 #[.agg #[.int .i64 z0, .int .i64 z1, .int .i64 z2, .int .i64 z3], .agg #[.int .i64 z0, .int .i64 z1, .int .i64 z2, .int .i64 z3]] w fun e w' => e = .returned (.bool true) ∧ Below w.heap.size w w' := by
  go_enter Try.func106, Try.ntmps106
  go_wp2_with fail
  go_ret
  exact ⟨rfl, (by repeat (first | with_reducible exact Below.refl _ _ | with_reducible refine beld ?_ _ | (with_reducible refine Below.alloc ?_ ?_ _; rotate_left; exact (by first | (simp; done) | (simp; omega) | omega)) | (with_reducible refine Below.setCell ?_ ?_ _; rotate_left; exact (by first | (simp; done) | (simp; omega) | omega))))⟩

theorem toList_madeCells_dam (n : Nat) : (madeCells #[Value.int .i64 0, .int .i64 0, .int .i64 0, .int .i64 0] (n * 4)).toList = List.replicate (n * 4) (.int .i64 0) := by
  have hsz : (madeCells #[Value.int .i64 0, .int .i64 0, .int .i64 0, .int .i64 0] (n * 4)).size = n * 4 := size_madeCells _ _
  apply List.ext_getElem?
  intro j
  by_cases hj : j < n * 4
  · rw [List.getElem?_replicate, if_pos hj, Array.getElem?_toList]
    simp [madeCells, hj]
    have h5 : j % 4 < 4 := Nat.mod_lt _ (by decide)
    rcases h : j % 4 with _ | _ | _ | _ | m
    · simp
    · simp
    · simp
    · simp
    · omega
  · rw [List.getElem?_eq_none (by rw [Array.length_toList, hsz]; omega), List.getElem?_eq_none (by simp; omega)]

theorem stored4 {w : World} {lo g n cap k : Nat} {e : TypeId} {xs : List Value} (h : w.ownsRow lo e 4 (.slice (some ⟨g, 0, none⟩) n cap) n xs) (u0 u1 u2 u3 : Value) :
    ((((w.setCell ⟨g, k * 4, none⟩ u0).setCell ⟨g, k * 4 + 1, none⟩ u1).setCell ⟨g, k * 4 + 2, none⟩ u2).setCell ⟨g, k * 4 + 3, none⟩ u3).ownsRow lo e 4 (.slice (some ⟨g, 0, none⟩) n cap) n ((((xs.set (k * 4) u0).set (k * 4 + 1) u1).set (k * 4 + 2) u2).set (k * 4 + 3) u3) :=
  ((((h.stored (k * 4) u0).1.stored (k * 4 + 1) u1).1.stored (k * 4 + 2) u2).1.stored (k * 4 + 3) u3).1
theorem copiedZ_set4 (zs : List Int) (k : Nat) (h : k * 4 + 3 < zs.length) :
    ((((copiedZ zs (k * 4)).set (k * 4) (.int .i64 (zs.getD (k * 4) 0))).set (k * 4 + 1) (.int .i64 (zs.getD (k * 4 + 1) 0))).set (k * 4 + 2) (.int .i64 (zs.getD (k * 4 + 2) 0))).set (k * 4 + 3) (.int .i64 (zs.getD (k * 4 + 3) 0)) = copiedZ zs ((k + 1) * 4) := by
  rw [copiedZ_set _ _ (by omega), copiedZ_set _ _ (by omega), copiedZ_set _ _ (by omega), copiedZ_set _ _ (by omega), show k * 4 + 3 + 1 = (k + 1) * 4 by omega]
theorem copiedZ_length (zs : List Int) (n : Nat) (h : n ≤ zs.length) : (copiedZ zs n).length = zs.length := by simp [copiedZ, ic]; omega

set_option maxHeartbeats 4000000 in
theorem toDamS_row (b off cap n : Nat) (zs : List Int) (w : World) (hn : zs.length = n * 4) (hb : b < w.heap.size) (hc : ∀ i, i < zs.length → w.cell? ⟨b, off + i, none⟩ = some (.int .i64 (zs.getD i 0))) (hl : n ≤ 1048576) :
    Calls Try.prog 54 #[.slice (some ⟨b, off, none⟩) n cap] w (CopyC 98 4 w n (ic zs)) := by
  obtain ⟨i0, hi, hz0, hz1, hz2⟩ := info_parts info_dam
  have Hn := Lib.hid hn
  have Hc := Lib.hid hc
  clear hc hn
  go_enter Try.func54, Try.ntmps54
  go_wp2_with (at_make; refine wpList_make_full _ rfl _ _ 27 rfl w.heap.size 98 i0 (.agg #[.int .i64 0, .int .i64 0, .int .i64 0, .int .i64 0]) 4 Try.underlying27 hi hz0 hz1 _ _ _ _ n rfl rfl rfl rfl (by rw [hz2]; omega) (by unfold maxLen; omega) (Nat.le_refl _) ?_)
  intro w1 hown hgrow
  have hown' : w1.ownsRow w.heap.size 98 4 (.slice (some ⟨w.heap.size, 0, none⟩) n n) n (copiedZ zs (0 * 4)) := by
    rw [Nat.zero_mul, copiedZ_zero, Hn.out, ← toList_madeCells_dam]
    exact hown
  have hb1 : Below w.heap.size w w1 := (Below.refl _ _).grown hgrow (Nat.le_refl _) (fun k h => by cases h)
  clear hown hgrow
  go_wp2_with fail
  go_loopw [4] (fun i wr => ∃ k : Nat, k ≤ n ∧ i = .int .i64 k ∧ wr.ownsRow w.heap.size 98 4 (.slice (some ⟨w.heap.size, 0, none⟩) n n) n (copiedZ zs (k * 4)) ∧ Below w.heap.size w wr) (fun i _ => n - (intOf i).toNat)
  case atStart => exact ⟨0, Nat.zero_le _, rfl, hown', hb1⟩
  case round =>
    obtain ⟨k, hk, rfl, hown, hbw⟩ := hrel
    clear hown' hb1
    have hk0 : (0 : Int) ≤ (k : Int) := by omega
    have Hown := Lib.hid hown
    have Hbw := Lib.hid hbw
    clear hown hbw
    by_cases hlt : k < n
    · have hk1 : (k : Int) < (n : Int) := by omega
      have hkl : k * 4 + 3 < zs.length := by have := Hn.out; omega
      have Hst := Lib.hid (copiedZ_set4 zs k hkl)
      have Hkl := Lib.hid hkl
      have hs0 : wr.cell? ⟨b, off + k * 4, none⟩ = some (.int .i64 (zs.getD (k * 4) 0)) := by rw [Hbw.out.cell (p := ⟨b, off + k * 4, none⟩) hb]; exact Hc.out _ (by omega)
      have hs1 : wr.cell? ⟨b, off + k * 4 + 1, none⟩ = some (.int .i64 (zs.getD (k * 4 + 1) 0)) := by rw [Hbw.out.cell (p := ⟨b, off + k * 4 + 1, none⟩) hb, Nat.add_assoc]; exact Hc.out _ (by omega)
      have hs2 : wr.cell? ⟨b, off + k * 4 + 2, none⟩ = some (.int .i64 (zs.getD (k * 4 + 2) 0)) := by rw [Hbw.out.cell (p := ⟨b, off + k * 4 + 2, none⟩) hb, Nat.add_assoc]; exact Hc.out _ (by omega)
      have hs3 : wr.cell? ⟨b, off + k * 4 + 3, none⟩ = some (.int .i64 (zs.getD (k * 4 + 3) 0)) := by rw [Hbw.out.cell (p := ⟨b, off + k * 4 + 3, none⟩) hb, Nat.add_assoc]; exact Hc.out _ (by omega)
      clear hkl
      generalize zs.getD (k * 4 + 3) 0 = z3 at *
      generalize zs.getD (k * 4 + 2) 0 = z2 at *
      generalize zs.getD (k * 4 + 1) 0 = z1 at *
      generalize zs.getD (k * 4) 0 = z0 at *
      go_wp2_with fail
      refine (toDam_any z0 z1 z2 z3 wr).mono ?_
      rintro e w2 ⟨rfl, hb2⟩
      have hgl : w.heap.size < wr.heap.size := (Hown.out.lt _ rfl).2
      have hcl := copiedZ_length zs (k * 4) (by have := Hkl.out; omega)
      have hkl := Hkl.out
      have Hw2 := Lib.hid (owns_below Hown.out hb2 (Nat.le_refl _))
      have Hb2 := Lib.hid (Hbw.out.trans (hb2.mono (by omega)))
      obtain ⟨v0, hv0⟩ : ∃ u, (copiedZ zs (k * 4))[(k * 4)]? = some u := ⟨_, List.getElem?_eq_getElem (by omega)⟩
      obtain ⟨v1, hv1⟩ : ∃ u, (copiedZ zs (k * 4))[(k * 4 + 1)]? = some u := ⟨_, List.getElem?_eq_getElem (by omega)⟩
      obtain ⟨v2, hv2⟩ : ∃ u, (copiedZ zs (k * 4))[(k * 4 + 2)]? = some u := ⟨_, List.getElem?_eq_getElem (by omega)⟩
      obtain ⟨v3, hv3⟩ : ∃ u, (copiedZ zs (k * 4))[(k * 4 + 3)]? = some u := ⟨_, List.getElem?_eq_getElem (by omega)⟩
      have hd0 : w2.cell? ⟨w.heap.size, k * 4, none⟩ = some v0 := by rw [Hw2.out.cellAt (k * 4) (by omega)]; exact hv0
      have hd1 : w2.cell? ⟨w.heap.size, k * 4 + 1, none⟩ = some v1 := by rw [Hw2.out.cellAt (k * 4 + 1) (by omega)]; exact hv1
      have hd2 : w2.cell? ⟨w.heap.size, k * 4 + 2, none⟩ = some v2 := by rw [Hw2.out.cellAt (k * 4 + 2) (by omega)]; exact hv2
      have hd3 : w2.cell? ⟨w.heap.size, k * 4 + 3, none⟩ = some v3 := by rw [Hw2.out.cellAt (k * 4 + 3) (by omega)]; exact hv3
      have hf0 := Hw2.out.frozenAt (k * 4)
      have hf1 := Hw2.out.frozenAt (k * 4 + 1)
      have hf2 := Hw2.out.frozenAt (k * 4 + 2)
      have hf3 := Hw2.out.frozenAt (k * 4 + 3)
      clear hs0 hs1 hs2 hs3 hv0 hv1 hv2 hv3 hcl hgl hkl hb2
      go_wp2_with fail
      go_roundw
      case rel => exact ⟨k + 1, by omega, by go_num, by rw [← Hst.out]; exact stored4 Hw2.out _ _ _ _, (((Hb2.out.setCell (Nat.le_refl _) _).setCell (Nat.le_refl _) _).setCell (Nat.le_refl _) _).setCell (Nat.le_refl _) _⟩
      case measure => simp [intOf]; omega
    · obtain rfl : k = n := by omega
      go_wp2_with fail
      go_ret
      refine ⟨some ⟨w.heap.size, 0, none⟩, k, rfl, Hbw.out, HRow.mk' ?_⟩
      have := Hown.out
      rw [← Hn.out, copiedZ_all] at this
      exact this
set_option maxHeartbeats 2000000 in
theorem toDamS_nil (a : Option Addr) (cap : Nat) (w : World) :
    Calls Try.prog 54 #[.slice a 0 cap] w (CopyC 98 4 w 0 []) := by
  obtain ⟨i0, hi, hz0, hz1, hz2⟩ := info_parts info_dam
  go_enter Try.func54, Try.ntmps54
  go_wp2_with (at_make; refine wpList_make_full _ rfl _ _ 27 rfl w.heap.size 98 i0 (.agg #[.int .i64 0, .int .i64 0, .int .i64 0, .int .i64 0]) 4 Try.underlying27 hi hz0 hz1 _ _ _ _ 0 rfl rfl rfl rfl (by rw [hz2]; omega) (by unfold maxLen; omega) (Nat.le_refl _) ?_)
  intro w1 hown hgrow
  have hown' : w1.ownsRow w.heap.size 98 4 (.slice (some ⟨w.heap.size, 0, none⟩) 0 0) 0 [] := by have h9 := toList_madeCells_dam 0; rw [Nat.zero_mul] at h9; rw [h9] at hown; exact hown
  have hb1 : Below w.heap.size w w1 := (Below.refl _ _).grown hgrow (Nat.le_refl _) (fun k h => by cases h)
  clear hown hgrow
  have Hown := Lib.hid hown'
  clear hown'
  go_wp2_with fail
  go_loopw [4] (fun i wr => i = .int .i64 0 ∧ Below w.heap.size w wr ∧ wr.ownsRow w.heap.size 98 4 (.slice (some ⟨w.heap.size, 0, none⟩) 0 0) 0 []) (fun i _ => 0)
  case atStart => exact ⟨rfl, hb1, Hown.out⟩
  case round =>
    obtain ⟨rfl, hbw, how⟩ := hrel
    have Hbw := Lib.hid hbw
    have How := Lib.hid how
    clear hb1 hbw how
    go_wp2_with fail
    go_ret
    exact ⟨some ⟨w.heap.size, 0, none⟩, 0, rfl, Hbw.out, HRow.mk' How.out⟩
theorem toDamS_any (a : Option Addr) (cap n : Nat) (zs : List Int) (w : World) (hr : RowC w a (ic zs)) (hn : zs.length = n * 4) (hl : n ≤ 1048576) :
    Calls Try.prog 54 #[.slice a n cap] w (CopyC 98 4 w n (ic zs)) := by
  rcases hr.ints with rfl | ⟨b, off, rfl, hb, hc⟩
  · obtain rfl : n = 0 := by simp at hn; omega
    exact toDamS_nil a cap w
  · exact toDamS_row b off cap n zs w hn hb hc hl

set_option maxHeartbeats 4000000 in
theorem eqDamS_row (b off cap b' off' cap' n : Nat) (zs : List Int) (w : World) (hn : zs.length = n * 4) (hb : b < w.heap.size) (hb' : b' < w.heap.size) (hc : ∀ i, i < zs.length → w.cell? ⟨b, off + i, none⟩ = some (.int .i64 (zs.getD i 0)))
    (hc' : ∀ i, i < zs.length → w.cell? ⟨b', off' + i, none⟩ = some (.int .i64 (zs.getD i 0))) (hl : n ≤ 1048576) :
    Calls Try.prog 60 #[.slice (some ⟨b, off, none⟩) n cap, .slice (some ⟨b', off', none⟩) n cap'] w fun e w' => e = .returned (.bool true) ∧ Below w.heap.size w w' := by
  have Hn := Lib.hid hn
  have Hc := Lib.hid hc
  have Hc' := Lib.hid hc'
  clear hc hc' hn
  go_enter Try.func60, Try.ntmps60
  go_wp2_with fail
  go_loopw [5] (fun i wr => ∃ k : Nat, k ≤ n ∧ i = .int .i64 k ∧ Hid (Below w.heap.size w wr)) (fun i _ => n - (intOf i).toNat)
  case atStart => exact ⟨0, Nat.zero_le _, rfl, Lib.hid (Below.refl _ _)⟩
  case round =>
    obtain ⟨k, hk, rfl, Hbw⟩ := hrel
    have hk0 : (0 : Int) ≤ (k : Int) := by omega
    by_cases hlt : k < n
    · have hk1 : (k : Int) < (n : Int) := by omega
      have hkl : k * 4 + 3 < zs.length := by have := Hn.out; omega
      have hs0 : wr.cell? ⟨b, off + k * 4, none⟩ = some (.int .i64 (zs.getD (k * 4) 0)) := by rw [Hbw.out.cell (p := ⟨b, off + k * 4, none⟩) hb]; exact Hc.out _ (by omega)
      have hs1 : wr.cell? ⟨b, off + k * 4 + 1, none⟩ = some (.int .i64 (zs.getD (k * 4 + 1) 0)) := by rw [Hbw.out.cell (p := ⟨b, off + k * 4 + 1, none⟩) hb, Nat.add_assoc]; exact Hc.out _ (by omega)
      have hs2 : wr.cell? ⟨b, off + k * 4 + 2, none⟩ = some (.int .i64 (zs.getD (k * 4 + 2) 0)) := by rw [Hbw.out.cell (p := ⟨b, off + k * 4 + 2, none⟩) hb, Nat.add_assoc]; exact Hc.out _ (by omega)
      have hs3 : wr.cell? ⟨b, off + k * 4 + 3, none⟩ = some (.int .i64 (zs.getD (k * 4 + 3) 0)) := by rw [Hbw.out.cell (p := ⟨b, off + k * 4 + 3, none⟩) hb, Nat.add_assoc]; exact Hc.out _ (by omega)
      have ht0 : wr.cell? ⟨b', off' + k * 4, none⟩ = some (.int .i64 (zs.getD (k * 4) 0)) := by rw [Hbw.out.cell (p := ⟨b', off' + k * 4, none⟩) hb']; exact Hc'.out _ (by omega)
      have ht1 : wr.cell? ⟨b', off' + k * 4 + 1, none⟩ = some (.int .i64 (zs.getD (k * 4 + 1) 0)) := by rw [Hbw.out.cell (p := ⟨b', off' + k * 4 + 1, none⟩) hb', Nat.add_assoc]; exact Hc'.out _ (by omega)
      have ht2 : wr.cell? ⟨b', off' + k * 4 + 2, none⟩ = some (.int .i64 (zs.getD (k * 4 + 2) 0)) := by rw [Hbw.out.cell (p := ⟨b', off' + k * 4 + 2, none⟩) hb', Nat.add_assoc]; exact Hc'.out _ (by omega)
      have ht3 : wr.cell? ⟨b', off' + k * 4 + 3, none⟩ = some (.int .i64 (zs.getD (k * 4 + 3) 0)) := by rw [Hbw.out.cell (p := ⟨b', off' + k * 4 + 3, none⟩) hb', Nat.add_assoc]; exact Hc'.out _ (by omega)
      clear hkl
      generalize zs.getD (k * 4 + 3) 0 = z3 at *
      generalize zs.getD (k * 4 + 2) 0 = z2 at *
      generalize zs.getD (k * 4 + 1) 0 = z1 at *
      generalize zs.getD (k * 4) 0 = z0 at *
      have HF : Hid (wr.cell? ⟨b, off + k * 4, none⟩ = some (.int .i64 z0) ∧ wr.cell? ⟨b, off + k * 4 + 1, none⟩ = some (.int .i64 z1) ∧ wr.cell? ⟨b, off + k * 4 + 2, none⟩ = some (.int .i64 z2) ∧ wr.cell? ⟨b, off + k * 4 + 3, none⟩ = some (.int .i64 z3) ∧ wr.cell? ⟨b', off' + k * 4, none⟩ = some (.int .i64 z0) ∧ wr.cell? ⟨b', off' + k * 4 + 1, none⟩ = some (.int .i64 z1) ∧ wr.cell? ⟨b', off' + k * 4 + 2, none⟩ = some (.int .i64 z2) ∧ wr.cell? ⟨b', off' + k * 4 + 3, none⟩ = some (.int .i64 z3)) := Lib.hid ⟨hs0, hs1, hs2, hs3, ht0, ht1, ht2, ht3⟩
      have hsz := Hbw.out.size
      go_wp2_with fail
      go_region_held3 (fun w' => w'.cell? ⟨b, off + k * 4, none⟩ = some (.int .i64 z0) ∧ w'.cell? ⟨b, off + k * 4 + 1, none⟩ = some (.int .i64 z1) ∧ w'.cell? ⟨b, off + k * 4 + 2, none⟩ = some (.int .i64 z2) ∧ w'.cell? ⟨b, off + k * 4 + 3, none⟩ = some (.int .i64 z3) ∧ w'.cell? ⟨b', off' + k * 4, none⟩ = some (.int .i64 z0) ∧ w'.cell? ⟨b', off' + k * 4 + 1, none⟩ = some (.int .i64 z1) ∧ w'.cell? ⟨b', off' + k * 4 + 2, none⟩ = some (.int .i64 z2) ∧ w'.cell? ⟨b', off' + k * 4 + 3, none⟩ = some (.int .i64 z3))
        (first | exact K5.out | exact HF.out)
        (first | (go_at_call 106; refine (eqDam_any z0 z1 z2 z3 _).mono ?_; rintro e w5 ⟨rfl, hb5⟩; have hst : Below wr.heap.size wr w5 := (Below.refl _ _).drew.trans (hb5.mono (Nat.le_refl _ : wr.heap.size ≤ wr.drew.heap.size)); have HB5 : Hid (Below w.heap.size w w5) := Lib.hid (Hbw.out.trans (hst.mono Hbw.out.size)); have K5 : Hid (w5.cell? ⟨b, off + k * 4, none⟩ = some (.int .i64 z0) ∧ w5.cell? ⟨b, off + k * 4 + 1, none⟩ = some (.int .i64 z1) ∧ w5.cell? ⟨b, off + k * 4 + 2, none⟩ = some (.int .i64 z2) ∧ w5.cell? ⟨b, off + k * 4 + 3, none⟩ = some (.int .i64 z3) ∧ w5.cell? ⟨b', off' + k * 4, none⟩ = some (.int .i64 z0) ∧ w5.cell? ⟨b', off' + k * 4 + 1, none⟩ = some (.int .i64 z1) ∧ w5.cell? ⟨b', off' + k * 4 + 2, none⟩ = some (.int .i64 z2) ∧ w5.cell? ⟨b', off' + k * 4 + 3, none⟩ = some (.int .i64 z3)) := Lib.hid ⟨((hst.cell (p := ⟨b, off + k * 4, none⟩) (Nat.lt_of_lt_of_le hb hsz)).trans hs0), ((hst.cell (p := ⟨b, off + k * 4 + 1, none⟩) (Nat.lt_of_lt_of_le hb hsz)).trans hs1), ((hst.cell (p := ⟨b, off + k * 4 + 2, none⟩) (Nat.lt_of_lt_of_le hb hsz)).trans hs2), ((hst.cell (p := ⟨b, off + k * 4 + 3, none⟩) (Nat.lt_of_lt_of_le hb hsz)).trans hs3), ((hst.cell (p := ⟨b', off' + k * 4, none⟩) (Nat.lt_of_lt_of_le hb' hsz)).trans ht0), ((hst.cell (p := ⟨b', off' + k * 4 + 1, none⟩) (Nat.lt_of_lt_of_le hb' hsz)).trans ht1), ((hst.cell (p := ⟨b', off' + k * 4 + 2, none⟩) (Nat.lt_of_lt_of_le hb' hsz)).trans ht2), ((hst.cell (p := ⟨b', off' + k * 4 + 3, none⟩) (Nat.lt_of_lt_of_le hb' hsz)).trans ht3)⟩; clear hb5 hst))
      all_goals go_wp2_with fail
      all_goals go_roundw
      all_goals first | exact ⟨k + 1, by omega, by go_num, HB5⟩ | exact ⟨k + 1, by omega, by go_num, Lib.hid HB5.out.drew⟩ | (simp [intOf]; omega)
    · obtain rfl : k = n := by omega
      go_wp2_with fail
      go_ret
      exact ⟨rfl, Hbw.out⟩

set_option maxHeartbeats 2000000 in
theorem eqDamS_nil (a a' : Option Addr) (cap cap' : Nat) (w : World) : Calls Try.prog 60 #[.slice a 0 cap, .slice a' 0 cap'] w fun e w' => e = .returned (.bool true) ∧ Below w.heap.size w w' := by
  go_enter Try.func60, Try.ntmps60
  go_wp2_with fail
  go_loopw [5] (fun i wr => i = .int .i64 0 ∧ wr = w) (fun i _ => 0)
  case atStart => exact ⟨rfl, rfl⟩
  case round =>
    obtain ⟨rfl, rfl⟩ := hrel
    go_wp2_with fail
    go_ret
    exact ⟨rfl, Below.refl _ _⟩
theorem eqDamS_any (a a' : Option Addr) (cap cap' n : Nat) (zs : List Int) (w : World) (h : RowC w a (ic zs)) (h' : RowC w a' (ic zs)) (hn : zs.length = n * 4) (hl : n ≤ 1048576) :
    Calls Try.prog 60 #[.slice a n cap, .slice a' n cap'] w fun e w' => e = .returned (.bool true) ∧ Below w.heap.size w w' := by
  rcases h.ints with rfl | ⟨b, off, rfl, hb, hc⟩
  · obtain rfl : n = 0 := by simp at hn; omega
    exact eqDamS_nil _ _ _ _ w
  · rcases h'.ints with rfl | ⟨b', off', rfl, hb', hc'⟩
    · obtain rfl : n = 0 := by simp at hn; omega
      exact eqDamS_nil _ _ _ _ w
    · exact eqDamS_row b off cap b' off' cap' n zs w hn hb hb' hc hc' hl

theorem markedZ_set4 (k : Nat) (zs : List Int) (j : Nat) (h : j * 4 + 3 < zs.length) :
    (((((ic (markedZ k zs (j * 4))).set (j * 4) (.int .i64 ((k + j * 4 : Nat) : Int))).set (j * 4 + 1) (.int .i64 (((k + j * 4 : Nat) : Int) + 1))).set (j * 4 + 2) (.int .i64 ((((k + j * 4 : Nat) : Int) + 1) + 1))).set (j * 4 + 3) (.int .i64 (((((k + j * 4 : Nat) : Int) + 1) + 1) + 1))) = ic (markedZ k zs ((j + 1) * 4)) := by
  rw [← ic_set, ← ic_set, ← ic_set, ← ic_set, show ((k + j * 4 : Nat) : Int) = markZ k (j * 4) from rfl, show (markZ k (j * 4) + 1) = markZ k (j * 4 + 1) by unfold markZ; omega, show (markZ k (j * 4 + 1) + 1) = markZ k (j * 4 + 2) by unfold markZ; omega, show (markZ k (j * 4 + 2) + 1) = markZ k (j * 4 + 3) by unfold markZ; omega, markedZ_set _ _ _ (by omega), markedZ_set _ _ _ (by omega), markedZ_set _ _ _ (by omega), markedZ_set _ _ _ (by omega), show j * 4 + 3 + 1 = (j + 1) * 4 by omega]

set_option maxHeartbeats 8000000 in
theorem markDamS_row (lo hi k g n cap : Nat) (zs : List Int) (w : World) (h : HRow w 98 4 lo hi (.slice (some ⟨g, 0, none⟩) n cap) n (ic zs)) (hl : n ≤ 1048576) (hk : k ≤ 8388608) :
    Calls Try.prog 61 #[(.slice (some ⟨g, 0, none⟩) n cap), .int .i64 (k : Int)] w (MarksC 98 4 k lo hi (.slice (some ⟨g, 0, none⟩) n cap) n (n * 4) w) := by
  have hlen : zs.length = n * 4 := by have := h.len; rw [ic_length] at this; omega
  have Hlen := Lib.hid hlen
  have H := Lib.hid h
  clear h hlen
  go_enter Try.func61, Try.ntmps61
  go_wp2_with fail
  go_loopw [1, 5] (fun c i wr => ∃ j : Nat, j ≤ n ∧ i = .int .i64 j ∧ c = .int .i64 ((k + j * 4 : Nat) : Int) ∧ Hid (HRow wr 98 4 lo hi (.slice (some ⟨g, 0, none⟩) n cap) n (ic (markedZ k zs (j * 4)))) ∧ Hid (Kept lo hi w wr)) (fun c i _ => n - (intOf i).toNat)
  case atStart => exact ⟨0, Nat.zero_le _, rfl, by simp, Lib.hid (by rw [Nat.zero_mul, markedZ_zero]; exact H.out), Lib.hid (Kept.refl _ _ _)⟩
  case round =>
    obtain ⟨j, hj, rfl, rfl, HR, HK⟩ := hrel
    by_cases hlt : j < n
    · have hll : (markedZ k zs (j * 4)).length = n * 4 := by rw [markedZ_length k zs (j * 4) (by have := Hlen.out; omega)]; exact Hlen.out
      obtain ⟨hc0, hf0⟩ := HR.out.at (j * 4) (by omega)
      obtain ⟨hc1, hf1⟩ := HR.out.at (j * 4 + 1) (by omega)
      obtain ⟨hc2, hf2⟩ := HR.out.at (j * 4 + 2) (by omega)
      obtain ⟨hc3, hf3⟩ := HR.out.at (j * 4 + 3) (by omega)
      rw [ic_at (by omega)] at hc0
      rw [ic_at (by omega)] at hc1
      rw [ic_at (by omega)] at hc2
      rw [ic_at (by omega)] at hc3
      have Hset := Lib.hid (markedZ_set4 k zs j (by have := Hlen.out; omega))
      have hk0 : (0 : Int) ≤ (j : Int) := by omega
      have hk1 : (j : Int) < (n : Int) := by omega
      have hkb : ((k + j * 4 : Nat) : Int) ≤ 16777216 := by omega
      clear hll
      generalize (markedZ k zs (j * 4)).getD (j * 4 + 3) 0 = z3 at *
      generalize (markedZ k zs (j * 4)).getD (j * 4 + 2) 0 = z2 at *
      generalize (markedZ k zs (j * 4)).getD (j * 4 + 1) 0 = z1 at *
      generalize (markedZ k zs (j * 4)).getD (j * 4) 0 = z0 at *
      obtain ⟨kk, hkk⟩ : ∃ q : Nat, k + j * 4 = q := ⟨_, rfl⟩
      have Hkk := Lib.hid hkk
      rw [hkk] at hkb
      rw [hkk]
      clear hkk
      go_wp2_with fail
      go_roundw
      case rel =>
        refine ⟨j + 1, by omega, by go_num, ?_, Lib.hid ?_, Lib.hid ?_⟩
        · rw [← Hkk.out]; go_num
        · rw [← Hset.out, Hkk.out]; exact ((((HR.out.store (j * 4) _).1.store (j * 4 + 1) _).1.store (j * 4 + 2) _).1.store (j * 4 + 3) _).1
        · exact HK.out.trans ((HR.out.store (j * 4) _).2.trans (((HR.out.store (j * 4) _).1.store (j * 4 + 1) _).2.trans ((((HR.out.store (j * 4) _).1.store (j * 4 + 1) _).1.store (j * 4 + 2) _).2.trans ((((HR.out.store (j * 4) _).1.store (j * 4 + 1) _).1.store (j * 4 + 2) _).1.store (j * 4 + 3) _).2)))
      case measure => simp [intOf]; omega
    · obtain rfl : j = n := by omega
      go_wp2_with fail
      go_ret
      refine ⟨rfl, ?_, HK.out⟩
      have := HR.out
      rw [show markedZ k zs (j * 4) = marksZ k (j * 4) by rw [← Hlen.out, markedZ_all]] at this
      exact this
set_option maxHeartbeats 2000000 in
theorem markDamS_nil (lo hi k : Nat) (w : World) (hh : hi ≤ w.heap.size) (hk : k ≤ 8388608) : Calls Try.prog 61 #[.slice none 0 0, .int .i64 (k : Int)] w (MarksC 98 4 k lo hi (.slice none 0 0) 0 0 w) := by
  go_enter Try.func61, Try.ntmps61
  go_wp2_with fail
  go_loopw [1, 5] (fun c i wr => i = .int .i64 0 ∧ c = .int .i64 (k : Int) ∧ wr = w) (fun c i _ => 0)
  case atStart => exact ⟨rfl, rfl, rfl⟩
  case round =>
    obtain ⟨rfl, rfl, rfl⟩ := hrel
    go_wp2_with fail
    go_ret
    exact ⟨rfl, ⟨World.ownsRow_nil _ _ _ _, (fun k h => by cases h), hh⟩, Kept.refl _ _ _⟩
theorem markDamS_any (lo hi k : Nat) (a : Option Addr) (n cap : Nat) (zs : List Int) (w : World) (h : HRow w 98 4 lo hi (.slice a n cap) n (ic zs)) (hl : n ≤ 1048576) (hk : k ≤ 8388608) :
    Calls Try.prog 61 #[.slice a n cap, .int .i64 (k : Int)] w (MarksC 98 4 k lo hi (.slice a n cap) n (n * 4) w) := by
  rcases h.cases with ⟨h1, h2⟩ | ⟨g, c, h1, h2, h3⟩
  · injection h1 with h1 h4 h5
    subst h1; subst h4; subst h5
    exact markDamS_nil lo hi k w h.2.2 hk
  · injection h1 with h1 h4 h5
    subst h1
    exact markDamS_row lo hi k g n cap zs w h hl hk

set_option maxHeartbeats 8000000 in
theorem heldDamS_row (lo hi k g n cap : Nat) (w : World) (h : HRow w 98 4 lo hi (.slice (some ⟨g, 0, none⟩) n cap) n (ic (marksZ k (n * 4)))) (hl : n ≤ 1048576) (hk : k ≤ 8388608) :
    Calls Try.prog 62 #[(.slice (some ⟨g, 0, none⟩) n cap), .int .i64 (k : Int)] w fun e w' => e = .returned (.int .i64 ((k + n * 4 : Nat) : Int)) ∧ w = w' := by
  have H := Lib.hid h
  clear h
  go_enter Try.func62, Try.ntmps62
  go_wp2_with fail
  go_loopw [1, 5] (fun c i wr => ∃ j : Nat, j ≤ n ∧ i = .int .i64 j ∧ c = .int .i64 ((k + j * 4 : Nat) : Int) ∧ wr = w) (fun c i _ => n - (intOf i).toNat)
  case atStart => exact ⟨0, Nat.zero_le _, rfl, by simp, rfl⟩
  case round =>
    obtain ⟨j, hj, rfl, rfl, hwr⟩ := hrel
    by_cases hlt : j < n
    · obtain ⟨hc0, hf0⟩ := H.out.at (j * 4) (by omega)
      rw [ic_at (by rw [marksZ_length]; omega), marksZ_getD _ _ _ (by omega), ← hwr, show ((k + (j * 4) : Nat) : Int) = ((k + j * 4 : Nat) : Int) by omega] at hc0
      obtain ⟨hc1, hf1⟩ := H.out.at (j * 4 + 1) (by omega)
      rw [ic_at (by rw [marksZ_length]; omega), marksZ_getD _ _ _ (by omega), ← hwr, show ((k + (j * 4 + 1) : Nat) : Int) = (((k + j * 4 : Nat) : Int) + 1) by omega] at hc1
      obtain ⟨hc2, hf2⟩ := H.out.at (j * 4 + 2) (by omega)
      rw [ic_at (by rw [marksZ_length]; omega), marksZ_getD _ _ _ (by omega), ← hwr, show ((k + (j * 4 + 2) : Nat) : Int) = ((((k + j * 4 : Nat) : Int) + 1) + 1) by omega] at hc2
      obtain ⟨hc3, hf3⟩ := H.out.at (j * 4 + 3) (by omega)
      rw [ic_at (by rw [marksZ_length]; omega), marksZ_getD _ _ _ (by omega), ← hwr, show ((k + (j * 4 + 3) : Nat) : Int) = (((((k + j * 4 : Nat) : Int) + 1) + 1) + 1) by omega] at hc3
      have hk0 : (0 : Int) ≤ (j : Int) := by omega
      have hk1 : (j : Int) < (n : Int) := by omega
      have hkb : ((k + j * 4 : Nat) : Int) ≤ 16777216 := by omega
      have Hwr := Lib.hid hwr
      clear hwr hf0 hf1 hf2 hf3
      obtain ⟨kk, hkk⟩ : ∃ q : Nat, k + j * 4 = q := ⟨_, rfl⟩
      have Hkk := Lib.hid hkk
      rw [hkk] at hkb hc0 hc1 hc2 hc3
      rw [hkk]
      clear hkk
      go_wp2_with fail
      go_roundw
      case rel => exact ⟨j + 1, by omega, by go_num, by rw [← Hkk.out]; go_num, Hwr.out⟩
      case measure => simp [intOf]; omega
    · obtain rfl : j = n := by omega
      subst hwr
      go_wp2_with fail
      go_ret
      exact ⟨rfl, rfl⟩
set_option maxHeartbeats 2000000 in
theorem heldDamS_nil (k : Nat) (w : World) (hk : k ≤ 8388608) : Calls Try.prog 62 #[.slice none 0 0, .int .i64 (k : Int)] w fun e w' => e = .returned (.int .i64 (k : Int)) ∧ w = w' := by
  go_enter Try.func62, Try.ntmps62
  go_wp2_with fail
  go_loopw [1, 5] (fun c i wr => i = .int .i64 0 ∧ c = .int .i64 (k : Int) ∧ wr = w) (fun c i _ => 0)
  case atStart => exact ⟨rfl, rfl, rfl⟩
  case round =>
    obtain ⟨rfl, rfl, rfl⟩ := hrel
    go_wp2_with fail
    go_ret
    exact ⟨rfl, rfl⟩
theorem heldDamS_any (lo hi k : Nat) (a : Option Addr) (n cap : Nat) (w : World) (h : HRow w 98 4 lo hi (.slice a n cap) n (ic (marksZ k (n * 4)))) (hl : n ≤ 1048576) (hk : k ≤ 8388608) :
    Calls Try.prog 62 #[.slice a n cap, .int .i64 (k : Int)] w fun e w' => e = .returned (.int .i64 ((k + n * 4 : Nat) : Int)) ∧ w = w' := by
  rcases h.cases with ⟨h1, h2⟩ | ⟨g, c, h1, h2, h3⟩
  · injection h1 with h1 h4 h5
    subst h1; subst h4; subst h5
    exact heldDamS_nil k w hk
  · injection h1 with h1 h4 h5
    subst h1
    exact heldDamS_row lo hi k g n cap w h hl hk

end Go.Proofs.Ytckmacnmmloemaa
