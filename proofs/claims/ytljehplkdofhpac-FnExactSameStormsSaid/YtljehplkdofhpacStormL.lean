/- Lists of Storms: the laws' copies and looks; rows that came in. -/
import Derived.Test.YtljehplkdofhpacRowFl
import Derived.Deep.RegionHeld3
import Derived.Deep.Slices
import Derived.Deep.Fields
import Derived.Lib.SmallJoins
namespace Go.Proofs.Ytljehplkdofhpac
open Go.RowKit
set_option linter.unusedVariables false
set_option linter.unusedSimpArgs false
set_option maxRecDepth 100000
attribute [local irreducible] wpV wpList Code.wp

open Go.Joins Go.ChangeShapes Go.WideShapes Go.Deep
theorem info_Storm : (Try.prog.info? 127).map (fun i => (i.zero, i.size, i.bytes)) = some (some (.agg #[.float .f32 0, .float .f32 0, .float .f32 0, .float .f32 0]), 4, 16) := by kernel_rfl
set_option maxHeartbeats 2000000 in
theorem toStorm_flo (z0 z1 z2 z3 : Nat) (w : World) : Calls Try.prog 105 #[.agg #[.float .f32 z0, .float .f32 z1, .float .f32 z2, .float .f32 z3]] w fun e w' => e = .returned (.agg #[.float .f32 z0, .float .f32 z1, .float .f32 z2, .float .f32 z3]) ∧ Below w.heap.size w w' := by
  go_enter Try.func105, Try.ntmps105
  go_wp2_with fail
  refine bodyPost_ret (v := .agg #[.float .f32 z0, .float .f32 z1, .float .f32 z2, .float .f32 z3]) (by first | (simp [results, Try.results105, go_sem]; done) | (simp (maxDischargeDepth := 12) [results, Try.results105, go_sem]; done) | (simp (maxDischargeDepth := 12) [results, Try.results105, go_sem]; rfl)) rfl ⟨rfl, ?_⟩
  exact (by repeat (first | with_reducible exact Below.refl _ _ | with_reducible refine beld ?_ _ | (with_reducible refine Below.alloc ?_ ?_ _; rotate_left; exact (by first | (simp; done) | (simp; omega) | omega)) | (with_reducible refine Below.setCell ?_ ?_ _; rotate_left; exact (by first | (simp; done) | (simp; omega) | omega))))

set_option maxHeartbeats 4000000 in
theorem eqStorm_flo (z0 z1 z2 z3 : Nat) (w : World) (h0 : z0 < 4294967296) (h1 : z1 < 4294967296) (h2 : z2 < 4294967296) (h3 : z3 < 4294967296) : Calls Try.prog 109 #[.agg #[.float .f32 z0, .float .f32 z1, .float .f32 z2, .float .f32 z3], .agg #[.float .f32 z0, .float .f32 z1, .float .f32 z2, .float .f32 z3]] w fun e w' => e = .returned (.bool true) ∧ Below w.heap.size w w' := by
  have i0 : Is32 (some z0) z0 := Is32.c h0
  have i1 : Is32 (some z1) z1 := Is32.c h1
  have i2 : Is32 (some z2) z2 := Is32.c h2
  have i3 : Is32 (some z3) z3 := Is32.c h3
  go_enter Try.func109, Try.ntmps109
  go_wp2_with (first | ((with_reducible refine wpList_cv ?_); refine wpList_widen rfl _ _ _ rfl rfl (by kernel_rfl) Try.underlying103 (by assumption) ?_; intro y q hy) | (go_at_call 84; refine (sameFloat_true _ _ _ (by assumption) (by assumption) _).mono ?_; rintro e w' ⟨rfl, n3, rfl⟩))
  go_ret
  exact ⟨rfl, (by repeat (first | with_reducible exact Below.refl _ _ | with_reducible refine beld ?_ _ | (with_reducible refine Below.alloc ?_ ?_ _; rotate_left; exact (by first | (simp; done) | (simp; omega) | omega)) | (with_reducible refine Below.setCell ?_ ?_ _; rotate_left; exact (by first | (simp; done) | (simp; omega) | omega))))⟩

theorem toList_madeStorm (n : Nat) : (madeCells #[Value.float .f32 0, Value.float .f32 0, Value.float .f32 0, Value.float .f32 0] (n * 4)).toList = List.replicate (n * 4) (.float .f32 0) := by
  have hsz : (madeCells #[Value.float .f32 0, Value.float .f32 0, Value.float .f32 0, Value.float .f32 0] (n * 4)).size = n * 4 := size_madeCells _ _
  apply List.ext_getElem?
  intro j
  by_cases hj : j < n * 4
  · rw [List.getElem?_replicate, if_pos hj, Array.getElem?_toList]
    simp [madeCells, hj]
    have h5 : j % 4 < 4 := Nat.mod_lt _ (by decide)
    rcases h : j % 4 with _ | _ | _ | _ | m
    · simp
    · simp
    · simp
    · simp
    · omega
  · rw [List.getElem?_eq_none (by rw [Array.length_toList, hsz]; omega), List.getElem?_eq_none (by simp; omega)]

theorem copiedStorm_set (zs : List Nat) (k : Nat) (h : k * 4 + 3 < zs.length) : (((((copiedFl zs (k * 4)).set (k * 4) (.float .f32 (zs.getD (k * 4) 0))).set (k * 4 + 1) (.float .f32 (zs.getD (k * 4 + 1) 0))).set (k * 4 + 2) (.float .f32 (zs.getD (k * 4 + 2) 0))).set (k * 4 + 3) (.float .f32 (zs.getD (k * 4 + 3) 0))) = copiedFl zs ((k + 1) * 4) := by
  rw [copiedFl_set _ _ (by omega), copiedFl_set _ _ (by omega), copiedFl_set _ _ (by omega), copiedFl_set _ _ (by omega), show k * 4 + 3 + 1 = (k + 1) * 4 by omega]

theorem storedStorm {w : World} {lo g n cap k : Nat} {e : TypeId} {xs : List Value} (h : w.ownsRow lo e 4 (.slice (some ⟨g, 0, none⟩) n cap) n xs) (u0 u1 u2 u3 : Value) : ((((w.setCell ⟨g, k * 4, none⟩ u0).setCell ⟨g, k * 4 + 1, none⟩ u1).setCell ⟨g, k * 4 + 2, none⟩ u2).setCell ⟨g, k * 4 + 3, none⟩ u3).ownsRow lo e 4 (.slice (some ⟨g, 0, none⟩) n cap) n ((((xs.set (k * 4) u0).set (k * 4 + 1) u1).set (k * 4 + 2) u2).set (k * 4 + 3) u3) :=
  ((((h.stored (k * 4) u0).1.stored (k * 4 + 1) u1).1.stored (k * 4 + 2) u2).1.stored (k * 4 + 3) u3).1

set_option maxHeartbeats 4000000 in
theorem toStormS_row (b off cap n : Nat) (zs : List Nat) (w : World) (hn : zs.length = n * 4) (hb : b < w.heap.size) (hc : ∀ i, i < zs.length → w.cell? ⟨b, off + i, none⟩ = some (.float .f32 (zs.getD i 0))) (hl : n ≤ 1048576) :
    Calls Try.prog 48 #[.slice (some ⟨b, off, none⟩) n cap] w (CopyC 127 4 w n (fc zs)) := by
  obtain ⟨i0, hi, hz0, hz1, hz2⟩ := info_parts info_Storm
  have Hn := Lib.hid hn
  have Hc := Lib.hid hc
  clear hc hn
  go_enter Try.func48, Try.ntmps48
  go_wp2_with (at_make; refine wpList_make_full _ rfl _ _ 66 rfl w.heap.size 127 i0 (.agg #[.float .f32 0, .float .f32 0, .float .f32 0, .float .f32 0]) 4 Try.underlying66 hi hz0 hz1 _ _ _ _ n rfl rfl rfl rfl (by rw [hz2]; omega) (by unfold maxLen; omega) (Nat.le_refl _) ?_)
  intro w1 hown hgrow
  have hown' : w1.ownsRow w.heap.size 127 4 (.slice (some ⟨w.heap.size, 0, none⟩) n n) n (copiedFl zs (0 * 4)) := by
    rw [Nat.zero_mul, copiedFl_zero, Hn.out, ← toList_madeStorm]
    exact hown
  have hb1 : Below w.heap.size w w1 := (Below.refl _ _).grown hgrow (Nat.le_refl _) (fun k h => by cases h)
  clear hown hgrow
  go_wp2_with fail
  go_loopw [4] (fun i wr => ∃ k : Nat, k ≤ n ∧ i = .int .i64 k ∧ wr.ownsRow w.heap.size 127 4 (.slice (some ⟨w.heap.size, 0, none⟩) n n) n (copiedFl zs (k * 4)) ∧ Below w.heap.size w wr) (fun i _ => n - (intOf i).toNat)
  case atStart => exact ⟨0, Nat.zero_le _, rfl, hown', hb1⟩
  case round =>
    obtain ⟨k, hk, rfl, hown, hbw⟩ := hrel
    clear hown' hb1
    have hk0 : (0 : Int) ≤ (k : Int) := by omega
    have Hown := Lib.hid hown
    have Hbw := Lib.hid hbw
    clear hown hbw
    by_cases hlt : k < n
    · have hk1 : (k : Int) < (n : Int) := by omega
      have hkl : k * 4 + 3 < zs.length := by have := Hn.out; omega
      have Hst := Lib.hid (copiedStorm_set zs k hkl)
      have Hkl := Lib.hid hkl
      have hs0 : wr.cell? ⟨b, off + k * 4, none⟩ = some (.float .f32 (zs.getD (k * 4) 0)) := (Hbw.out.cell (p := ⟨b, off + k * 4, none⟩) hb).trans (Hc.out (k * 4) (by omega))
      have hs1 : wr.cell? ⟨b, off + k * 4 + 1, none⟩ = some (.float .f32 (zs.getD (k * 4 + 1) 0)) := (Hbw.out.cell (p := ⟨b, off + k * 4 + 1, none⟩) hb).trans (Hc.out (k * 4 + 1) (by omega))
      have hs2 : wr.cell? ⟨b, off + k * 4 + 2, none⟩ = some (.float .f32 (zs.getD (k * 4 + 2) 0)) := (Hbw.out.cell (p := ⟨b, off + k * 4 + 2, none⟩) hb).trans (Hc.out (k * 4 + 2) (by omega))
      have hs3 : wr.cell? ⟨b, off + k * 4 + 3, none⟩ = some (.float .f32 (zs.getD (k * 4 + 3) 0)) := (Hbw.out.cell (p := ⟨b, off + k * 4 + 3, none⟩) hb).trans (Hc.out (k * 4 + 3) (by omega))
      clear hkl
      generalize zs.getD (k * 4 + 3) 0 = z3 at *
      generalize zs.getD (k * 4 + 2) 0 = z2 at *
      generalize zs.getD (k * 4 + 1) 0 = z1 at *
      generalize zs.getD (k * 4) 0 = z0 at *
      go_wp2_with fail
      refine (toStorm_flo z0 z1 z2 z3 wr).mono ?_
      rintro e w2 ⟨rfl, hb2⟩
      have hgl : w.heap.size < wr.heap.size := (Hown.out.lt _ rfl).2
      have hcl := copiedFl_length zs (k * 4) (by have := Hkl.out; omega)
      have hkl := Hkl.out
      have Hw2 := Lib.hid (owns_below Hown.out hb2 (Nat.le_refl _))
      have Hb2 := Lib.hid (Hbw.out.trans (hb2.mono (by omega)))
      obtain ⟨v0, hv0⟩ : ∃ u, (copiedFl zs (k * 4))[(k * 4)]? = some u := ⟨_, List.getElem?_eq_getElem (by omega)⟩
      obtain ⟨v1, hv1⟩ : ∃ u, (copiedFl zs (k * 4))[(k * 4 + 1)]? = some u := ⟨_, List.getElem?_eq_getElem (by omega)⟩
      obtain ⟨v2, hv2⟩ : ∃ u, (copiedFl zs (k * 4))[(k * 4 + 2)]? = some u := ⟨_, List.getElem?_eq_getElem (by omega)⟩
      obtain ⟨v3, hv3⟩ : ∃ u, (copiedFl zs (k * 4))[(k * 4 + 3)]? = some u := ⟨_, List.getElem?_eq_getElem (by omega)⟩
      have hd0 : w2.cell? ⟨w.heap.size, k * 4, none⟩ = some v0 := by rw [Hw2.out.cellAt (k * 4) (by omega)]; exact hv0
      have hd1 : w2.cell? ⟨w.heap.size, k * 4 + 1, none⟩ = some v1 := by rw [Hw2.out.cellAt (k * 4 + 1) (by omega)]; exact hv1
      have hd2 : w2.cell? ⟨w.heap.size, k * 4 + 2, none⟩ = some v2 := by rw [Hw2.out.cellAt (k * 4 + 2) (by omega)]; exact hv2
      have hd3 : w2.cell? ⟨w.heap.size, k * 4 + 3, none⟩ = some v3 := by rw [Hw2.out.cellAt (k * 4 + 3) (by omega)]; exact hv3
      have hf0 := Hw2.out.frozenAt (k * 4)
      have hf1 := Hw2.out.frozenAt (k * 4 + 1)
      have hf2 := Hw2.out.frozenAt (k * 4 + 2)
      have hf3 := Hw2.out.frozenAt (k * 4 + 3)
      clear hs0 hv0 hs1 hv1 hs2 hv2 hs3 hv3 hcl hgl hkl hb2
      go_wp2_with fail
      go_roundw
      case rel => exact ⟨k + 1, by omega, by go_num, by rw [← Hst.out]; exact storedStorm Hw2.out _ _ _ _, ((((Hb2.out.setCell (Nat.le_refl _) _).setCell (Nat.le_refl _) _).setCell (Nat.le_refl _) _).setCell (Nat.le_refl _) _)⟩
      case measure => simp [intOf]; omega
    · obtain rfl : k = n := by omega
      go_wp2_with fail
      go_ret
      refine ⟨some ⟨w.heap.size, 0, none⟩, k, rfl, Hbw.out, HRow.mk' ?_⟩
      have := Hown.out
      rw [← Hn.out, copiedFl_all] at this
      exact this

set_option maxHeartbeats 2000000 in
theorem toStormS_nil (a : Option Addr) (cap : Nat) (w : World) : Calls Try.prog 48 #[.slice a 0 cap] w (CopyC 127 4 w 0 []) := by
  obtain ⟨i0, hi, hz0, hz1, hz2⟩ := info_parts info_Storm
  go_enter Try.func48, Try.ntmps48
  go_wp2_with (at_make; refine wpList_make_full _ rfl _ _ 66 rfl w.heap.size 127 i0 (.agg #[.float .f32 0, .float .f32 0, .float .f32 0, .float .f32 0]) 4 Try.underlying66 hi hz0 hz1 _ _ _ _ 0 rfl rfl rfl rfl (by rw [hz2]; omega) (by unfold maxLen; omega) (Nat.le_refl _) ?_)
  intro w1 hown hgrow
  have hown' : w1.ownsRow w.heap.size 127 4 (.slice (some ⟨w.heap.size, 0, none⟩) 0 0) 0 [] := by have h9 := toList_madeStorm 0; rw [Nat.zero_mul] at h9; rw [h9] at hown; exact hown
  have hb1 : Below w.heap.size w w1 := (Below.refl _ _).grown hgrow (Nat.le_refl _) (fun k h => by cases h)
  clear hown hgrow
  have Hown := Lib.hid hown'
  clear hown'
  go_wp2_with fail
  go_loopw [4] (fun i wr => i = .int .i64 0 ∧ Below w.heap.size w wr ∧ wr.ownsRow w.heap.size 127 4 (.slice (some ⟨w.heap.size, 0, none⟩) 0 0) 0 []) (fun i _ => 0)
  case atStart => exact ⟨rfl, hb1, Hown.out⟩
  case round =>
    obtain ⟨rfl, hbw, how⟩ := hrel
    have Hbw := Lib.hid hbw
    have How := Lib.hid how
    clear hb1 hbw how
    go_wp2_with fail
    go_ret
    exact ⟨some ⟨w.heap.size, 0, none⟩, 0, rfl, Hbw.out, HRow.mk' How.out⟩
theorem toStormS_flo (a : Option Addr) (cap n : Nat) (zs : List Nat) (w : World) (hr : RowC w a (fc zs)) (hn : zs.length = n * 4) (hl : n ≤ 1048576) : Calls Try.prog 48 #[.slice a n cap] w (CopyC 127 4 w n (fc zs)) := by
  rcases hr.flos with rfl | ⟨b, off, rfl, hb, hc⟩
  · obtain rfl : n = 0 := by simp at hn; omega
    exact toStormS_nil a cap w
  · exact toStormS_row b off cap n zs w hn hb hc hl

set_option maxHeartbeats 4000000 in
theorem eqStormS_row (b off cap b' off' cap' n : Nat) (zs : List Nat) (w : World) (hn : zs.length = n * 4) (hb : b < w.heap.size) (hb' : b' < w.heap.size) (hc : ∀ i, i < zs.length → w.cell? ⟨b, off + i, none⟩ = some (.float .f32 (zs.getD i 0)))
    (hc' : ∀ i, i < zs.length → w.cell? ⟨b', off' + i, none⟩ = some (.float .f32 (zs.getD i 0))) (hl : n ≤ 1048576) (hz : ∀ z ∈ zs, z < 4294967296) :
    Calls Try.prog 50 #[.slice (some ⟨b, off, none⟩) n cap, .slice (some ⟨b', off', none⟩) n cap'] w fun e w' => e = .returned (.bool true) ∧ Below w.heap.size w w' := by
  have Hn := Lib.hid hn
  have Hc := Lib.hid hc
  have Hc' := Lib.hid hc'
  have Hz := Lib.hid hz
  clear hc hc' hn hz
  go_enter Try.func50, Try.ntmps50
  go_wp2_with fail
  go_loopw [5] (fun i wr => ∃ k : Nat, k ≤ n ∧ i = .int .i64 k ∧ Hid (Below w.heap.size w wr)) (fun i _ => n - (intOf i).toNat)
  case atStart => exact ⟨0, Nat.zero_le _, rfl, Lib.hid (Below.refl _ _)⟩
  case round =>
    obtain ⟨k, hk, rfl, Hbw⟩ := hrel
    have hk0 : (0 : Int) ≤ (k : Int) := by omega
    by_cases hlt : k < n
    · have hk1 : (k : Int) < (n : Int) := by omega
      have hkl : k * 4 + 3 < zs.length := by have := Hn.out; omega
      have hs0 : wr.cell? ⟨b, off + k * 4, none⟩ = some (.float .f32 (zs.getD (k * 4) 0)) := (Hbw.out.cell (p := ⟨b, off + k * 4, none⟩) hb).trans (Hc.out (k * 4) (by omega))
      have hs1 : wr.cell? ⟨b, off + k * 4 + 1, none⟩ = some (.float .f32 (zs.getD (k * 4 + 1) 0)) := (Hbw.out.cell (p := ⟨b, off + k * 4 + 1, none⟩) hb).trans (Hc.out (k * 4 + 1) (by omega))
      have hs2 : wr.cell? ⟨b, off + k * 4 + 2, none⟩ = some (.float .f32 (zs.getD (k * 4 + 2) 0)) := (Hbw.out.cell (p := ⟨b, off + k * 4 + 2, none⟩) hb).trans (Hc.out (k * 4 + 2) (by omega))
      have hs3 : wr.cell? ⟨b, off + k * 4 + 3, none⟩ = some (.float .f32 (zs.getD (k * 4 + 3) 0)) := (Hbw.out.cell (p := ⟨b, off + k * 4 + 3, none⟩) hb).trans (Hc.out (k * 4 + 3) (by omega))
      have ht0 : wr.cell? ⟨b', off' + k * 4, none⟩ = some (.float .f32 (zs.getD (k * 4) 0)) := (Hbw.out.cell (p := ⟨b', off' + k * 4, none⟩) hb').trans (Hc'.out (k * 4) (by omega))
      have ht1 : wr.cell? ⟨b', off' + k * 4 + 1, none⟩ = some (.float .f32 (zs.getD (k * 4 + 1) 0)) := (Hbw.out.cell (p := ⟨b', off' + k * 4 + 1, none⟩) hb').trans (Hc'.out (k * 4 + 1) (by omega))
      have ht2 : wr.cell? ⟨b', off' + k * 4 + 2, none⟩ = some (.float .f32 (zs.getD (k * 4 + 2) 0)) := (Hbw.out.cell (p := ⟨b', off' + k * 4 + 2, none⟩) hb').trans (Hc'.out (k * 4 + 2) (by omega))
      have ht3 : wr.cell? ⟨b', off' + k * 4 + 3, none⟩ = some (.float .f32 (zs.getD (k * 4 + 3) 0)) := (Hbw.out.cell (p := ⟨b', off' + k * 4 + 3, none⟩) hb').trans (Hc'.out (k * 4 + 3) (by omega))
      have hy0 := getD_lt Hz.out (k * 4)
      have hy1 := getD_lt Hz.out (k * 4 + 1)
      have hy2 := getD_lt Hz.out (k * 4 + 2)
      have hy3 := getD_lt Hz.out (k * 4 + 3)
      clear hkl
      generalize zs.getD (k * 4 + 3) 0 = z3 at *
      generalize zs.getD (k * 4 + 2) 0 = z2 at *
      generalize zs.getD (k * 4 + 1) 0 = z1 at *
      generalize zs.getD (k * 4) 0 = z0 at *
      have HF : Hid (wr.cell? ⟨b, off + k * 4, none⟩ = some (.float .f32 z0) ∧ wr.cell? ⟨b, off + k * 4 + 1, none⟩ = some (.float .f32 z1) ∧ wr.cell? ⟨b, off + k * 4 + 2, none⟩ = some (.float .f32 z2) ∧ wr.cell? ⟨b, off + k * 4 + 3, none⟩ = some (.float .f32 z3) ∧ wr.cell? ⟨b', off' + k * 4, none⟩ = some (.float .f32 z0) ∧ wr.cell? ⟨b', off' + k * 4 + 1, none⟩ = some (.float .f32 z1) ∧ wr.cell? ⟨b', off' + k * 4 + 2, none⟩ = some (.float .f32 z2) ∧ wr.cell? ⟨b', off' + k * 4 + 3, none⟩ = some (.float .f32 z3)) := Lib.hid ⟨hs0, hs1, hs2, hs3, ht0, ht1, ht2, ht3⟩
      have hsz := Hbw.out.size
      go_wp2_with fail
      go_region_held3 (fun w' => w'.cell? ⟨b, off + k * 4, none⟩ = some (.float .f32 z0) ∧ w'.cell? ⟨b, off + k * 4 + 1, none⟩ = some (.float .f32 z1) ∧ w'.cell? ⟨b, off + k * 4 + 2, none⟩ = some (.float .f32 z2) ∧ w'.cell? ⟨b, off + k * 4 + 3, none⟩ = some (.float .f32 z3) ∧ w'.cell? ⟨b', off' + k * 4, none⟩ = some (.float .f32 z0) ∧ w'.cell? ⟨b', off' + k * 4 + 1, none⟩ = some (.float .f32 z1) ∧ w'.cell? ⟨b', off' + k * 4 + 2, none⟩ = some (.float .f32 z2) ∧ w'.cell? ⟨b', off' + k * 4 + 3, none⟩ = some (.float .f32 z3))
        (first | exact K5.out | exact HF.out)
        (first | (go_at_call 109; refine (eqStorm_flo z0 z1 z2 z3 _ hy0 hy1 hy2 hy3).mono ?_; rintro e w5 ⟨rfl, hb5⟩; have hst : Below wr.heap.size wr w5 := (Below.refl _ _).drew.trans (hb5.mono (Nat.le_refl _ : wr.heap.size ≤ wr.drew.heap.size)); have HB5 : Hid (Below w.heap.size w w5) := Lib.hid (Hbw.out.trans (hst.mono Hbw.out.size)); have K5 : Hid (w5.cell? ⟨b, off + k * 4, none⟩ = some (.float .f32 z0) ∧ w5.cell? ⟨b, off + k * 4 + 1, none⟩ = some (.float .f32 z1) ∧ w5.cell? ⟨b, off + k * 4 + 2, none⟩ = some (.float .f32 z2) ∧ w5.cell? ⟨b, off + k * 4 + 3, none⟩ = some (.float .f32 z3) ∧ w5.cell? ⟨b', off' + k * 4, none⟩ = some (.float .f32 z0) ∧ w5.cell? ⟨b', off' + k * 4 + 1, none⟩ = some (.float .f32 z1) ∧ w5.cell? ⟨b', off' + k * 4 + 2, none⟩ = some (.float .f32 z2) ∧ w5.cell? ⟨b', off' + k * 4 + 3, none⟩ = some (.float .f32 z3)) := Lib.hid ⟨((hst.cell (p := ⟨b, off + k * 4, none⟩) (Nat.lt_of_lt_of_le hb hsz)).trans hs0), ((hst.cell (p := ⟨b, off + k * 4 + 1, none⟩) (Nat.lt_of_lt_of_le hb hsz)).trans hs1), ((hst.cell (p := ⟨b, off + k * 4 + 2, none⟩) (Nat.lt_of_lt_of_le hb hsz)).trans hs2), ((hst.cell (p := ⟨b, off + k * 4 + 3, none⟩) (Nat.lt_of_lt_of_le hb hsz)).trans hs3), ((hst.cell (p := ⟨b', off' + k * 4, none⟩) (Nat.lt_of_lt_of_le hb' hsz)).trans ht0), ((hst.cell (p := ⟨b', off' + k * 4 + 1, none⟩) (Nat.lt_of_lt_of_le hb' hsz)).trans ht1), ((hst.cell (p := ⟨b', off' + k * 4 + 2, none⟩) (Nat.lt_of_lt_of_le hb' hsz)).trans ht2), ((hst.cell (p := ⟨b', off' + k * 4 + 3, none⟩) (Nat.lt_of_lt_of_le hb' hsz)).trans ht3)⟩; clear hb5 hst))
      all_goals go_wp2_with fail
      all_goals go_roundw
      all_goals first | exact ⟨k + 1, by omega, by go_num, HB5⟩ | exact ⟨k + 1, by omega, by go_num, Lib.hid HB5.out.drew⟩ | (simp [intOf]; omega)
    · obtain rfl : k = n := by omega
      go_wp2_with fail
      go_ret
      exact ⟨rfl, Hbw.out⟩

set_option maxHeartbeats 2000000 in
theorem eqStormS_nil (a a' : Option Addr) (cap cap' : Nat) (w : World) : Calls Try.prog 50 #[.slice a 0 cap, .slice a' 0 cap'] w fun e w' => e = .returned (.bool true) ∧ Below w.heap.size w w' := by
  go_enter Try.func50, Try.ntmps50
  go_wp2_with fail
  go_loopw [5] (fun i wr => i = .int .i64 0 ∧ wr = w) (fun i _ => 0)
  case atStart => exact ⟨rfl, rfl⟩
  case round =>
    obtain ⟨rfl, rfl⟩ := hrel
    go_wp2_with fail
    go_ret
    exact ⟨rfl, Below.refl _ _⟩
theorem eqStormS_flo (a a' : Option Addr) (cap cap' n : Nat) (zs : List Nat) (w : World) (h : RowC w a (fc zs)) (h' : RowC w a' (fc zs)) (hn : zs.length = n * 4) (hl : n ≤ 1048576) (hz : ∀ z ∈ zs, z < 4294967296) : Calls Try.prog 50 #[.slice a n cap, .slice a' n cap'] w fun e w' => e = .returned (.bool true) ∧ Below w.heap.size w w' := by
  rcases h.flos with rfl | ⟨b, off, rfl, hb, hc⟩
  · obtain rfl : n = 0 := by simp at hn; omega
    exact eqStormS_nil _ _ _ _ w
  · rcases h'.flos with rfl | ⟨b', off', rfl, hb', hc'⟩
    · obtain rfl : n = 0 := by simp at hn; omega
      exact eqStormS_nil _ _ _ _ w
    · exact eqStormS_row b off cap b' off' cap' n zs w hn hb hb' hc hc' hl hz

theorem listKStorm {α : Type} {l : List α} (h : l.length = 4) : ∃ a0 a1 a2 a3, l = [a0, a1, a2, a3] := by
  match l, h with
  | [a0, a1, a2, a3], _ => exact ⟨a0, a1, a2, a3, rfl⟩
theorem open_storms {H : Type} {enc : TypeId × Value → H} {w : World} {base : Nat} {spare : Nat → Bool} {held : Bool} {fuel : Nat} {a : Option Addr} {len cap : Nat} {x : DataW H × List MemPlace} (h : DataW.trod enc Try.prog w base spare held fuel 63 (Value.cells (.slice a len cap)).toList = some x) : ∃ zs, IsRowFS w 4 a len cap zs := by
  have h8 : (Value.cells (.slice a len cap)).toList = [.slice a len cap] := by simp [Value.cells]
  rw [h8] at h
  rcases open_slice Try.underlying63 h with ⟨hcs, _⟩ | ⟨a', len', cap', m, n, D, Pl, hcs, hb, hl, hm, hmm, hx, hi⟩
  · simp at hcs
    obtain ⟨rfl, rfl, rfl⟩ := hcs
    exact ⟨[], rfl, Nat.le_refl _, Nat.zero_le _, .inl rfl, fun z hz => by cases hz⟩
  · simp at hcs
    obtain ⟨rfl, rfl, rfl⟩ := hcs
    have hC : Try.prog.cellsOf 129 = 4 := by kernel_rfl
    have k1 : Try.prog.cellsOf 26 = 1 := by kernel_rfl
    exact isRowFS_of (w := w) (s := 4) (a' := a') (by decide) hl hm (fun q hq => by
      obtain ⟨cs', hc, ht'⟩ := hi (q / 4) (by rw [hmm]; split <;> omega)
      rw [hC] at hc
      obtain ⟨_, hcl, hat⟩ := World.cells?_some hc
      obtain ⟨xs, n', _, _, _, hlen, hg⟩ := DataW.trod_struct Try.underlying129 ht'
      obtain ⟨v0, v1, v2, v3, rfl⟩ := listKStorm hcl
      obtain ⟨y0, y1, y2, y3, rfl⟩ := listKStorm (show xs.length = 4 by simpa using hlen)
      have g0 : DataW.trod enc Try.prog w base spare held n' 26 (([v0, v1, v2, v3].drop 0).take (Try.prog.cellsOf 26)) = some y0 := hg 0 _ rfl
      have g1 : DataW.trod enc Try.prog w base spare held n' 26 (([v0, v1, v2, v3].drop 1).take (Try.prog.cellsOf 26)) = some y1 := hg 1 _ rfl
      have g2 : DataW.trod enc Try.prog w base spare held n' 26 (([v0, v1, v2, v3].drop 2).take (Try.prog.cellsOf 26)) = some y2 := hg 2 _ rfl
      have g3 : DataW.trod enc Try.prog w base spare held n' 26 (([v0, v1, v2, v3].drop 3).take (Try.prog.cellsOf 26)) = some y3 := hg 3 _ rfl
      rw [k1] at g0 g1 g2 g3
      obtain ⟨z0, e0, _, w0⟩ := trod_float (cs := [v0]) Try.underlying26 g0
      obtain rfl : v0 = .float .f32 z0 := by simpa using e0
      obtain ⟨z1, e1, _, w1⟩ := trod_float (cs := [v1]) Try.underlying26 g1
      obtain rfl : v1 = .float .f32 z1 := by simpa using e1
      obtain ⟨z2, e2, _, w2⟩ := trod_float (cs := [v2]) Try.underlying26 g2
      obtain rfl : v2 = .float .f32 z2 := by simpa using e2
      obtain ⟨z3, e3, _, w3⟩ := trod_float (cs := [v3]) Try.underlying26 g3
      obtain rfl : v3 = .float .f32 z3 := by simpa using e3
      have hq4 : q % 4 < 4 := Nat.mod_lt _ (by decide)
      have hqq : q / 4 * 4 + q % 4 = q := by omega
      have hcell := hat (q % 4) hq4
      rw [Go.Deep.add_add, hqq] at hcell
      rcases hj : q % 4 with _ | _ | _ | _ | j
      · rw [hj] at hcell; exact ⟨z0, hcell, w0⟩
      · rw [hj] at hcell; exact ⟨z1, hcell, w1⟩
      · rw [hj] at hcell; exact ⟨z2, hcell, w2⟩
      · rw [hj] at hcell; exact ⟨z3, hcell, w3⟩
      · omega)

theorem szStormS_fits (a : Option Addr) (l c : Nat) (left : Int) (h : (l : Int) ≤ left) (hl : left ≤ 1048576) (w : World) : Calls Try.prog 46 #[.slice a l c, .int .i64 left] w fun e w' => e = .returned (.int .i64 (left - l)) ∧ w = w' := by
  have h2 : ¬ left - (l : Int) < 0 := by omega
  go_enter Try.func46, Try.ntmps46
  go_wp2
  go_ret
  exact ⟨rfl, rfl⟩
theorem szStormS_not (a : Option Addr) (l c : Nat) (left : Int) (h : left < (l : Int)) (h0 : 0 ≤ left) (hl : left ≤ 1048576) (hm : l ≤ 9223372036854775807) (w : World) : Calls Try.prog 46 #[.slice a l c, .int .i64 left] w fun e w' => e = .returned (.int .i64 (-1)) ∧ w = w' := by
  have h2 : left - (l : Int) < 0 := by omega
  go_enter Try.func46, Try.ntmps46
  go_wp2
  go_ret
  exact ⟨rfl, rfl⟩
end Go.Proofs.Ytljehplkdofhpac
