/- The walk of the law on ValidHill. -/
import Derived.Test.YtfdcfalkidcdnacIs
import Derived.Deep.RegionHeld3
namespace Go.Proofs.Ytfdcfalkidcdnac
open Go.RowKit

set_option maxHeartbeats 1000000 in
theorem validLaw_fits (wide high : Int) (a : Option Addr) (cap : Nat) (zs : List Nat) (w : World) (hr : RowF .f32 w a zs) (hz : ∀ z ∈ zs, z < 4294967296) (hl : zs.length ≤ 1048576) :
    Calls Try.prog 10 #[.agg #[.int .i64 wide, .int .i64 high, .slice a zs.length cap]] w fun e w' => e = .returned (.bool true) ∧ Below w.heap.size w w' := by
  have H0 := Lib.hid hr
  have Hz := Lib.hid hz
  clear hr hz
  go_enter Try.func10, Try.ntmps10
  go_wp2_with fail
  refine (szHill_fits wide high a zs.length cap _ (by omega) (by omega) _).mono ?_
  rintro e w1 ⟨rfl, hb1⟩
  have hs1 : w.heap.size + 1 ≤ w1.heap.size := by have := hb1.size; simpa using this
  have Hb1 := Lib.hid ((below1 _ _).trans (hb1.mono (by simp)) : Below w.heap.size w w1)
  have HA1 := Lib.hid ((BoxH.new w wide high (.slice a zs.length cap) 33).below hb1 (by simp))
  clear hb1
  obtain ⟨c0, c1, c2, _⟩ := HA1.out
  go_wp2_with fail
  refine (toHill_any wide high a cap zs _ (H0.out.below Hb1.out (Nat.le_refl _)) hl).mono ?_
  rintro e w2 ⟨a2, cap2, rfl, hb2, hf2⟩
  have hs2 : w1.heap.size ≤ w2.heap.size := hb2.size
  have Hb2 := Lib.hid (Hb1.out.trans (hb2.mono (by omega)) : Below w.heap.size w w2)
  have HA2 := Lib.hid (HA1.out.below hb2 (by omega))
  have Hf2 := Lib.hid hf2
  clear hb2 hf2 c0 c1 c2
  obtain ⟨c0, c1, c2, _⟩ := HA2.out
  go_wp2_with fail
  refine (validSpec_any wide high a2 cap2 zs _ Hf2.out.row hl).mono ?_
  rintro e w3 ⟨rfl, hb3⟩
  have hs3 : w2.heap.size ≤ w3.heap.size := hb3.size
  have Hb3 := Lib.hid (Hb2.out.trans (hb3.mono (by omega)) : Below w.heap.size w w3)
  have HA3 := Lib.hid (HA2.out.below hb3 (by omega))
  clear hb3 c0 c1 c2
  obtain ⟨c0, c1, c2, _⟩ := HA3.out
  go_wp2_with fail
  refine (toHill_any wide high a cap zs _ (H0.out.below Hb3.out (Nat.le_refl _)) hl).mono ?_
  rintro e w4 ⟨a4, cap4, rfl, hb4, hf4⟩
  have hs4 : w3.heap.size ≤ w4.heap.size := hb4.size
  have Hb4 := Lib.hid (Hb3.out.trans (hb4.mono (by omega)) : Below w.heap.size w w4)
  have HA4 := Lib.hid (HA3.out.below hb4 (by omega))
  have Hf4 := Lib.hid hf4
  clear hb4 hf4 c0 c1 c2
  obtain ⟨c0, c1, c2, _⟩ := HA4.out
  go_wp2_with fail
  refine (validHill_any wide high a4 cap4 zs _ (by exact (Hf4.out.alloc _).row) hl Hz.out).mono ?_
  rintro e w5 ⟨rfl, hb5⟩
  have hs5 : w4.heap.size + 1 ≤ w5.heap.size := by have := hb5.size; simpa using this
  have Hb5 := Lib.hid ((Hb4.out.alloc (by omega) _).trans (hb5.mono (by simp; omega)) : Below w.heap.size w w5)
  have HA5 := Lib.hid (HA4.out.below ((below1 _ _).trans (hb5.mono (by simp))) (by omega))
  have HX5 := Lib.hid ((BoxH.new w4 wide high (.slice a4 zs.length cap4) 25).below hb5 (by simp))
  have Hf5 := Lib.hid ((Hf4.out.alloc _).below hb5 (by simp))
  clear hb5 c0 c1 c2
  obtain ⟨c0, c1, c2, _⟩ := HA5.out
  obtain ⟨x0, x1, x2, _⟩ := HX5.out
  have H05 := Lib.hid (H0.out.below Hb5.out (Nat.le_refl _))
  go_wp2_with fail
  go_region_held3 (fun w' => w'.cell? ⟨w.heap.size, 0, none⟩ = some (.int .i64 wide) ∧ w'.cell? ⟨w.heap.size, 1, none⟩ = some (.int .i64 high) ∧ w'.cell? ⟨w.heap.size, 2, none⟩ = some (.slice a zs.length cap) ∧ w'.cell? ⟨w4.heap.size, 0, none⟩ = some (.int .i64 wide) ∧ w'.cell? ⟨w4.heap.size, 1, none⟩ = some (.int .i64 high) ∧ w'.cell? ⟨w4.heap.size, 2, none⟩ = some (.slice a4 zs.length cap4))
    (first | exact ⟨c0, c1, c2, x0, x1, x2⟩ | exact ⟨HA7.out.1, HA7.out.2.1, HA7.out.2.2.1, HX7.out.1, HX7.out.2.1, HX7.out.2.2.1⟩ | exact ⟨HA6.out.1, HA6.out.2.1, HA6.out.2.2.1, HX6.out.1, HX6.out.2.1, HX6.out.2.2.1⟩)
    (first | (go_at_call 24; refine (toHill_any wide high a cap zs _ (by exact H05.out) hl).mono ?_; rintro e w6 ⟨a6, cap6, rfl, hb6, hf6⟩; have hs6 : w5.heap.size ≤ w6.heap.size := hb6.size; have Hb6 := Lib.hid (Hb5.out.trans (((below_drewN (Below.refl w5.heap.size w5) 1).trans hb6).mono (by omega)) : Below w.heap.size w w6); have HA6 := Lib.hid (BoxH.below (w := w5.drew) HA5.out hb6 (by show _ < w5.heap.size; omega)); have HX6 := Lib.hid (BoxH.below (w := w5.drew) HX5.out hb6 (by show _ < w5.heap.size; omega)); have Hf56 := Lib.hid (FRow.below (w := w5.drew) Hf5.out hb6 (by show _ ≤ w5.heap.size; omega)); have Hf6 := Lib.hid hf6; clear hb6 hf6) | (go_at_call 17; refine (eqHill_any wide high a4 a6 cap4 cap6 zs _ Hf56.out.row Hf6.out.row hl).mono ?_; rintro e w7 ⟨rfl, hb7⟩; have Hb7 := Lib.hid (Hb6.out.trans (hb7.mono (by omega)) : Below w.heap.size w w7); have HA7 := Lib.hid (HA6.out.below hb7 (by omega)); have HX7 := Lib.hid (HX6.out.below hb7 (by omega)); clear hb7))
  go_wp2_with fail
  go_ret
  exact ⟨rfl, Hb7.out⟩

set_option maxHeartbeats 1000000 in
theorem walk_FnExactValidHill (wide high : Int) (a : Option Addr) (len cap : Nat) (zs : List Nat) (w : World) (_hw : (Lit.int .i64 wide).wf = true) (_hh : (Lit.int .i64 high).wf = true) (h : IsRowF .f32 w a len cap zs) :
    Calls Try.prog 10 #[.agg #[.int .i64 wide, .int .i64 high, .slice a len cap]] w fun e w' => e = .returned (.bool true) ∧ Below w.heap.size w w' := by
  obtain ⟨rfl, hcap, hmax, hr, hz⟩ := h
  by_cases hl : zs.length ≤ 1048576
  · exact validLaw_fits wide high a cap zs w hr hz hl
  · unfold maxLen at hmax
    clear hr hz
    go_enter Try.func10, Try.ntmps10
    go_wp2_with fail
    refine (szHill_not wide high a zs.length cap _ (by omega) (by omega) (by omega) _).mono ?_
    rintro e w1 ⟨rfl, hb1⟩
    have Hb1 := Lib.hid ((below1 _ _).trans (hb1.mono (by simp)) : Below w.heap.size w w1)
    clear hb1
    go_wp2_with fail
    go_ret
    exact ⟨rfl, Hb1.out⟩
end Go.Proofs.Ytfdcfalkidcdnac
