/- Which cells a hill has: values, both walks. -/
import Derived.Test.YtdpnkpgfepckdaaHillR
import Derived.Test.YtdpnkpgfepckdaaRainA
import Derived.Test.YtdpnkpgfepckdaaIn
import Derived.Deep.QuietTactic
import Derived.Deep.Cut
namespace Go.Proofs.Ytdpnkpgfepckdaa
open Go.RowKit
set_option linter.unusedVariables false
set_option linter.unusedSimpArgs false
set_option maxRecDepth 100000
attribute [local irreducible] wpV wpList Code.wp

def cellB (n i : Int) : Bool := decide (0 ≤ i) && decide (i ≤ n - 1)

theorem cellB_true {n i : Int} (h : cellB n i = true) : 0 ≤ i ∧ i < n := by simp [cellB] at h; omega

theorem valid_len8 {wide high : Int} {zs : List Nat} (h : validB wide high zs = true) : sidesB wide high = true ∧ (zs.length : Int) = wide * high ∧ 1 ≤ zs.length ∧ zs.length ≤ 256 := by
  simp only [validB, Bool.and_eq_true, decide_eq_true_eq] at h
  obtain ⟨⟨h1, h2⟩, h3⟩ := h
  have := mul_bound h1
  exact ⟨h1, h2, by omega, by omega⟩

set_option maxHeartbeats 1000000 in
theorem isCell_any (wide high i : Int) (v : Value) (w : World) (hs : sidesB wide high = true) (hv : ∃ a n c, v = .slice a n c) :
    Calls Try.prog 55 #[.agg #[.int .i64 wide, .int .i64 high, v], .int .i64 i] w fun e w' => e = .returned (.bool (cellB (wide * high) i)) ∧ Below w.heap.size w w' := by
  obtain ⟨av, nv, cv, rfl⟩ := hv
  have hm := mul_bound hs
  have hmul : IntKind.i64.wrap (wide * high) = wide * high := IntWalk.i64_in _ (by omega)
  obtain ⟨m, hme⟩ : ∃ m, wide * high = m := ⟨_, rfl⟩
  rw [hme] at hmul hm ⊢
  clear hs
  unfold cellB
  by_cases h1 : 0 ≤ i
  · by_cases h2 : i < m
    · rw [show (decide (0 ≤ i) && decide (i ≤ m - 1)) = true by rw [decide_eq_true h1, decide_eq_true (by omega : i ≤ m - 1)]; rfl]
      go_enter Try.func55, Try.ntmps55
      go_wp2
      go_ret
      exact ⟨rfl, below1 _ _⟩
    · rw [show (decide (0 ≤ i) && decide (i ≤ m - 1)) = false by rw [decide_eq_false (by omega : ¬ i ≤ m - 1), Bool.and_false]]
      go_enter Try.func55, Try.ntmps55
      go_wp2
      go_ret
      exact ⟨rfl, below1 _ _⟩
  · rw [show (decide (0 ≤ i) && decide (i ≤ m - 1)) = false by rw [decide_eq_false h1, Bool.false_and]]
    go_enter Try.func55, Try.ntmps55
    go_wp2
    go_ret
    exact ⟨rfl, below1 _ _⟩


theorem l02Is_b (b : Nat) (wide high : Int) (a : Option Addr) (cap : Nat) (zs : List Nat) (w : World) (h0 : w.cell? ⟨b, 0, none⟩ = some (.int .i64 wide)) (h1 : w.cell? ⟨b, 1, none⟩ = some (.int .i64 high)) (h2 : w.cell? ⟨b, 2, none⟩ = some (.slice a zs.length cap)) (h : RowF .f32 w a zs) (hl : zs.length ≤ 1048576) (bb : Bool) (hb : validB wide high zs = bb) :
    Calls Try.prog 60 #[.pointer (some ⟨b, 0, none⟩)] w fun e w' => e = .returned (.bool bb) ∧ ∃ n, w' = w.drewN n := hb ▸ l02Is_any b wide high a cap zs w h0 h1 h2 h hl


theorem l00In_b (n lo hi : Int) (w : World) (b : Bool) (hb : (decide (lo ≤ n) && decide (n ≤ hi)) = b) : Calls Try.prog 35 #[.int .i64 n, .int .i64 lo, .int .i64 hi] w fun e w' => e = .returned (.bool b) ∧ w' = w := (l00In_any n lo hi w).mono (by rintro e w' ⟨bb, hbb, rfl, rfl⟩; exact ⟨by rw [← hb, ← hbb], rfl⟩)


set_option maxHeartbeats 2000000 in
theorem l02Has_any (b : Nat) (wide high i : Int) (a : Option Addr) (cap : Nat) (zs : List Nat) (w : World) (h0 : w.cell? ⟨b, 0, none⟩ = some (.int .i64 wide)) (h1 : w.cell? ⟨b, 1, none⟩ = some (.int .i64 high)) (h2 : w.cell? ⟨b, 2, none⟩ = some (.slice a zs.length cap)) (h : RowF .f32 w a zs) (hl : zs.length ≤ 1048576) (hv : validB wide high zs = true) (bb : Bool) (hbb : cellB (wide * high) i = bb) :
    Calls Try.prog 50 #[.pointer (some ⟨b, 0, none⟩), .int .i64 i] w fun e w' => e = .returned (.bool bb) ∧ ∃ n, w' = w.drewN n := by
  have H := Lib.hid h
  have HVl := Lib.hid hv
  have HC := Lib.hid (show (decide (0 ≤ i) && decide (i ≤ wide * high - 1)) = bb from hbb)
  have hm := mul_bound (valid_len8 hv).1
  have hmul : IntKind.i64.wrap (wide * high) = wide * high := IntWalk.i64_in _ (by omega)
  have hsub : IntKind.i64.wrap (wide * high - 1) = wide * high - 1 := IntWalk.i64_in _ (by omega)
  clear h hv hbb
  have HIs : Hid (∀ n, Calls Try.prog 60 #[.pointer (some ⟨b, 0, none⟩)] (w.drewN n) fun e w' => e = .returned (.bool true) ∧ ∃ m, w' = (w.drewN n).drewN m) := Lib.hid fun n => l02Is_b b wide high a cap zs (w.drewN n) h0 h1 h2 (H.out.drewN n) hl true HVl.out
  go_enter Try.func50, Try.ntmps50
  go_wp2_with fail
  go_quiet (first | (go_at_call 60; exact Calls.quiet_of (HIs.out _)) | (go_at_call 35; exact Calls.quiet_of_same (l00In_b _ _ _ _ _ HC.out)))
  go_wp2_with fail
  go_ret
  exact ⟨rfl, _, rfl⟩


set_option maxHeartbeats 2000000 in
theorem l02Has_no (b : Nat) (wide high i : Int) (a : Option Addr) (cap : Nat) (zs : List Nat) (w : World) (h0 : w.cell? ⟨b, 0, none⟩ = some (.int .i64 wide)) (h1 : w.cell? ⟨b, 1, none⟩ = some (.int .i64 high)) (h2 : w.cell? ⟨b, 2, none⟩ = some (.slice a zs.length cap)) (h : RowF .f32 w a zs) (hl : zs.length ≤ 1048576) (hv : validB wide high zs = false) :
    Calls Try.prog 50 #[.pointer (some ⟨b, 0, none⟩), .int .i64 i] w fun e w' => e = .returned (.bool false) ∧ ∃ n, w' = w.drewN n := by
  have H := Lib.hid h
  have HVl := Lib.hid hv
  clear h hv
  have HIs : Hid (∀ n, Calls Try.prog 60 #[.pointer (some ⟨b, 0, none⟩)] (w.drewN n) fun e w' => e = .returned (.bool false) ∧ ∃ m, w' = (w.drewN n).drewN m) := Lib.hid fun n => l02Is_b b wide high a cap zs (w.drewN n) h0 h1 h2 (H.out.drewN n) hl false HVl.out
  go_enter Try.func50, Try.ntmps50
  go_wp2_with fail
  go_quiet ((go_at_call 60; exact Calls.quiet_of (HIs.out _)))
  go_wp2_with fail
  go_ret
  exact ⟨rfl, _, rfl⟩


end Go.Proofs.Ytdpnkpgfepckdaa
