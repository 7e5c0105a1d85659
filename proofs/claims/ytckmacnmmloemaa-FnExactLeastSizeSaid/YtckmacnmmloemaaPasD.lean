/- A dam behind a day: the program. -/
import Derived.Test.YtckmacnmmloemaaDayV
import Derived.Test.YtckmacnmmloemaaBoxG
import Derived.Lib.MinMax
import Derived.Deep.RegionHeld3
namespace Go.Proofs.Ytckmacnmmloemaa
open Go.RowKit
set_option linter.unusedVariables false
set_option linter.unusedSimpArgs false
set_option maxRecDepth 100000
attribute [local irreducible] wpV wpList Code.wp
theorem wrap_w64 (z : Int) : IntKind.i64.wrap z = wrap64 z := by unfold wrap64; rw [IntKind.wrap_i64]
set_option maxHeartbeats 4000000 in
theorem passDam_any (s d l q v c : Int) (w : World) :
    Calls Try.prog 105 #[.agg #[.int .i64 s, .int .i64 d, .int .i64 l, .int .i64 q], .int .i64 v, .int .i64 c] w fun e w' => e = .returned (.tuple #[.agg #[.int .i64 s, .int .i64 d, .int .i64 l, .int .i64 (dayN s d l q v c)], .int .i64 (dayG d q v c), .int .i64 (dayL s d l q v c)]) ∧ Below w.heap.size w w' := by
  obtain ⟨g, hg⟩ : ∃ g, dayG d q v c = g := ⟨_, rfl⟩
  obtain ⟨x, hx⟩ : ∃ x, dayE d l q v c = x := ⟨_, rfl⟩
  obtain ⟨y, hy⟩ : ∃ y, dayF d l q v c = y := ⟨_, rfl⟩
  obtain ⟨n, hn⟩ : ∃ n, dayN s d l q v c = n := ⟨_, rfl⟩
  have hL : dayL s d l q v c = wrap64 (wrap64 (x + y) - n) := by
    rw [← hx, ← hy, ← hn]
    exact (leaves_eq (dayX d q v c) (dayE d l q v c) (dayN s d l q v c)).symm
  rw [hg, hn, hL]
  have HG : Hid (min v (max (wrap64 (wrap64 (c + q) - d)) 0) = g) := Lib.hid hg
  have HX : Hid (min l (max (wrap64 (wrap64 (wrap64 (c + q) - g) - d)) 0) = x) := Lib.hid (by rw [← hg]; exact hx)
  have HY : Hid (wrap64 (wrap64 (wrap64 (c + q) - g) - x) = y) := Lib.hid (by rw [← hg, ← hx]; exact hy)
  have HN : Hid (min y s = n) := Lib.hid (by rw [← hy]; exact hn)
  clear hg hx hy hn hL
  go_enter Try.func105, Try.ntmps105
  go_wp2_with fail
  simp only [HG.out]
  simp only [HX.out]
  simp only [HY.out]
  simp only [HN.out]
  obtain ⟨W9, hW9⟩ : ∃ W, (w.alloc (.cells #[.int .i64 s, .int .i64 d, .int .i64 l, .int .i64 n] 98)).alloc (.cells #[.int .i64 0, .int .i64 0, .int .i64 0, .int .i64 0] 98) = W := ⟨_, rfl⟩
  have HB : Hid (Bw W9 w.heap.size [.int .i64 s, .int .i64 d, .int .i64 l, .int .i64 n]) := Lib.hid (by rw [← hW9]; exact (Bw.new w [.int .i64 s, .int .i64 d, .int .i64 l, .int .i64 n] _).alloc _)
  have HP : Hid (Bw W9 (w.heap.size + 1) [.int .i64 0, .int .i64 0, .int .i64 0, .int .i64 0]) := Lib.hid (by rw [← hW9]; exact Bw.new1G w _ [.int .i64 0, .int .i64 0, .int .i64 0, .int .i64 0] _)
  have HW : Hid (Below w.heap.size w W9) := Lib.hid (by rw [← hW9]; exact below2 w _ _)
  rw [hW9]
  clear hW9
  have k0 := HB.out.c 0 rfl
  have q0 := HP.out.c 0 rfl
  have f0 := HP.out.f 0 (by simp)
  have k1 := HB.out.c 1 rfl
  have q1 := HP.out.c 1 rfl
  have f1 := HP.out.f 1 (by simp)
  have k2 := HB.out.c 2 rfl
  have q2 := HP.out.c 2 rfl
  have f2 := HP.out.f 2 (by simp)
  have k3 := HB.out.c 3 rfl
  have q3 := HP.out.c 3 rfl
  have f3 := HP.out.f 3 (by simp)
  go_region_held3 (fun W => W.cell? ⟨w.heap.size, 0, none⟩ = some (.int .i64 s) ∧ W.cell? ⟨w.heap.size, 1, none⟩ = some (.int .i64 d) ∧ W.cell? ⟨w.heap.size, 2, none⟩ = some (.int .i64 l) ∧ W.cell? ⟨w.heap.size, 3, none⟩ = some (.int .i64 n))
    (first | exact ⟨k0, k1, k2, k3⟩ | exact ⟨by simp [go_sem, k0], by simp [go_sem, k1], by simp [go_sem, k2], by simp [go_sem, k3]⟩)
    (fail)
  all_goals go_wp2_with fail
  all_goals exact bodyPost_ret (v := .tuple #[.agg #[.int .i64 s, .int .i64 d, .int .i64 l, .int .i64 n], .int .i64 g, .int .i64 (IntKind.i64.wrap (IntKind.i64.wrap (x + y) - n))]) (by first | (simp [results, Try.results105, go_sem, q0, f0, q1, f1, q2, f2, q3, f3]; done) | (simp (maxDischargeDepth := 12) [results, Try.results105, go_sem, q0, f0, q1, f1, q2, f2, q3, f3]; done)) rfl ⟨by rw [wrap_w64, wrap_w64], by repeat (first | with_reducible exact HW.out | with_reducible refine beld ?_ _ | with_reducible refine Below.drew ?_ | (with_reducible refine Below.alloc ?_ ?_ _; rotate_left; exact (by first | (simp; done) | (simp; omega))) | (with_reducible refine Below.setCell ?_ ?_ _; rotate_left; exact Nat.le_succ _))⟩
end Go.Proofs.Ytckmacnmmloemaa
