/- A number between bounds. -/
import Derived.Test.YtdmcjloaommnpaaRainA
namespace Go.Proofs.Ytdmcjloaommnpaa
open Go.RowKit
set_option linter.unusedVariables false
set_option linter.unusedSimpArgs false

set_option maxHeartbeats 1000000 in
theorem l00In_any (n lo hi : Int) (w : World) : Calls Try.prog 75 #[.int .i64 n, .int .i64 lo, .int .i64 hi] w (SayS (decide (lo ≤ n) && decide (n ≤ hi)) w) := by
  by_cases h1 : lo ≤ n
  · by_cases h2 : n ≤ hi
    · go_enter Try.func75, Try.ntmps75
      go_wp2
      go_ret
      exact ⟨_, by simp [h1, h2], rfl, rfl⟩
    · have h3 : ¬ n ≤ hi := h2
      go_enter Try.func75, Try.ntmps75
      go_wp2
      go_ret
      exact ⟨_, by simp [h1, h2], rfl, rfl⟩
  · go_enter Try.func75, Try.ntmps75
    go_wp2
    go_ret
    exact ⟨_, by rw [decide_eq_false (by omega), Bool.false_and], rfl, rfl⟩
end Go.Proofs.Ytdmcjloaommnpaa
