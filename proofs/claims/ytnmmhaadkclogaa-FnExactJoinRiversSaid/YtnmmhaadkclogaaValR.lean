/- Valid rivers: both sides as the law asks. -/
import Derived.Test.YtnmmhaadkclogaaValRI
import Derived.Test.YtnmmhaadkclogaaRivS
namespace Go.Proofs.Ytnmmhaadkclogaa
open Go.RowKit
set_option linter.unusedVariables false
set_option maxRecDepth 100000
attribute [local irreducible] wpV wpList Code.wp
set_option maxHeartbeats 2000000 in
theorem validRiver_s (a0 a1 a2 : Option Addr) (l0 n l2 c0 c1 c2 : Nat) (D M V : List Int) (w : World) (h0 : RowC w a0 (ic D)) (h1 : RowC w a1 (ic M)) (h2 : RowC w a2 (ic V)) (hD : D.length = l0) (hM : M.length = n * 4) (hV : V.length = l2) (hl : l0 ≤ 1048576 ∧ n ≤ 1048576 ∧ l2 ≤ 1048576) :
    Calls Try.prog 16 #[.agg #[.slice a0 l0 c0, .slice a1 n c1, .slice a2 l2 c2]] w (SayB (rivB D M V n) w) := by
  have HC := Lib.hid (l06Is_any w.heap.size a0 a1 a2 l0 n l2 c0 c1 c2 D M V (w.alloc (.cells #[.slice a0 l0 c0, .slice a1 n c1, .slice a2 l2 c2] 30)) (Bx.new w [.slice a0 l0 c0, .slice a1 n c1, .slice a2 l2 c2] _) (h0.below (bel1 _ _) (Nat.le_refl _)) (h1.below (bel1 _ _) (Nat.le_refl _)) (h2.below (bel1 _ _) (Nat.le_refl _)) hD hM hV hl)
  clear h0 h1 h2 hD hM hV hl
  go_enter Try.func16, Try.ntmps16
  go_wp2_with fail
  refine HC.out.mono ?_
  rintro e w' ⟨rfl, m, rfl⟩
  go_wp2_with fail
  go_ret
  exact ⟨_, rfl, rfl, below_drewN (bel1 _ _) _⟩
end Go.Proofs.Ytnmmhaadkclogaa
