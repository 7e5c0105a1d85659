/- The walk of the law on IsFinite. -/
import Derived.Test.YtpaldmhlcgdmkaaFinite
import Derived.RowKit3
namespace Go.Proofs.Ytpaldmhlcgdmkaa
open Go.RowKit
set_option maxHeartbeats 400000 in
theorem walk_FnExactIsFinite (x : Nat) (hx : x < 4294967296) (w : World) :
    Calls Try.prog 7 #[.float .f32 x] w fun e w' => e = .returned (.bool true) ∧ Grown w w' := by
  go_enter Try.func7, Try.ntmps7
  go_wp2_with (first | (go_at_call 62; refine (l01Finite_any x _).mono ?_; rintro e w' ⟨rfl, n, rfl⟩) | (go_at_call 33; refine (isFinite_any x hx _).mono ?_; rintro e w' ⟨rfl, rfl⟩) | go_in | go_back)
  all_goals go_ret
  all_goals exact ⟨rfl, Grown.refl _⟩
end Go.Proofs.Ytpaldmhlcgdmkaa
