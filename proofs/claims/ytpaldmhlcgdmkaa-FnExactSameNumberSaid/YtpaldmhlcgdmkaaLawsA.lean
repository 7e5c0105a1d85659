/- Walks of the laws on bits: each returns true. -/
import Derived.Test.YtpaldmhlcgdmkaaBits
import Derived.RowKit3
namespace Go.Proofs.Ytpaldmhlcgdmkaa
open Go.RowKit

theorem grown_drewN {W w : World} (h : Grown W w) (n : Nat) : Grown W (w.drewN n) := h

set_option maxHeartbeats 400000 in
theorem walk_FnExactBitsOf (x : Nat) (hx : x < 4294967296) (w : World) :
    Calls Try.prog 8 #[.float .f32 x] w fun e w' => e = .returned (.bool true) ∧ Grown w w' := by
  go_enter Try.func8, Try.ntmps8
  go_wp2_with (first | (go_at_call 64; refine (bits_no x _ hx _ (.inl rfl)).mono ?_; rintro e w' ⟨rfl, rfl⟩) | (go_at_call 35; refine (bits_no x _ hx _ (.inr rfl)).mono ?_; rintro e w' ⟨rfl, rfl⟩) | go_in | go_back)
  all_goals go_ret
  all_goals exact ⟨rfl, Grown.refl _⟩

set_option maxHeartbeats 400000 in
theorem same_any (x y : Nat) (hx : x < 4294967296) (hy : y < 4294967296) (w : World) (F : FuncId) (hF : F = 52 ∨ F = 31) :
    Calls Try.prog F #[.float .f32 x, .float .f32 y] w fun e w' => e = .returned (.bool (bitsI x == bitsI y)) ∧ w = w' := by
  rcases hF with rfl | rfl
  · go_enter Try.func52, Try.ntmps52
    go_wp2_with fail
    refine (bits_no x _ hx _ (.inl rfl)).mono ?_; rintro e w' ⟨rfl, rfl⟩
    go_wp2_with fail
    refine (bits_no y _ hy _ (.inl rfl)).mono ?_; rintro e w' ⟨rfl, rfl⟩
    go_wp2_with fail
    go_ret
    exact ⟨rfl, rfl⟩
  · go_enter Try.func31, Try.ntmps31
    go_wp2_with fail
    refine (bits_no x _ hx _ (.inr rfl)).mono ?_; rintro e w' ⟨rfl, rfl⟩
    go_wp2_with fail
    refine (bits_no y _ hy _ (.inr rfl)).mono ?_; rintro e w' ⟨rfl, rfl⟩
    go_wp2_with fail
    go_ret
    exact ⟨rfl, rfl⟩

set_option maxHeartbeats 400000 in
theorem walk_FnExactSameNumber (x y : Nat) (hx : x < 4294967296) (hy : y < 4294967296) (w : World) :
    Calls Try.prog 6 #[.float .f32 x, .float .f32 y] w fun e w' => e = .returned (.bool true) ∧ Grown w w' := by
  go_enter Try.func6, Try.ntmps6
  go_wp2_with (first | (go_at_call 52; refine (same_any x y hx hy _ _ (.inl rfl)).mono ?_; rintro e w' ⟨rfl, rfl⟩) | (go_at_call 31; refine (same_any x y hx hy _ _ (.inr rfl)).mono ?_; rintro e w' ⟨rfl, rfl⟩) | go_in | go_back)
  all_goals go_ret
  all_goals exact ⟨rfl, Grown.refl _⟩

end Go.Proofs.Ytpaldmhlcgdmkaa
