/- The walk of the law on FromBits. -/
import Derived.Test.YtpaldmhlcgdmkaaSame
import Derived.Deep.Draws
namespace Go.Proofs.Ytpaldmhlcgdmkaa
open Go.RowKit

set_option maxHeartbeats 400000 in
theorem walk_FnExactFromBits (n : Int) (_ : (Lit.int .i64 n).wf = true) (w : World) :
    Calls Try.prog 9 #[.int .i64 n] w fun e w' => e = .returned (.bool true) ∧ Grown w w' := by
  have hb := fb32_run
  by_cases h : 0 ≤ n ∧ n ≤ 4294967295
  · obtain ⟨h0, h1⟩ := h
    go_enter Try.func9, Try.ntmps9
    go_wp2_with (first | (refine wpList_cvt rfl _ _ _ rfl .f32 .f64 _ rfl (by kernel_rfl) Try.underlying27 (widen_ok _) ?_; intro z n hz) | (go_at_call 38; refine (sameFloat_true _ _ _ (by assumption) (by assumption) _).mono ?_; rintro e w' ⟨rfl, m, rfl⟩) | go_in | go_back)
    all_goals go_ret
    all_goals exact ⟨rfl, Grown.refl _⟩
  · have h' : n < 0 ∨ 4294967295 < n := by omega
    clear h
    rcases h' with h' | h'
    · go_enter Try.func9, Try.ntmps9
      go_wp2_with (first | (refine wpList_cvt rfl _ _ _ rfl .f32 .f64 _ rfl (by kernel_rfl) Try.underlying27 (widen_ok _) ?_; intro z n hz) | (go_at_call 38; refine (sameFloat_true _ _ _ (by assumption) (by assumption) _).mono ?_; rintro e w' ⟨rfl, m, rfl⟩) | go_in | go_back)
      all_goals go_ret
      all_goals exact ⟨rfl, Grown.refl _⟩
    · have hd : decide (n ≤ 4294967295) = false := by simp; omega
      go_enter Try.func9, Try.ntmps9
      go_wp2_with (first | (refine wpList_cvt rfl _ _ _ rfl .f32 .f64 _ rfl (by kernel_rfl) Try.underlying27 (widen_ok _) ?_; intro z n hz) | (go_at_call 38; refine (sameFloat_true _ _ _ (by assumption) (by assumption) _).mono ?_; rintro e w' ⟨rfl, m, rfl⟩) | go_in | go_back)
      all_goals go_ret
      all_goals exact ⟨rfl, Grown.refl _⟩
end Go.Proofs.Ytpaldmhlcgdmkaa
