/- The walk of the law on PipeLoss. -/
import Derived.Test.YtgjgggclcmcpgacPipe
import Derived.Test.YtgjgggclcmcpgacTo
import Derived.Test.YtgjgggclcmcpgacSame
namespace Go.Proofs.Ytgjgggclcmcpgac
open Go.RowKit
set_option linter.unusedVariables false
set_option linter.unusedSimpArgs false
attribute [local irreducible] wpV wpList Code.wp

set_option maxRecDepth 100000 in
set_option maxHeartbeats 8000000 in
theorem walk_FnExactPipeLoss (f i l r : Nat) (hf : f < 4294967296) (hi : i < 4294967296) (hl : l < 4294967296) (hr : r < 4294967296) (w : World) :
    Calls Try.prog 6 #[.float .f32 f, .float .f32 i, .float .f32 l, .float .f32 r] w fun e w' => e = .returned (.bool true) ∧ Below w.heap.size w w' := by
  obtain ⟨⟨O, B⟩, hR⟩ : ∃ R : Option Nat × Bool, lossO (some f) (some i) (some l) (some r) = R := ⟨_, rfl⟩
  have cS : ∀ W : World, Calls Try.prog 22 #[.float .f32 f, .float .f32 i, .float .f32 l, .float .f32 r] W (OnlyB (O, B) W) := fun W => by have := pipeLoss_s W (Is32.c hf) (Is32.c hi) (Is32.c hl) (Is32.c hr); rw [hR] at this; exact this
  have cI : ∀ W : World, Calls Try.prog 23 #[.float .f32 f, .float .f32 i, .float .f32 l, .float .f32 r] W (OnlyB (O, B) W) := fun W => by have := pipeLoss_i W (Is32.c hf) (Is32.c hi) (Is32.c hl) (Is32.c hr); rw [hR] at this; exact this
  have HS := Lib.hid cS
  have HI := Lib.hid cI
  clear cS cI hR
  cases B
  all_goals
    go_enter Try.func6, Try.ntmps6
    go_wp2_with (first | ((with_reducible refine wpList_cv ?_); refine wpList_widen rfl _ _ _ rfl rfl (by kernel_rfl) Try.underlying26 (by assumption) ?_; intro y q hy) | (go_at_call 22; refine (HS.out _).mono ?_; rintro e w1 ⟨z, b, rfl, rfl, hz, hb⟩; have hb9 : Below w.heap.size w w1 := (by first | exact HB.out.trans (hb.mono (by first | omega | (simp; omega))) | exact (beld HB.out _).trans (hb.mono (by first | omega | (simp; omega))) | exact (Below.refl _ _).trans (hb.mono (by first | (simp; done) | (simp; omega)))); have hs9 : w.heap.size + 0 ≤ w1.heap.size := (by have := hb.size; (try simp at this); omega); (try clear HB); (try clear hs); have HB := Lib.hid hb9; have hs := hs9; clear hb hb9 hs9) | (go_at_call 23; refine (HI.out _).mono ?_; rintro e w1 ⟨z, b, rfl, rfl, hz, hb⟩; have hb9 : Below w.heap.size w w1 := (by first | exact HB.out.trans (hb.mono (by first | omega | (simp; omega))) | exact (beld HB.out _).trans (hb.mono (by first | omega | (simp; omega))) | exact (Below.refl _ _).trans (hb.mono (by first | (simp; done) | (simp; omega)))); have hs9 : w.heap.size + 0 ≤ w1.heap.size := (by have := hb.size; (try simp at this); omega); (try clear HB); (try clear hs); have HB := Lib.hid hb9; have hs := hs9; clear hb hb9 hs9) | (go_at_call 17; refine (sameFloat_true _ _ _ (by assumption) (by assumption) _).mono ?_; rintro e w' ⟨rfl, n3, rfl⟩))
    go_ret
    exact ⟨rfl, by first | exact HB.out | exact beld HB.out _⟩
end Go.Proofs.Ytgjgggclcmcpgac
