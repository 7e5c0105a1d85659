/- The walk of the law on FloodOf. -/
import Derived.Test.YtdmcjloaommnpaaFlood
import Derived.Test.YtdmcjloaommnpaaTo
import Derived.Test.YtdmcjloaommnpaaSame
namespace Go.Proofs.Ytdmcjloaommnpaa
open Go.RowKit
set_option linter.unusedVariables false
set_option linter.unusedSimpArgs false
attribute [local irreducible] wpV wpList Code.wp

set_option maxRecDepth 100000 in
set_option maxHeartbeats 8000000 in
theorem walk_FnExactFloodOf (p s y : Nat) (hp : p < 4294967296) (hs : s < 4294967296) (hy : y < 4294967296) (w : World) :
    Calls Try.prog 4 #[.float .f32 p, .float .f32 s, .float .f32 y] w fun e w' => e = .returned (.bool true) ∧ Below w.heap.size w w' := by
  obtain ⟨⟨O, B⟩, hR⟩ : ∃ R : Option Nat × Bool, floodO (some p) (some s) (some y) = R := ⟨_, rfl⟩
  have cS : ∀ W : World, Calls Try.prog 19 #[.float .f32 p, .float .f32 s, .float .f32 y] W (OnlyB (O, B) W) := fun W => by have := floodOf_s W (Is32.c hp) (Is32.c hs) (Is32.c hy); rw [hR] at this; exact this
  have cI : ∀ W : World, Calls Try.prog 20 #[.float .f32 p, .float .f32 s, .float .f32 y] W (OnlyB (O, B) W) := fun W => by have := floodOf_i W (Is32.c hp) (Is32.c hs) (Is32.c hy); rw [hR] at this; exact this
  have HS := Lib.hid cS
  have HI := Lib.hid cI
  clear cS cI hR
  cases B
  all_goals
    go_enter Try.func4, Try.ntmps4
    go_wp2_with (first | ((with_reducible refine wpList_cv ?_); refine wpList_widen rfl _ _ _ rfl rfl (by kernel_rfl) Try.underlying30 (by assumption) ?_; intro y q hy) | (go_at_call 19; refine (HS.out _).mono ?_; rintro e w1 ⟨z, b, rfl, rfl, hz, hb⟩; have hb9 : Below w.heap.size w w1 := (by first | exact HB.out.trans (hb.mono (by first | omega | (simp; omega))) | exact (beld HB.out _).trans (hb.mono (by first | omega | (simp; omega))) | exact (Below.refl _ _).trans (hb.mono (by first | (simp; done) | (simp; omega)))); have hs9 : w.heap.size + 0 ≤ w1.heap.size := (by have := hb.size; (try simp at this); omega); (try clear HB); (try clear hs); have HB := Lib.hid hb9; have hs := hs9; clear hb hb9 hs9) | (go_at_call 20; refine (HI.out _).mono ?_; rintro e w1 ⟨z, b, rfl, rfl, hz, hb⟩; have hb9 : Below w.heap.size w w1 := (by first | exact HB.out.trans (hb.mono (by first | omega | (simp; omega))) | exact (beld HB.out _).trans (hb.mono (by first | omega | (simp; omega))) | exact (Below.refl _ _).trans (hb.mono (by first | (simp; done) | (simp; omega)))); have hs9 : w.heap.size + 0 ≤ w1.heap.size := (by have := hb.size; (try simp at this); omega); (try clear HB); (try clear hs); have HB := Lib.hid hb9; have hs := hs9; clear hb hb9 hs9) | (go_at_call 21; refine (sameFloat_true _ _ _ (by assumption) (by assumption) _).mono ?_; rintro e w' ⟨rfl, n3, rfl⟩))
    go_ret
    exact ⟨rfl, by first | exact HB.out | exact beld HB.out _⟩
end Go.Proofs.Ytdmcjloaommnpaa
