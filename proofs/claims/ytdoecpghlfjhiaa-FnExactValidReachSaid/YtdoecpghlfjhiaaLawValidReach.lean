/- The walk of the law on ValidReach. -/
import Derived.Test.YtdoecpghlfjhiaaReachA
import Derived.Test.YtdoecpghlfjhiaaTo
import Derived.Test.YtdoecpghlfjhiaaSame
namespace Go.Proofs.Ytdoecpghlfjhiaa
open Go.RowKit
set_option linter.unusedVariables false
set_option linter.unusedSimpArgs false
attribute [local irreducible] wpV wpList Code.wp

set_option maxRecDepth 100000 in
set_option maxHeartbeats 8000000 in
theorem walk_FnExactValidReach (a0 a1 : Nat) (ha0 : a0 < 4294967296) (ha1 : a1 < 4294967296) (w : World) :
    Calls Try.prog 3 #[.agg #[.float .f32 a0, .float .f32 a1]] w fun e w' => e = .returned (.bool true) ∧ Below w.heap.size w w' := by
  obtain ⟨B, hR⟩ : ∃ B : Bool, (reachO (some a0) (some a1)) = B := ⟨_, rfl⟩
  have cS : ∀ W : World, Calls Try.prog 15 #[.agg #[.float .f32 a0, .float .f32 a1]] W (SayB B W) := fun W => by have := validReach_s W (Is32.c ha0) (Is32.c ha1); rw [hR] at this; exact this
  have cI : ∀ W : World, Calls Try.prog 17 #[.agg #[.float .f32 a0, .float .f32 a1]] W (SayB B W) := fun W => by have := validReach_i W (Is32.c ha0) (Is32.c ha1); rw [hR] at this; exact this
  have HS := Lib.hid cS
  have HI := Lib.hid cI
  clear cS cI hR
  cases B
  all_goals
    go_enter Try.func3, Try.ntmps3
    go_wp2_with (first | ((with_reducible refine wpList_cv ?_); refine wpList_widen rfl _ _ _ rfl rfl (by kernel_rfl) Try.underlying32 (by assumption) ?_; intro y q hy) | (go_at_call 16; refine (toReach_o _ _  _).mono ?_; rintro e w1 ⟨rfl, hb⟩; have hb9 : Below w.heap.size w w1 := (by first | exact HB.out.trans (hb.mono (by first | omega | (simp; omega))) | exact (beld HB.out _).trans (hb.mono (by first | omega | (simp; omega))) | exact (bel1 _ _ ).trans (hb.mono (by first | (simp; done) | (simp; omega)))); have hs9 : w.heap.size + 1 ≤ w1.heap.size := (by have := hb.size; (try simp at this); omega); have bx0 : Bx w1 (w.heap.size) [.float .f32 a0, .float .f32 a1] := (by first | exact Bx.below BX0.out hb (by first | omega | (simp; omega)) | exact Bx.below (Bx.drewN BX0.out _) hb (by first | omega | (simp; omega)) | exact Bx.below (Bx.new w [.float .f32 a0, .float .f32 a1] _) hb (by first | (simp; done) | (simp; omega))); (try clear HB); (try clear BX0); (try clear hs); (try clear ca0); (try clear ca1); have ca0 := bx0.c 0 rfl; have ca1 := bx0.c 1 rfl; have BX0 := Lib.hid bx0; clear bx0; have HB := Lib.hid hb9; have hs := hs9; clear hb hb9 hs9) | (go_at_call 15; refine (HS.out _).mono ?_; rintro e w1 ⟨b, rfl, rfl, hb⟩; have hb9 : Below w.heap.size w w1 := (by first | exact HB.out.trans (hb.mono (by first | omega | (simp; omega))) | exact (beld HB.out _).trans (hb.mono (by first | omega | (simp; omega))) | exact (bel1 _ _ ).trans (hb.mono (by first | (simp; done) | (simp; omega)))); have hs9 : w.heap.size + 1 ≤ w1.heap.size := (by have := hb.size; (try simp at this); omega); have bx0 : Bx w1 (w.heap.size) [.float .f32 a0, .float .f32 a1] := (by first | exact Bx.below BX0.out hb (by first | omega | (simp; omega)) | exact Bx.below (Bx.drewN BX0.out _) hb (by first | omega | (simp; omega)) | exact Bx.below (Bx.new w [.float .f32 a0, .float .f32 a1] _) hb (by first | (simp; done) | (simp; omega))); (try clear HB); (try clear BX0); (try clear hs); (try clear ca0); (try clear ca1); have ca0 := bx0.c 0 rfl; have ca1 := bx0.c 1 rfl; have BX0 := Lib.hid bx0; clear bx0; have HB := Lib.hid hb9; have hs := hs9; clear hb hb9 hs9) | (go_at_call 17; refine (HI.out _).mono ?_; rintro e w1 ⟨b, rfl, rfl, hb⟩; have hb9 : Below w.heap.size w w1 := (by first | exact HB.out.trans (hb.mono (by first | omega | (simp; omega))) | exact (beld HB.out _).trans (hb.mono (by first | omega | (simp; omega))) | exact (bel1 _ _ ).trans (hb.mono (by first | (simp; done) | (simp; omega)))); have hs9 : w.heap.size + 1 ≤ w1.heap.size := (by have := hb.size; (try simp at this); omega); have bx0 : Bx w1 (w.heap.size) [.float .f32 a0, .float .f32 a1] := (by first | exact Bx.below BX0.out hb (by first | omega | (simp; omega)) | exact Bx.below (Bx.drewN BX0.out _) hb (by first | omega | (simp; omega)) | exact Bx.below (Bx.new w [.float .f32 a0, .float .f32 a1] _) hb (by first | (simp; done) | (simp; omega))); (try clear HB); (try clear BX0); (try clear hs); (try clear ca0); (try clear ca1); have ca0 := bx0.c 0 rfl; have ca1 := bx0.c 1 rfl; have BX0 := Lib.hid bx0; clear bx0; have HB := Lib.hid hb9; have hs := hs9; clear hb hb9 hs9) | (go_at_call 20; refine (sameFloat_true _ _ _ (by assumption) (by assumption) _).mono ?_; rintro e w' ⟨rfl, n3, rfl⟩))
    go_ret
    exact ⟨rfl, by first | exact HB.out | exact beld HB.out _⟩
end Go.Proofs.Ytdoecpghlfjhiaa
