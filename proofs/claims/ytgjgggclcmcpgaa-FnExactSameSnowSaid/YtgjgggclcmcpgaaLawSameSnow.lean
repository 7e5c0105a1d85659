/- The walk of the law on SameSnow. -/
import Derived.Test.YtgjgggclcmcpgaaSameSnow
import Derived.Test.YtgjgggclcmcpgaaTo
import Derived.Test.YtgjgggclcmcpgaaSame
namespace Go.Proofs.Ytgjgggclcmcpgaa
open Go.RowKit
set_option linter.unusedVariables false
set_option linter.unusedSimpArgs false
set_option maxRecDepth 100000
attribute [local irreducible] wpV wpList Code.wp

set_option maxHeartbeats 8000000 in
theorem walk_FnExactSameSnow (a0 a1 a2 a3 c0 c1 c2 c3 : Nat) (ha0 : a0 < 4294967296) (ha1 : a1 < 4294967296) (ha2 : a2 < 4294967296) (ha3 : a3 < 4294967296) (hc0 : c0 < 4294967296) (hc1 : c1 < 4294967296) (hc2 : c2 < 4294967296) (hc3 : c3 < 4294967296) (w : World) :
    Calls Try.prog 5 #[.agg #[.float .f32 a0, .float .f32 a1, .float .f32 a2, .float .f32 a3], .agg #[.float .f32 c0, .float .f32 c1, .float .f32 c2, .float .f32 c3]] w fun e w' => e = .returned (.bool true) ∧ Below w.heap.size w w' := by
  obtain ⟨B, hR⟩ : ∃ B : Bool, (eqI a0 c0 && eqI a1 c1 && eqI a2 c2 && eqI a3 c3) = B := ⟨_, rfl⟩
  have cS : ∀ W : World, Calls Try.prog 22 #[.agg #[.float .f32 a0, .float .f32 a1, .float .f32 a2, .float .f32 a3], .agg #[.float .f32 c0, .float .f32 c1, .float .f32 c2, .float .f32 c3]] W (SayB B W) := fun W => by have := sameSnow_s W (Is32.c ha0) (Is32.c ha1) (Is32.c ha2) (Is32.c ha3) (Is32.c hc0) (Is32.c hc1) (Is32.c hc2) (Is32.c hc3); rw [hR] at this; exact this
  have cI : ∀ W : World, Calls Try.prog 24 #[.agg #[.float .f32 a0, .float .f32 a1, .float .f32 a2, .float .f32 a3], .agg #[.float .f32 c0, .float .f32 c1, .float .f32 c2, .float .f32 c3]] W (SayB B W) := fun W => by have := sameSnow_i W (Is32.c ha0) (Is32.c ha1) (Is32.c ha2) (Is32.c ha3) (Is32.c hc0) (Is32.c hc1) (Is32.c hc2) (Is32.c hc3); rw [hR] at this; exact this
  have HS := Lib.hid cS
  have HI := Lib.hid cI
  clear cS cI hR
  · skip
    go_enter Try.func5, Try.ntmps5
    go_wp2_with fail
    refine wp_region_B (vmap [(1, fun u => u = .agg #[.float .f32 a0, .float .f32 a1, .float .f32 a2, .float .f32 a3]), (3, fun u => u = .agg #[.float .f32 c0, .float .f32 c1, .float .f32 c2, .float .f32 c3]), (4, fun u => u = .bool B)]) (by kernel_rfl) (by kernel_rfl) ?_
    refine wpV_none 1 rfl (v := .agg #[.float .f32 a0, .float .f32 a1, .float .f32 a2, .float .f32 a3]) rfl (fun w' hw' => ?_) rfl ?_
    · have bx : Bx w' (w.heap.size) [.float .f32 a0, .float .f32 a1, .float .f32 a2, .float .f32 a3] := by
        refine Bx.below ?_ hw' (by first | omega | (simp; done) | (simp; omega))
        exact Bx.alloc (Bx.new _ _ _) _
      have k0 := bx.c 0 rfl
      have k1 := bx.c 1 rfl
      have k2 := bx.c 2 rfl
      have k3 := bx.c 3 rfl
      clear bx hw'
      go_simp
    go_simp
    refine wpV_callB 2 rfl rfl (run_call1 rfl (enters_of Try.func23 (by kernel_rfl) rfl) rfl) (fun w' hw' => (toSnow_o _ _ _ _ w').mono fun e w'' h => ⟨h.1, hw'.trans (h.2.mono (by have hz := hw'.size; simpa using hz))⟩) rfl ?_
    go_simp
    refine wpV_none 3 rfl (v := .agg #[.float .f32 c0, .float .f32 c1, .float .f32 c2, .float .f32 c3]) rfl (fun w' hw' => ?_) rfl ?_
    · have bx : Bx w' (w.heap.size + 1) [.float .f32 c0, .float .f32 c1, .float .f32 c2, .float .f32 c3] := by
        refine Bx.below ?_ hw' (by first | omega | (simp; done) | (simp; omega))
        exact Bx.new1 _ _ _ _
      have k0 := bx.c 0 rfl
      have k1 := bx.c 1 rfl
      have k2 := bx.c 2 rfl
      have k3 := bx.c 3 rfl
      clear bx hw'
      go_simp
    go_simp
    refine wpV_callB 4 rfl rfl (run_call1 rfl (enters_of Try.func23 (by kernel_rfl) rfl) rfl) (fun w' hw' => (toSnow_o _ _ _ _ w').mono fun e w'' h => ⟨h.1, hw'.trans (h.2.mono (by have hz := hw'.size; simpa using hz))⟩) rfl ?_
    go_simp
    refine wpV_callB 5 rfl rfl (run_call2 rfl (enters_of Try.func22 (by kernel_rfl) rfl) rfl rfl) (fun w' hw' => (HS.out w').mono fun e w'' h => by obtain ⟨b, rfl, h1, h2⟩ := h; exact ⟨h1, hw'.trans (h2.mono (by have hz := hw'.size; simpa using hz))⟩) rfl ?_
    go_simp
    refine wpV_none 6 rfl (v := .bool B) rfl (fun w' hw' => ?_) rfl ?_
    · clear hw'
      go_simp; try rfl
    go_simp
    refine wpV_nil ?_
    intro w1 hw1
    have BA := Lib.hid (show Bx w1 w.heap.size [.float .f32 a0, .float .f32 a1, .float .f32 a2, .float .f32 a3] from Bx.below (Bx.alloc (Bx.new _ _ _) _) hw1 (by first | omega | (simp; done) | (simp; omega)))
    have BC := Lib.hid (show Bx w1 (w.heap.size + 1) [.float .f32 c0, .float .f32 c1, .float .f32 c2, .float .f32 c3] from Bx.below (Bx.new1 _ _ _ _) hw1 (by first | omega | (simp; done) | (simp; omega)))
    have HB := Lib.hid (show Below w.heap.size w w1 from (bel2 w _ _).trans (hw1.mono (by first | omega | (simp; done) | (simp; omega))))
    have hs : w.heap.size + 2 ≤ w1.heap.size := by have := hw1.size; (try simp at this); omega
    clear hw1
    go_wp2_with fail
    refine wp_region_B (vmap [(1, fun u => u = .agg #[.float .f32 a0, .float .f32 a1, .float .f32 a2, .float .f32 a3]), (3, fun u => u = .agg #[.float .f32 c0, .float .f32 c1, .float .f32 c2, .float .f32 c3]), (4, fun u => u = .bool B)]) (by kernel_rfl) (by kernel_rfl) ?_
    refine wpV_none 1 rfl (v := .agg #[.float .f32 a0, .float .f32 a1, .float .f32 a2, .float .f32 a3]) rfl (fun w' hw' => ?_) rfl ?_
    · have bx : Bx w' (w.heap.size) [.float .f32 a0, .float .f32 a1, .float .f32 a2, .float .f32 a3] := by
        refine Bx.below ?_ hw' (by first | omega | (simp; done) | (simp; omega))
        exact BA.out
      have k0 := bx.c 0 rfl
      have k1 := bx.c 1 rfl
      have k2 := bx.c 2 rfl
      have k3 := bx.c 3 rfl
      clear bx hw'
      go_simp
    go_simp
    refine wpV_callB 2 rfl rfl (run_call1 rfl (enters_of Try.func23 (by kernel_rfl) rfl) rfl) (fun w' hw' => (toSnow_o _ _ _ _ w').mono fun e w'' h => ⟨h.1, hw'.trans (h.2.mono (by have hz := hw'.size; simpa using hz))⟩) rfl ?_
    go_simp
    refine wpV_none 3 rfl (v := .agg #[.float .f32 c0, .float .f32 c1, .float .f32 c2, .float .f32 c3]) rfl (fun w' hw' => ?_) rfl ?_
    · have bx : Bx w' (w.heap.size + 1) [.float .f32 c0, .float .f32 c1, .float .f32 c2, .float .f32 c3] := by
        refine Bx.below ?_ hw' (by first | omega | (simp; done) | (simp; omega))
        exact BC.out
      have k0 := bx.c 0 rfl
      have k1 := bx.c 1 rfl
      have k2 := bx.c 2 rfl
      have k3 := bx.c 3 rfl
      clear bx hw'
      go_simp
    go_simp
    refine wpV_callB 4 rfl rfl (run_call1 rfl (enters_of Try.func23 (by kernel_rfl) rfl) rfl) (fun w' hw' => (toSnow_o _ _ _ _ w').mono fun e w'' h => ⟨h.1, hw'.trans (h.2.mono (by have hz := hw'.size; simpa using hz))⟩) rfl ?_
    go_simp
    refine wpV_callB 5 rfl rfl (run_call2 rfl (enters_of Try.func24 (by kernel_rfl) rfl) rfl rfl) (fun w' hw' => (HI.out w').mono fun e w'' h => by obtain ⟨b, rfl, h1, h2⟩ := h; exact ⟨h1, hw'.trans (h2.mono (by have hz := hw'.size; simpa using hz))⟩) rfl ?_
    go_simp
    refine wpV_none 6 rfl (v := .bool B) rfl (fun w' hw' => ?_) rfl ?_
    · clear hw'
      go_simp; try rfl
    go_simp
    refine wpV_nil ?_
    intro w2 hw2
    have HB2 := Lib.hid (HB.out.trans (hw2.mono (by omega)))
    clear hw2
    go_wp2_with fail
    go_ret
    exact ⟨rfl, HB2.out⟩
end Go.Proofs.Ytgjgggclcmcpgaa
