/- Marks of a river from a greater beginning. -/
import Derived.Test.YtckmacnmmloemaaRivH
namespace Go.Proofs.Ytckmacnmmloemaa
open Go.RowKit
set_option linter.unusedVariables false
set_option linter.unusedSimpArgs false
set_option maxRecDepth 100000
attribute [local irreducible] wpV wpList Code.wp
set_option maxHeartbeats 4000000 in
theorem markRiver_any2 (lo hi k : Nat) (L : Lay) (a0 a1 a2 : Option Addr) (c0 c1 c2 n : Nat) (D M V : List Int) (w : World) (h : RivAt w lo hi L a0 a1 a2 c0 c1 c2 n D M V) (hl0 : D.length ≤ 1048576) (hl1 : n ≤ 1048576) (hl2 : V.length ≤ 1048576) (hk : k + D.length + n * 4 ≤ 8388608) :
    Calls Try.prog 19 #[.agg #[.slice a0 D.length c0, .slice a1 n c1, .slice a2 V.length c2], .int .i64 (k : Int)] w fun e w' => e = .returned (.int .i64 (((k + D.length + n * 4 + V.length) : Nat) : Int)) ∧ MarkedR w' lo hi L k a0 a1 a2 c0 c1 c2 D.length n V.length ∧ Kept lo hi w w' := by
  obtain ⟨h0, h1, h2, hin, hlh⟩ := h
  have d01 := hin.d01
  have d02 := hin.d02
  have d12 := hin.d12
  have b0 := hin.b0
  have b1 := hin.b1
  have b2 := hin.b2
  have H0 := Lib.hid h0
  have H1 := Lib.hid h1
  have H2 := Lib.hid h2
  clear h0 h1 h2
  go_enter Try.func19, Try.ntmps19
  go_wp2_with fail
  refine (markZ_any L.l0 L.h0 k a0 D.length c0 D _ (H0.out.alloc _) hl0 (by omega)).mono ?_
  rintro e w1 ⟨rfl, hf, hk2⟩
  have hz1 : w.heap.size < w1.heap.size := by have := hk2.size; simp at this; omega
  have P1 : Hid (Bx w1 w.heap.size [.slice a0 D.length c0, .slice a1 n c1, .slice a2 V.length c2]) := Lib.hid ((Bx.new w [.slice a0 D.length c0, .slice a1 n c1, .slice a2 V.length c2] _).kept hk2 (.inr (by omega)))
  have K1 : Hid (Kept lo hi w w1) := Lib.hid ((Kept.of_below (below1 _ _) (Nat.le_refl _)).trans ⟨hk2.os, hk2.tape, hk2.output, hk2.size, fun i hi1 hi2 => hk2.block i (by omega) hi2⟩)
  have F0_1 := Lib.hid hf
  have F1_1 := Lib.hid ((H1.out.alloc _).kept hk2 (by omega))
  have F2_1 := Lib.hid ((H2.out.alloc _).kept hk2 (by omega))
  clear H0 H1 H2
  clear hf hk2
  have hp0 := P1.out.c 0 rfl
  have hp1 := P1.out.c 1 rfl
  have hp2 := P1.out.c 2 rfl
  go_wp2_with fail
  refine (markDamS_any L.l1 L.h1 (k + D.length) a1 n c1 M _ F1_1.out hl1 (by omega)).mono ?_
  rintro e w2 ⟨rfl, hf, hk2⟩
  clear hp0 hp1 hp2
  have hz2 : w1.heap.size ≤ w2.heap.size := hk2.size
  have P2 : Hid (Bx w2 w.heap.size [.slice a0 D.length c0, .slice a1 n c1, .slice a2 V.length c2]) := Lib.hid (P1.out.kept hk2 (.inr (by omega)))
  have K2 : Hid (Kept lo hi w w2) := Lib.hid (K1.out.trans ⟨hk2.os, hk2.tape, hk2.output, hk2.size, fun i hi1 hi2 => hk2.block i (by omega) hi2⟩)
  have F0_2 := Lib.hid (F0_1.out.kept hk2 (by omega))
  have F1_2 := Lib.hid hf
  have F2_2 := Lib.hid (F2_1.out.kept hk2 (by omega))
  clear P1 K1 F0_1 F1_1 F2_1
  clear hf hk2
  have hp0 := P2.out.c 0 rfl
  have hp1 := P2.out.c 1 rfl
  have hp2 := P2.out.c 2 rfl
  go_wp2_with fail
  refine (markZ_any L.l2 L.h2 (k + D.length + n * 4) a2 V.length c2 V _ F2_2.out hl2 (by omega)).mono ?_
  rintro e w3 ⟨rfl, hf, hk2⟩
  clear hp0 hp1 hp2
  have hz3 : w2.heap.size ≤ w3.heap.size := hk2.size
  have P3 : Hid (Bx w3 w.heap.size [.slice a0 D.length c0, .slice a1 n c1, .slice a2 V.length c2]) := Lib.hid (P2.out.kept hk2 (.inr (by omega)))
  have K3 : Hid (Kept lo hi w w3) := Lib.hid (K2.out.trans ⟨hk2.os, hk2.tape, hk2.output, hk2.size, fun i hi1 hi2 => hk2.block i (by omega) hi2⟩)
  have F0_3 := Lib.hid (F0_2.out.kept hk2 (by omega))
  have F1_3 := Lib.hid (F1_2.out.kept hk2 (by omega))
  have F2_3 := Lib.hid hf
  clear P2 K2 F0_2 F1_2 F2_2
  clear hf hk2
  go_wp2_with fail
  go_ret
  exact ⟨rfl, ⟨F0_3.out, F1_3.out, F2_3.out, hin, Nat.le_trans hlh (by omega)⟩, K3.out⟩

end Go.Proofs.Ytckmacnmmloemaa
