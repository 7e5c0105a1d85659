/- The walk of the law on SlopeHill. -/
import Derived.Test.YtgnkpppbhibfoabSlopeS
import Derived.Deep.RegionHeld3
import Derived.Deep.DeepCutAuto
import Derived.DataShut
namespace Go.Proofs.Ytgnkpppbhibfoab
open Go.RowKit

set_option maxRecDepth 100000 in
set_option maxHeartbeats 40000000 in
theorem slopeHillLaw_fits (n0 : Int) (n1 : Int) (x2 : Nat) (x3 : Nat) (x4 : Nat) (w : World) (hn0 : -9223372036854775808 ≤ n0) (hm0 : n0 ≤ 9223372036854775807) (hn1 : -9223372036854775808 ≤ n1) (hm1 : n1 ≤ 9223372036854775807) (hx2 : x2 < 4294967296) (hx3 : x3 < 4294967296) (hx4 : x4 < 4294967296) :
    Calls Try.prog 3 #[.int .i64 n0, .int .i64 n1, .float .f32 x2, .float .f32 x3, .float .f32 x4] w fun e w' => e = .returned (.bool true) ∧ Below w.heap.size w w' := by
  obtain ⟨⟨rw, rh, rz, rok⟩, hR⟩ : ∃ R, resSlopeHill n0 n1 x2 x3 x4 = R := ⟨_, rfl⟩
  have cS : ∀  (W : World), Calls Try.prog 15 #[.int .i64 n0, .int .i64 n1, .float .f32 x2, .float .f32 x3, .float .f32 x4] W (RetHB rw rh rz rok W) := by
    intro  W 
    have := slopeHill_spec n0 n1 x2 x3 x4 W hn0 hm0 hn1 hm1 hx2 hx3 hx4
    rw [hR] at this
    exact this
  have cI : ∀  (W : World), Calls Try.prog 16 #[.int .i64 n0, .int .i64 n1, .float .f32 x2, .float .f32 x3, .float .f32 x4] W (RetHB rw rh rz rok W) := by
    intro  W 
    have := slopeHill_impl n0 n1 x2 x3 x4 W hn0 hm0 hn1 hm1 hx2 hx3 hx4
    rw [hR] at this
    exact this
  have hrl : rz.length ≤ 1048576 := by have := resSlopeHill_len n0 n1 x2 x3 x4; rw [hR] at this; exact this
  have HS := Lib.hid cS; have HI := Lib.hid cI
  clear cS cI hR
  clear hn0 hm0
  clear hn1 hm1
  clear hx2
  clear hx3
  clear hx4
  have Hb0 := Lib.hid (Below.refl w.heap.size w)
  go_enter Try.func3, Try.ntmps3
  go_wp2_with fail
  refine (HS.out  _ ).mono ?_
  rintro e w1 ⟨aW, capW, rfl, hb, hf⟩
  have hs1 : w.heap.size + 0 ≤ w1.heap.size := (by have := hb.size; simpa using this)
  have hst : Below w.heap.size w w1 := (Below.refl _ _).trans (hb.mono (by first | (simp; done) | (simp; omega)))
  have Hb1 := Lib.hid (Hb0.out.trans (hst.mono (by omega)) : Below w.heap.size w w1)
  have FW1 := Lib.hid (hf.mono (lo' := w.heap.size + 0) (by first | (simp; done) | (simp; omega)) (Nat.le_refl _) (Nat.le_refl _))
  clear hb hst hf
  clear Hb0
  go_wp2_with fail
  refine (HI.out  _ ).mono ?_
  rintro e w2 ⟨aG, capG, rfl, hb, hf⟩
  have hs2 : w1.heap.size + 1 ≤ w2.heap.size := (by have := hb.size; simpa using this)
  have hst : Below w1.heap.size w1 w2 := (below1 _ _).trans (hb.mono (by first | (simp; done) | (simp; omega)))
  have Hb2 := Lib.hid (Hb1.out.trans (hst.mono (by omega)) : Below w.heap.size w w2)
  have FW2 := Lib.hid (FW1.out.below hst (by omega))
  have BW2 := Lib.hid (BoxH.below (BoxH.new w1 rw rh (.slice aW rz.length capW) 25) hb (by first | (simp; done) | (simp; omega)))
  have FG2 := Lib.hid (hf.mono (lo' := w1.heap.size + 1) (by first | (simp; done) | (simp; omega)) (Nat.le_refl _) (Nat.le_refl _))
  clear hb hst hf
  clear Hb1 FW1
  obtain ⟨W0, W1, W2, _⟩ := BW2.out
  go_wp2_with fail
  refine (eqHill_any rw rh aG aW capG capW rz _ (by exact (FG2.out.alloc _).row) (by exact (FW2.out.alloc _).row) hrl).mono ?_
  rintro e w3 ⟨rfl, hb⟩
  have hs3 : w2.heap.size + 1 ≤ w3.heap.size := (by have := hb.size; simpa using this)
  have hst : Below w2.heap.size w2 w3 := (below1 _ _).trans (hb.mono (by first | (simp; done) | (simp; omega)))
  have Hb3 := Lib.hid (Hb2.out.trans (hst.mono (by omega)) : Below w.heap.size w w3)
  have BW3 := Lib.hid (BW2.out.below hst (by omega))
  have FW3 := Lib.hid (FW2.out.below hst (by omega))
  have FG3 := Lib.hid (FG2.out.below hst (by omega))
  have BG3 := Lib.hid (BoxH.below (BoxH.new w2 rw rh (.slice aG rz.length capG) 25) hb (by first | (simp; done) | (simp; omega)))
  clear hb hst
  clear Hb2 BW2 FW2 FG2
  clear W0 W1 W2
  obtain ⟨W0, W1, W2, _⟩ := BW3.out
  obtain ⟨G0, G1, G2, _⟩ := BG3.out
  go_wp2_with fail
  refine (markHill_any (w1.heap.size + 1) (w2.heap.size) 1 rw rh aG capG rz _ (by exact FG3.out) hrl (by omega)).mono ?_
  rintro e w4 ⟨rfl, hf, hk⟩
  have hs4 : w3.heap.size + 0 ≤ w4.heap.size := (by have := hk.size; simpa using this)
  have hkst : Kept (w1.heap.size + 1) (w2.heap.size) w3 w4 := (Kept.of_below (Below.refl _ _) (Nat.le_refl _)).trans hk
  have Hb4 := Lib.hid (Hb3.out.trans (hkst.below (by omega) (by omega)) : Below w.heap.size w w4)
  have BW4 := Lib.hid (BW3.out.kept hkst (by omega))
  have BG4 := Lib.hid (BG3.out.kept hkst (by omega))
  have FW4 := Lib.hid (FW3.out.kept hkst (by omega))
  have FG4 := Lib.hid hf
  clear hk hkst hf
  clear Hb3 BW3 BG3 FW3 FG3
  clear W0 W1 W2 G0 G1 G2
  obtain ⟨W0, W1, W2, _⟩ := BW4.out
  obtain ⟨G0, G1, G2, _⟩ := BG4.out
  go_wp2_with fail
  refine (heldHill_any (w1.heap.size + 1) (w2.heap.size) 1 rz.length rw rh aG capG _ (by exact FG4.out) hrl (by omega)).mono ?_
  rintro e w5 ⟨rfl, hb⟩
  have hs5 : w4.heap.size + 0 ≤ w5.heap.size := (by have := hb.size; simpa using this)
  have hst : Below w4.heap.size w4 w5 := (Below.refl _ _).trans (hb.mono (by first | (simp; done) | (simp; omega)))
  have Hb5 := Lib.hid (Hb4.out.trans (hst.mono (by omega)) : Below w.heap.size w w5)
  have BW5 := Lib.hid (BW4.out.below hst (by omega))
  have BG5 := Lib.hid (BG4.out.below hst (by omega))
  have FW5 := Lib.hid (FW4.out.below hst (by omega))
  have FG5 := Lib.hid (FG4.out.below hst (by omega))
  clear hb hst
  clear Hb4 BW4 BG4 FW4 FG4
  clear W0 W1 W2 G0 G1 G2
  obtain ⟨W0, W1, W2, _⟩ := BW5.out
  obtain ⟨G0, G1, G2, _⟩ := BG5.out
  go_wp2_with fail
  refine (HI.out  _ ).mono ?_
  rintro e w6 ⟨aH, capH, rfl, hb, hf⟩
  have hs6 : w5.heap.size + 0 ≤ w6.heap.size := (by have := hb.size; simpa using this)
  have hst : Below w5.heap.size w5 w6 := (Below.refl _ _).trans (hb.mono (by first | (simp; done) | (simp; omega)))
  have Hb6 := Lib.hid (Hb5.out.trans (hst.mono (by omega)) : Below w.heap.size w w6)
  have BW6 := Lib.hid (BW5.out.below hst (by omega))
  have BG6 := Lib.hid (BG5.out.below hst (by omega))
  have FW6 := Lib.hid (FW5.out.below hst (by omega))
  have FG6 := Lib.hid (FG5.out.below hst (by omega))
  have FH6 := Lib.hid (hf.mono (lo' := w5.heap.size + 0) (by first | (simp; done) | (simp; omega)) (Nat.le_refl _) (Nat.le_refl _))
  clear hb hst hf
  clear Hb5 BW5 BG5 FW5 FG5
  clear W0 W1 W2 G0 G1 G2
  obtain ⟨W0, W1, W2, _⟩ := BW6.out
  obtain ⟨G0, G1, G2, _⟩ := BG6.out
  go_wp2_with fail
  refine (eqHill_any rw rh aH aW capH capW rz _ (by exact (FH6.out.alloc _).row) (by exact (FW6.out.alloc _).row) hrl).mono ?_
  rintro e w7 ⟨rfl, hb⟩
  have hs7 : w6.heap.size + 1 ≤ w7.heap.size := (by have := hb.size; simpa using this)
  have hst : Below w6.heap.size w6 w7 := (below1 _ _).trans (hb.mono (by first | (simp; done) | (simp; omega)))
  have Hb7 := Lib.hid (Hb6.out.trans (hst.mono (by omega)) : Below w.heap.size w w7)
  have BW7 := Lib.hid (BW6.out.below hst (by omega))
  have BG7 := Lib.hid (BG6.out.below hst (by omega))
  have FW7 := Lib.hid (FW6.out.below hst (by omega))
  have FG7 := Lib.hid (FG6.out.below hst (by omega))
  have FH7 := Lib.hid (FH6.out.below hst (by omega))
  have BHh7 := Lib.hid (BoxH.below (BoxH.new w6 rw rh (.slice aH rz.length capH) 25) hb (by first | (simp; done) | (simp; omega)))
  clear hb hst
  clear Hb6 BW6 BG6 FW6 FG6 FH6
  clear W0 W1 W2 G0 G1 G2
  obtain ⟨W0, W1, W2, _⟩ := BW7.out
  obtain ⟨G0, G1, G2, _⟩ := BG7.out
  obtain ⟨Hh0, Hh1, Hh2, _⟩ := BHh7.out
  go_wp2_with fail
  refine (heldHill_any (w1.heap.size + 1) (w2.heap.size) 1 rz.length rw rh aG capG _ (by exact FG7.out) hrl (by omega)).mono ?_
  rintro e w8 ⟨rfl, hb⟩
  have hs8 : w7.heap.size + 0 ≤ w8.heap.size := (by have := hb.size; simpa using this)
  have hst : Below w7.heap.size w7 w8 := (Below.refl _ _).trans (hb.mono (by first | (simp; done) | (simp; omega)))
  have Hb8 := Lib.hid (Hb7.out.trans (hst.mono (by omega)) : Below w.heap.size w w8)
  have BW8 := Lib.hid (BW7.out.below hst (by omega))
  have BG8 := Lib.hid (BG7.out.below hst (by omega))
  have BHh8 := Lib.hid (BHh7.out.below hst (by omega))
  have FW8 := Lib.hid (FW7.out.below hst (by omega))
  have FG8 := Lib.hid (FG7.out.below hst (by omega))
  have FH8 := Lib.hid (FH7.out.below hst (by omega))
  clear hb hst
  clear Hb7 BW7 BG7 BHh7 FW7 FG7 FH7
  clear W0 W1 W2 G0 G1 G2 Hh0 Hh1 Hh2
  obtain ⟨W0, W1, W2, _⟩ := BW8.out
  obtain ⟨G0, G1, G2, _⟩ := BG8.out
  obtain ⟨Hh0, Hh1, Hh2, _⟩ := BHh8.out
  go_wp2_with fail
  go_ret
  exact ⟨rfl, Hb8.out⟩

set_option maxHeartbeats 1000000 in
theorem walk_FnExactSlopeHill (n0 : Int) (n1 : Int) (x2 : Nat) (x3 : Nat) (x4 : Nat) (w : World) (hwn0 : (Lit.int .i64 n0).wf = true) (hwn1 : (Lit.int .i64 n1).wf = true) (hx2 : x2 < 4294967296) (hx3 : x3 < 4294967296) (hx4 : x4 < 4294967296) :
    Calls Try.prog 3 #[.int .i64 n0, .int .i64 n1, .float .f32 x2, .float .f32 x3, .float .f32 x4] w fun e w' => e = .returned (.bool true) ∧ Below w.heap.size w w' := by
  have hn0 : -9223372036854775808 ≤ n0 ∧ n0 ≤ 9223372036854775807 := by have h9 := (Lit.wf_int_iff .i64 _).1 hwn0; have e1 : IntKind.min .i64 = -9223372036854775808 := (by decide +kernel); have e2 : IntKind.max .i64 = 9223372036854775807 := (by decide +kernel); omega
  have hn1 : -9223372036854775808 ≤ n1 ∧ n1 ≤ 9223372036854775807 := by have h9 := (Lit.wf_int_iff .i64 _).1 hwn1; have e1 : IntKind.min .i64 = -9223372036854775808 := (by decide +kernel); have e2 : IntKind.max .i64 = 9223372036854775807 := (by decide +kernel); omega
  exact slopeHillLaw_fits n0 n1 x2 x3 x4 w hn0.1 hn0.2 hn1.1 hn1.2 hx2 hx3 hx4
end Go.Proofs.Ytgnkpppbhibfoab
