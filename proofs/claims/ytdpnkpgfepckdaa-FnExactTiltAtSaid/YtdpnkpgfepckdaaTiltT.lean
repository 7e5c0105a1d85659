/- The tilt at a cell: the whole model. -/
import Derived.Test.YtdpnkpgfepckdaaTiltS
import Derived.Deep.Cut
namespace Go.Proofs.Ytdpnkpgfepckdaa
open Go.RowKit
set_option linter.unusedVariables false
set_option linter.unusedSimpArgs false
set_option maxRecDepth 100000
attribute [local irreducible] wpV wpList Code.wp

set_option maxHeartbeats 4000000 in
theorem tiltAt_spec (wide high : Int) (a : Option Addr) (cap : Nat) (zs : List Nat) (i : Int) (w : World) (h : RowF .f32 w a zs) (hl : zs.length ≤ 1048576) (hz : ∀ z ∈ zs, z < 4294967296) (hil : -9223372036854775808 ≤ i) (him : i ≤ 9223372036854775807) :
    Calls Try.prog 21 #[.agg #[.int .i64 wide, .int .i64 high, .slice a zs.length cap], .int .i64 i] w (TiP (resTiltAt wide high zs i) w) := by
  obtain ⟨V, hV⟩ : ∃ V, resTiltAt wide high zs i = V := ⟨_, rfl⟩
  rw [hV]
  have HV := Lib.hid hV
  have H := Lib.hid h
  have HZ := Lib.hid hz
  clear hV h hz
  obtain ⟨W1, hW1⟩ : ∃ W, (w.alloc (.cells #[.int .i64 wide, .int .i64 high, .slice a zs.length cap] 44)) = W := ⟨_, rfl⟩
  have hbx : BoxH W1 w.heap.size wide high (.slice a zs.length cap) := by rw [← hW1]; exact BoxH.new w wide high _ 44
  have hb : Below w.heap.size w W1 := by rw [← hW1]; exact below1 _ _
  have HBX := Lib.hid hbx
  have HB := Lib.hid hb
  have HW1 := Lib.hid hW1
  obtain ⟨r0, r1, r2, _⟩ := hbx
  clear hb hW1
  go_enter Try.func21, Try.ntmps21
  go_upto_region 1 with fail
  rw [HW1.out]
  clear HW1
  go_wp2_with fail
  cases hv9 : validB wide high zs
  · refine (l02Has_no w.heap.size wide high i a cap zs _ HBX.out.1 HBX.out.2.1 HBX.out.2.2.1 (H.out.below HB.out (Nat.le_refl _)) hl hv9).mono ?_
    rintro e w1 ⟨rfl, q0, rfl⟩
    have hv : V = (some 0, some 0, false) := by rw [← HV.out]; unfold resTiltAt; rw [hv9]; simp
    have HVx := Lib.hid hv
    clear hv
    go_wp2_with fail
    refine bodyPost_ret (v := .tuple #[.complex .f32 0 0, .bool false]) (by simp [results, Try.results21, go_sem]) rfl ⟨0, 0, by rw [HVx.out], by rw [HVx.out]; exact Is32.c (by decide), by rw [HVx.out]; exact Is32.c (by decide), (by first | exact HB.out | exact below_drewN HB.out _ | (rw [World.drewN_drewN]; exact below_drewN HB.out _) | exact below_drewN (below_drewN HB.out _) _)⟩
  have HV9 := Lib.hid hv9
  clear hv9
  cases hci : cellB (wide * high) i
  · refine (l02Has_any w.heap.size wide high i a cap zs _ HBX.out.1 HBX.out.2.1 HBX.out.2.2.1 (H.out.below HB.out (Nat.le_refl _)) hl HV9.out false hci).mono ?_
    rintro e w1 ⟨rfl, q0, rfl⟩
    have hv : V = (some 0, some 0, false) := by rw [← HV.out]; unfold resTiltAt; rw [HV9.out, hci]; simp
    have HVx := Lib.hid hv
    clear hv
    go_wp2_with fail
    refine bodyPost_ret (v := .tuple #[.complex .f32 0 0, .bool false]) (by simp [results, Try.results21, go_sem]) rfl ⟨0, 0, by rw [HVx.out], by rw [HVx.out]; exact Is32.c (by decide), by rw [HVx.out]; exact Is32.c (by decide), (by first | exact HB.out | exact below_drewN HB.out _ | (rw [World.drewN_drewN]; exact below_drewN HB.out _) | exact below_drewN (below_drewN HB.out _) _)⟩
  refine (l02Has_any w.heap.size wide high i a cap zs _ HBX.out.1 HBX.out.2.1 HBX.out.2.2.1 (H.out.below HB.out (Nat.le_refl _)) hl HV9.out true hci).mono ?_
  rintro e w1 ⟨rfl, q0, rfl⟩
  have HCi := Lib.hid hci
  clear hci
  obtain ⟨hsi, hnl, hp1, hp2⟩ := valid_len8 HV9.out
  obtain ⟨hw1, hw2, hh1, hh2⟩ := sidesB_true hsi
  obtain ⟨hn1, hn2⟩ := cellB_true HCi.out
  obtain ⟨wn, rfl⟩ : ∃ n : Nat, wide = (n : Int) := ⟨wide.toNat, by omega⟩
  obtain ⟨hn, rfl⟩ : ∃ n : Nat, high = (n : Int) := ⟨high.toNat, by omega⟩
  obtain ⟨ni, rfl⟩ : ∃ n : Nat, i = (n : Int) := ⟨i.toNat, by omega⟩
  rw [← hnl] at hn2
  have hlw : zs.length = wn * hn := by have h9 : ((zs.length : Nat) : Int) = ((wn * hn : Nat) : Int) := hnl.trans (Int.natCast_mul _ _).symm; omega
  obtain ⟨X, hX⟩ : ∃ X, tiltX wn zs (ni % wn) (ni / wn) = X := ⟨_, rfl⟩
  obtain ⟨Y, hY⟩ : ∃ Y, tiltY wn hn zs (ni % wn) (ni / wn) = Y := ⟨_, rfl⟩
  have hv : V = if (fin32o X && fin32o Y) then (X, Y, true) else (some 0, some 0, false) := by rw [← HV.out]; unfold resTiltAt; rw [HV9.out, HCi.out]; simp only [Int.toNat_natCast, Bool.true_and]; rw [hX, hY]
  have HV2 := Lib.hid hv
  have HT9 : Hid (∀ W : World, (∃ n, W = W1.drewN n) → Calls Try.prog 51 #[.pointer (some ⟨w.heap.size, 0, none⟩), .int .i64 (ni : Int)] W (CoP X Y W)) := Lib.hid fun W ⟨n, hW⟩ => by rw [← hX, ← hY, hW]; exact l02Tilt_any w.heap.size a cap wn hn ni zs (W1.drewN n) HBX.out.1 HBX.out.2.1 HBX.out.2.2.1 (H.out.below (below_drewN HB.out _) (Nat.le_refl _)) (by omega) (by omega) (by omega) hlw (by omega) HZ.out
  clear hX hY hv hlw hnl hsi
  go_wp2_with fail
  refine (HT9.out _ ⟨_, rfl⟩).mono ?_
  rintro e w2 ⟨t1, t2, rfl, ht1, ht2, q2, rfl⟩
  have HT1 := Lib.hid ht1
  have HT2 := Lib.hid ht2
  clear ht1 ht2
  go_wp2_with fail
  refine (cfin_any _ HT1.out HT2.out).mono ?_
  rintro e w3 ⟨bb, hbb, rfl, q3, rfl⟩
  have HF := Lib.hid hbb
  clear hbb
  cases bb
  · have HVx := Lib.hid (show V = (some 0, some 0, false) by rw [HV2.out, HF.out]; rfl)
    go_wp2_with fail
    refine bodyPost_ret (v := .tuple #[.complex .f32 0 0, .bool false]) (by simp [results, Try.results21, go_sem]) rfl ⟨0, 0, by rw [HVx.out], by rw [HVx.out]; exact Is32.c (by decide), by rw [HVx.out]; exact Is32.c (by decide), (by first | exact HB.out | exact below_drewN HB.out _ | (rw [World.drewN_drewN]; exact below_drewN HB.out _) | exact below_drewN (below_drewN HB.out _) _)⟩
  have HVx := Lib.hid (show V = (X, Y, true) by rw [HV2.out, HF.out]; rfl)
  go_wp2_with fail
  refine bodyPost_ret (v := .tuple #[.complex .f32 t1 t2, .bool true]) (by simp [results, Try.results21, go_sem]) rfl ⟨t1, t2, by rw [HVx.out], by rw [HVx.out]; exact HT1.out, by rw [HVx.out]; exact HT2.out, (by first | exact HB.out | exact below_drewN HB.out _ | (rw [World.drewN_drewN]; exact below_drewN HB.out _) | exact below_drewN (below_drewN HB.out _) _)⟩

end Go.Proofs.Ytdpnkpgfepckdaa
