/- The tilt at a cell: the program. -/
import Derived.Test.YtdpnkpgfepckdaaTiltJ
import Derived.Deep.QuietTactic
import Derived.Deep.Cut
import Derived.Deep.RegionHeld3
import Derived.Laws.Cover3
namespace Go.Proofs.Ytdpnkpgfepckdaa
open Go.RowKit
set_option linter.unusedVariables false
set_option linter.unusedSimpArgs false
set_option maxRecDepth 100000
attribute [local irreducible] wpV wpList Code.wp

theorem le_drew9 (w : World) : w.heap.size ≤ w.drew.heap.size := Nat.le_refl _
theorem bxdN {w : World} {b : Nat} {wide high : Int} {v : Value} (h : BoxH w b wide high v) (n : Nat) : BoxH (w.drewN n) b wide high v := h
set_option maxHeartbeats 16000000 in
theorem tiltAt_impl (wide high : Int) (a : Option Addr) (cap : Nat) (zs : List Nat) (i : Int) (w : World) (h : RowF .f32 w a zs) (hl : zs.length ≤ 1048576) (hcap : zs.length ≤ cap) (hz : ∀ z ∈ zs, z < 4294967296) (hil : -9223372036854775808 ≤ i) (him : i ≤ 9223372036854775807) :
    Calls Try.prog 23 #[.agg #[.int .i64 wide, .int .i64 high, .slice a zs.length cap], .int .i64 i] w (TiP (resTiltAt wide high zs i) w) := by
  obtain ⟨V, hV⟩ : ∃ V, resTiltAt wide high zs i = V := ⟨_, rfl⟩
  rw [hV]
  have HV := Lib.hid hV
  have H := Lib.hid h
  have HZ := Lib.hid hz
  clear hV h hz
  obtain ⟨W1, hW1⟩ : ∃ W, (w.alloc (.cells #[.int .i64 wide, .int .i64 high, .slice a zs.length cap] 44)) = W := ⟨_, rfl⟩
  have hbx : BoxH W1 w.heap.size wide high (.slice a zs.length cap) := by rw [← hW1]; exact BoxH.new w wide high _ 44
  have hb : Below w.heap.size w W1 := by rw [← hW1]; exact below1 _ _
  have HBX := Lib.hid hbx
  have HB := Lib.hid hb
  have HW1 := Lib.hid hW1
  obtain ⟨r0, r1, r2, _⟩ := hbx
  clear hb hW1
  go_enter Try.func23, Try.ntmps23
  go_upto_region 1 with fail
  rw [HW1.out]
  clear HW1
  go_wp2_with fail
  cases hv9 : validB wide high zs
  · refine ((hv9 ▸ validHill_any wide high a cap zs _ (H.out.below HB.out (Nat.le_refl _)) hl HZ.out : Calls _ _ _ _ (Says false _))).mono ?_
    rintro e w1 ⟨rfl, hb⟩
    have HB1 : Hid (Below w.heap.size w w1) := Lib.hid (HB.out.trans (hb.mono HB.out.size))
    have HBX1 := Lib.hid (HBX.out.below hb HBX.out.2.2.2)
    clear hb r0 r1 r2
    obtain ⟨r0, r1, r2, _⟩ := HBX1.out
    have hv : V = (some 0, some 0, false) := by rw [← HV.out]; unfold resTiltAt; rw [hv9]; simp
    have HVx := Lib.hid hv
    clear hv
    go_wp2_with fail
    refine bodyPost_ret (v := .tuple #[.complex .f32 0 0, .bool false]) (by simp [results, Try.results23, go_sem]) rfl ⟨0, 0, by rw [HVx.out], by rw [HVx.out]; exact Is32.c (by decide), by rw [HVx.out]; exact Is32.c (by decide), HB1.out⟩
  refine ((hv9 ▸ validHill_any wide high a cap zs _ (H.out.below HB.out (Nat.le_refl _)) hl HZ.out : Calls _ _ _ _ (Says true _))).mono ?_
  rintro e w1 ⟨rfl, hb⟩
  have HB1 : Hid (Below w.heap.size w w1) := Lib.hid (HB.out.trans (hb.mono HB.out.size))
  have HBX1 := Lib.hid (HBX.out.below hb HBX.out.2.2.2)
  clear hb r0 r1 r2
  obtain ⟨r0, r1, r2, _⟩ := HBX1.out
  have HV9 := Lib.hid hv9
  clear hv9
  go_wp2_with fail
  cases hci : cellB (wide * high) i
  · refine ((hci ▸ isCell_any wide high i (.slice a zs.length cap) _ (valid_len8 HV9.out).1 ⟨_, _, _, rfl⟩ : Calls _ _ _ _ (fun e w' => e = .returned (.bool false) ∧ Below _ _ w'))).mono ?_
    rintro e w2 ⟨rfl, hb⟩
    have HB2 : Hid (Below w.heap.size w w2) := Lib.hid (HB1.out.trans (hb.mono HB1.out.size))
    have HBX2 := Lib.hid (HBX1.out.below hb HBX1.out.2.2.2)
    clear hb r0 r1 r2
    obtain ⟨r0, r1, r2, _⟩ := HBX2.out
    have hv : V = (some 0, some 0, false) := by rw [← HV.out]; unfold resTiltAt; rw [HV9.out, hci]; simp
    have HVx := Lib.hid hv
    clear hv
    go_wp2_with fail
    refine bodyPost_ret (v := .tuple #[.complex .f32 0 0, .bool false]) (by simp [results, Try.results23, go_sem]) rfl ⟨0, 0, by rw [HVx.out], by rw [HVx.out]; exact Is32.c (by decide), by rw [HVx.out]; exact Is32.c (by decide), HB2.out⟩
  refine ((hci ▸ isCell_any wide high i (.slice a zs.length cap) _ (valid_len8 HV9.out).1 ⟨_, _, _, rfl⟩ : Calls _ _ _ _ (fun e w' => e = .returned (.bool true) ∧ Below _ _ w'))).mono ?_
  rintro e w2 ⟨rfl, hb⟩
  have HB2 : Hid (Below w.heap.size w w2) := Lib.hid (HB1.out.trans (hb.mono HB1.out.size))
  have HBX2 := Lib.hid (HBX1.out.below hb HBX1.out.2.2.2)
  clear hb r0 r1 r2
  obtain ⟨r0, r1, r2, _⟩ := HBX2.out
  have HCi := Lib.hid hci
  clear hci
  obtain ⟨hsi, hnl, hp1, hp2⟩ := valid_len8 HV9.out
  obtain ⟨hw1, hw2, hh1, hh2⟩ := sidesB_true hsi
  obtain ⟨hn1, hn2⟩ := cellB_true HCi.out
  obtain ⟨wn, rfl⟩ : ∃ n : Nat, wide = (n : Int) := ⟨wide.toNat, by omega⟩
  obtain ⟨hn, rfl⟩ : ∃ n : Nat, high = (n : Int) := ⟨high.toNat, by omega⟩
  obtain ⟨ni, rfl⟩ : ∃ n : Nat, i = (n : Int) := ⟨i.toNat, by omega⟩
  rw [← hnl] at hn2
  have hlw : zs.length = wn * hn := by have h9 : ((zs.length : Nat) : Int) = ((wn * hn : Nat) : Int) := hnl.trans (Int.natCast_mul _ _).symm; omega
  have hw0 : 0 < wn := by omega
  have hi : ni < zs.length := by omega
  obtain ⟨x, hx⟩ : ∃ x, ni % wn = x := ⟨_, rfl⟩
  obtain ⟨y, hy⟩ : ∃ y, ni / wn = y := ⟨_, rfl⟩
  have hxw : x < wn := by rw [← hx]; exact Nat.mod_lt _ hw0
  have hyh : y < hn := by rw [← hy]; exact Nat.div_lt_of_lt_mul (by rw [← hlw]; exact hi)
  obtain ⟨X, hX⟩ : ∃ X, tiltX wn zs x y = X := ⟨_, rfl⟩
  obtain ⟨Y, hY⟩ : ∃ Y, tiltY wn hn zs x y = Y := ⟨_, rfl⟩
  have hv : V = if (fin32o X && fin32o Y) then (X, Y, true) else (some 0, some 0, false) := by rw [← HV.out]; unfold resTiltAt; rw [HV9.out, HCi.out]; simp only [Int.toNat_natCast, Bool.true_and]; rw [hx, hy, hX, hY]
  have HV2 := Lib.hid hv
  have hwz : ¬ (wn : Int) = 0 := by omega
  have hw0' : ((wn : Int) == 0) = false := by simp; omega
  have hwm : ¬ (wn : Int) = -1 := by omega
  have hwnn : ¬ wn = 0 := by omega
  have hd1 : (ni : Int) / (wn : Int) = (y : Int) := by rw [← hy]; exact (Int.natCast_ediv _ _).symm
  have ht1 : Int.tmod (ni : Int) (wn : Int) = (x : Int) := by rw [← hx, Int.tmod_eq_emod_of_nonneg (by omega)]; exact (Int.natCast_emod _ _).symm
  have hm1 : Int.emod (ni : Int) (wn : Int) = (x : Int) := by rw [← hx]; exact (Int.natCast_emod _ _).symm
  have hm2 : (ni : Int) % (wn : Int) = (x : Int) := hm1
  have hd2 : Int.tdiv (ni : Int) (wn : Int) = (y : Int) := by rw [Int.tdiv_eq_ediv_of_nonneg (by omega)]; exact hd1
  have hwx : IntKind.i64.wrap (x : Int) = (x : Int) := IntWalk.i64_in _ (by omega)
  have hwy : IntKind.i64.wrap (y : Int) = (y : Int) := IntWalk.i64_in _ (by omega)
  obtain ⟨bz, oz, rfl, hbz⟩ : ∃ b off, a = some ⟨b, off, none⟩ ∧ b < w.heap.size := by rcases H.out with rfl | ⟨b, off, h1, h2, _⟩; (simp at hp1); exact ⟨b, off, h1, h2⟩
  have HCz : Hid (∀ j, j < zs.length → w.cell? ⟨bz, oz + j, none⟩ = some (.float .f32 (zs.getD j 0))) := Lib.hid fun j hj => by obtain ⟨b', o', h1, h2⟩ := H.out.cells j hj; cases h1; exact h2
  have hcapl : zs.length ≤ cap := hcap
  have HLW := Lib.hid hlw
  clear hlw
  have HCR : Hid (∀ W : World, Below w.heap.size w W → Calls Try.prog 57 #[.agg #[.int .i64 (wn : Int), .int .i64 (hn : Int), .slice (some ⟨bz, oz, none⟩) zs.length cap], .int .i64 (y : Int)] W fun e w' => e = .returned (.slice (some ⟨bz, oz + y * wn, none⟩) wn wn) ∧ Below W.heap.size W w') := Lib.hid fun W hb => by have h9 := rowOf_any wn hn y bz oz cap W hw0 (by omega) (by omega) hyh (by rw [← HLW.out]; exact hcapl); rw [← HLW.out] at h9; exact h9
  have hrl : (rowL wn zs y).length = wn := rowL_length HLW.out hyh
  have hzr : ∀ z ∈ rowL wn zs y, z < 4294967296 := fun z hz => HZ.out z (List.mem_of_mem_drop (List.mem_of_mem_take hz))
  have hrf : ∀ W : World, Below w.heap.size w W → RowF .f32 W (some ⟨bz, oz + y * wn, none⟩) (rowL wn zs y) := fun W hb => .inr ⟨bz, oz + y * wn, rfl, Nat.lt_of_lt_of_le hbz hb.size, fun j hj => by rw [hrl] at hj; rw [Nat.add_assoc, hb.cell (p := ⟨bz, oz + (y * wn + j), none⟩) hbz, rowL_get hj]; exact HCz.out _ (by rw [HLW.out]; exact cell_in hyh hj)⟩
  have HRX : Hid (∀ W : World, Below w.heap.size w W → Calls Try.prog 56 #[.slice (some ⟨bz, oz + y * wn, none⟩) wn wn, .int .i64 (x : Int)] W (NumQ X W)) := Lib.hid fun W hb => by have h9 := riseAt_any (some ⟨bz, oz + y * wn, none⟩) wn x (rowL wn zs y) W (hrf W hb) (by omega) (by omega) hzr; rw [hrl, rowX hxw, hX] at h9; exact h9
  have HCC : Hid (∀ W : World, Below w.heap.size w W → Calls Try.prog 58 #[.agg #[.int .i64 (wn : Int), .int .i64 (hn : Int), .slice (some ⟨bz, oz, none⟩) zs.length cap], .int .i64 (x : Int)] W fun e w' => e = .returned (.slice (some ⟨W.heap.size + 1, 0, none⟩) hn hn) ∧ RowO w' (W.heap.size + 1) (.slice (some ⟨W.heap.size + 1, 0, none⟩) hn hn) (colL wn hn zs x) ∧ Below W.heap.size W w') := Lib.hid fun W hb => by have h9 := columnOf_any wn hn x bz oz cap zs W hw0 (by omega) (by omega) hxw (by rw [← HLW.out]; exact hcapl) HLW.out (Nat.lt_of_lt_of_le hbz hb.size) (fun j hj => by rw [hb.cell (p := ⟨bz, oz + j, none⟩) hbz]; exact HCz.out j hj); rw [← HLW.out] at h9; exact h9
  have hcl : (colL wn hn zs x).length = hn := colL_length _ _ _ _
  have hzc : ∀ z ∈ colL wn hn zs x, z < 4294967296 := fun z hz => by obtain ⟨j, hj, rfl⟩ := List.mem_map.1 hz; rw [List.mem_range] at hj; rw [List.getD_eq_getElem?_getD, List.getElem?_eq_getElem (by rw [HLW.out]; exact cell_in hj hxw)]; exact HZ.out _ (List.getElem_mem _)
  have HRY : Hid (∀ (W : World) (g lo : Nat), RowO W lo (.slice (some ⟨g, 0, none⟩) hn hn) (colL wn hn zs x) → Calls Try.prog 56 #[.slice (some ⟨g, 0, none⟩) hn hn, .int .i64 (y : Int)] W (NumQ Y W)) := Lib.hid fun W g lo hr => by have hrf : RowF .f32 W (some ⟨g, 0, none⟩) (colL wn hn zs x) := RowF.of_owns (n := hn) (by have h8 := hr; unfold RowO at h8; rw [hcl] at h8; exact h8) hcl; have h9 := riseAt_any (some ⟨g, 0, none⟩) hn y (colL wn hn zs x) W hrf (by omega) (by omega) hzc; rw [hcl, colY hyh, hY] at h9; exact h9
  clear hv hX hY hx hy hrl hzr hrf hcl hzc hnl hsi
  go_wp2_with fail
  go_quiet (fail)
  generalize hW6 : World.drewN w2 _ = w4
  have hbx4 : BoxH w4 w.heap.size (wn : Int) (hn : Int) (.slice (some ⟨bz, oz, none⟩) zs.length cap) := by rw [← hW6]; exact HBX2.out
  have hb4 : Below w.heap.size w w4 := by rw [← hW6]; exact below_drewN HB2.out _
  clear hW6 r0 r1 r2 HBX2 HB2
  have HBX3 := Lib.hid hbx4
  have HB3 := Lib.hid hb4
  obtain ⟨r0, r1, r2, _⟩ := hbx4
  clear hb4
  go_wp2_with fail
  go_region_held3 (fun w' => w'.cell? ⟨w.heap.size, 0, none⟩ = some (.int .i64 (wn : Int)) ∧ w'.cell? ⟨w.heap.size, 1, none⟩ = some (.int .i64 (hn : Int)) ∧ w'.cell? ⟨w.heap.size, 2, none⟩ = some (.slice (some ⟨bz, oz, none⟩) zs.length cap))
    (first | with_reducible exact ⟨BoxH.c0 (bxdN K7.out _), BoxH.c1 (bxdN K7.out _), BoxH.c2 (bxdN K7.out _)⟩ | with_reducible exact ⟨BoxH.c0 K7.out, BoxH.c1 K7.out, BoxH.c2 K7.out⟩ | with_reducible exact ⟨BoxH.c0 (bxdN K5.out _), BoxH.c1 (bxdN K5.out _), BoxH.c2 (bxdN K5.out _)⟩ | with_reducible exact ⟨BoxH.c0 K5.out, BoxH.c1 K5.out, BoxH.c2 K5.out⟩ | with_reducible exact ⟨BoxH.c0 HBX3.out, BoxH.c1 HBX3.out, BoxH.c2 HBX3.out⟩ | with_reducible exact ⟨BoxH.c0 (BoxH.drew HBX3.out), BoxH.c1 (BoxH.drew HBX3.out), BoxH.c2 (BoxH.drew HBX3.out)⟩ | fail)
    (first | (go_at_call 56; refine (HRY.out _ _ _ HR7.out).mono ?_; rintro e w8 ⟨z2, rfl, hz2, n8, rfl⟩; have HZ2 := Lib.hid hz2; clear hz2) | (go_at_call 58; refine (HCC.out _ (by with_reducible exact below_drewN HB5.out _)).mono ?_; rintro e w7 ⟨rfl, hr7, hb7⟩; have HB7 : Hid (Below w.heap.size w w7) := Lib.hid ((below_drewN HB5.out _).trans (hb7.mono (below_drewN HB5.out _).size)); have K7 := Lib.hid ((bxdN K5.out _).below hb7 (bxdN K5.out _).2.2.2); have HR7 := Lib.hid hr7; clear hb7 hr7) | (go_at_call 56; refine (HRX.out _ (by with_reducible exact HB5.out)).mono ?_; rintro e w6 ⟨z1, rfl, hz1, n6, rfl⟩; have HZ1 := Lib.hid hz1; clear hz1) | (go_at_call 57; refine (HCR.out _ (by first | with_reducible exact HB3.out | with_reducible exact HB3.out.drew)).mono ?_; rintro e w5 ⟨rfl, hb5⟩; have hst : Below w4.heap.size w4 w5 := (by first | with_reducible exact (Below.refl _ _).drew.trans (hb5.mono (le_drew9 _)) | with_reducible exact hb5); have K5 := Lib.hid (HBX3.out.below hst HBX3.out.2.2.2); have HB5 : Hid (Below w.heap.size w w5) := Lib.hid (HB3.out.trans (hst.mono HB3.out.size)); clear hb5 hst) | fail)
  all_goals go_wp2_with fail
  all_goals refine (icfin_any _ HZ1.out HZ2.out).mono ?_
  all_goals rintro e w9 ⟨bb, hbb, rfl, rfl⟩
  all_goals have HF := Lib.hid hbb
  all_goals clear hbb
  all_goals cases bb
  · have HVx := Lib.hid (show V = (some 0, some 0, false) by rw [HV2.out, HF.out]; rfl)
    go_wp2_with fail
    refine bodyPost_ret (v := .tuple #[.complex .f32 0 0, .bool false]) (by simp [results, Try.results23, go_sem]) rfl ⟨0, 0, by rw [HVx.out], by rw [HVx.out]; exact Is32.c (by decide), by rw [HVx.out]; exact Is32.c (by decide), (by first | exact below_drewN HB7.out _ | exact HB7.out)⟩
  · have HVx := Lib.hid (show V = (X, Y, true) by rw [HV2.out, HF.out]; rfl)
    go_wp2_with fail
    refine bodyPost_ret (v := .tuple #[.complex .f32 z1 z2, .bool true]) (by simp [results, Try.results23, go_sem]) rfl ⟨z1, z2, by rw [HVx.out], by rw [HVx.out]; exact HZ1.out, by rw [HVx.out]; exact HZ2.out, (by first | exact below_drewN HB7.out _ | exact HB7.out)⟩

end Go.Proofs.Ytdpnkpgfepckdaa
