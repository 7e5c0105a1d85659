/- How one sees over a hill: the program. -/
import Derived.Test.YtljehplkdofhpacSeeM
import Derived.Deep.QuietTactic
import Derived.Deep.Cut
import Derived.Deep.RegionHeld3
namespace Go.Proofs.Ytljehplkdofhpac
open Go.RowKit
set_option linter.unusedVariables false
set_option linter.unusedSimpArgs false
set_option maxRecDepth 100000
attribute [local irreducible] wpV wpList Code.wp

theorem le_drew9 (w : World) : w.heap.size ≤ w.drew.heap.size := Nat.le_refl _
theorem bxdN {w : World} {b : Nat} {wide high : Int} {v : Value} (h : BoxH w b wide high v) (n : Nat) : BoxH (w.drewN n) b wide high v := h
set_option maxHeartbeats 16000000 in
theorem seesOver_impl (wide high : Int) (a : Option Addr) (cap : Nat) (zs : List Nat) (i k : Int) (x : Nat) (w : World) (h : RowF .f32 w a zs) (hl : zs.length ≤ 1048576) (hcap : zs.length ≤ cap) (hz : ∀ z ∈ zs, z < 4294967296) (hil : -9223372036854775808 ≤ i) (him : i ≤ 9223372036854775807) (hkl : -9223372036854775808 ≤ k) (hkm : k ≤ 9223372036854775807) (hx : x < 4294967296) :
    Calls Try.prog 29 #[.agg #[.int .i64 wide, .int .i64 high, .slice a zs.length cap], .int .i64 i, .int .i64 k, .float .f32 x] w (SeeP (resSeesOver wide high zs i k x) w) := by
  obtain ⟨V, hV⟩ : ∃ V, resSeesOver wide high zs i k x = V := ⟨_, rfl⟩
  rw [hV]
  have HV := Lib.hid hV
  have H := Lib.hid h
  have HZ := Lib.hid hz
  have HXx : Hid (Is32 (some x) x) := Lib.hid (Is32.c hx)
  clear hV h hz hx
  obtain ⟨W1, hW1⟩ : ∃ W, (w.alloc (.cells #[.int .i64 wide, .int .i64 high, .slice a zs.length cap] 28)) = W := ⟨_, rfl⟩
  have hbx : BoxH W1 w.heap.size wide high (.slice a zs.length cap) := by rw [← hW1]; exact BoxH.new w wide high _ 28
  have hb : Below w.heap.size w W1 := by rw [← hW1]; exact below1 _ _
  have HBX := Lib.hid hbx
  have HB := Lib.hid hb
  have HW1 := Lib.hid hW1
  obtain ⟨r0, r1, r2, _⟩ := hbx
  clear hb hW1
  go_enter Try.func29, Try.ntmps29
  go_upto_region 1 with fail
  rw [HW1.out]
  clear HW1
  go_wp2_with fail
  cases hv9 : validB wide high zs
  · refine ((hv9 ▸ validHill_any wide high a cap zs _ (H.out.below HB.out (Nat.le_refl _)) hl HZ.out : Calls _ _ _ _ (Says false _))).mono ?_
    rintro e w1 ⟨rfl, hb⟩
    have HB1 : Hid (Below w.heap.size w w1) := Lib.hid (HB.out.trans (hb.mono HB.out.size))
    have HBX1 := Lib.hid (HBX.out.below hb HBX.out.2.2.2)
    clear hb r0 r1 r2
    obtain ⟨r0, r1, r2, _⟩ := HBX1.out
    have hv : V = (false, false) := by rw [← HV.out]; unfold resSeesOver; rw [hv9]; simp
    have HVx := Lib.hid hv
    clear hv
    go_wp2_with fail
    refine bodyPost_ret (v := .tuple #[.bool false, .bool false]) (by simp [results, Try.results29, go_sem]) rfl ⟨by rw [HVx.out], HB1.out⟩
  refine ((hv9 ▸ validHill_any wide high a cap zs _ (H.out.below HB.out (Nat.le_refl _)) hl HZ.out : Calls _ _ _ _ (Says true _))).mono ?_
  rintro e w1 ⟨rfl, hb⟩
  have HB1 : Hid (Below w.heap.size w w1) := Lib.hid (HB.out.trans (hb.mono HB.out.size))
  have HBX1 := Lib.hid (HBX.out.below hb HBX.out.2.2.2)
  clear hb r0 r1 r2
  obtain ⟨r0, r1, r2, _⟩ := HBX1.out
  have HV9 := Lib.hid hv9
  clear hv9
  go_wp2_with fail
  cases hci : cellB (wide * high) i
  · refine ((hci ▸ isCell_any wide high i (.slice a zs.length cap) _ (valid_len8 HV9.out).1 ⟨_, _, _, rfl⟩ : Calls _ _ _ _ (fun e w' => e = .returned (.bool false) ∧ Below _ _ w'))).mono ?_
    rintro e w2 ⟨rfl, hb⟩
    have HB2 : Hid (Below w.heap.size w w2) := Lib.hid (HB1.out.trans (hb.mono HB1.out.size))
    have HBX2 := Lib.hid (HBX1.out.below hb HBX1.out.2.2.2)
    clear hb r0 r1 r2
    obtain ⟨r0, r1, r2, _⟩ := HBX2.out
    have hv : V = (false, false) := by rw [← HV.out]; unfold resSeesOver; rw [HV9.out, hci]; simp
    have HVx := Lib.hid hv
    clear hv
    go_wp2_with fail
    refine bodyPost_ret (v := .tuple #[.bool false, .bool false]) (by simp [results, Try.results29, go_sem]) rfl ⟨by rw [HVx.out], HB2.out⟩
  refine ((hci ▸ isCell_any wide high i (.slice a zs.length cap) _ (valid_len8 HV9.out).1 ⟨_, _, _, rfl⟩ : Calls _ _ _ _ (fun e w' => e = .returned (.bool true) ∧ Below _ _ w'))).mono ?_
  rintro e w2 ⟨rfl, hb⟩
  have HB2 : Hid (Below w.heap.size w w2) := Lib.hid (HB1.out.trans (hb.mono HB1.out.size))
  have HBX2 := Lib.hid (HBX1.out.below hb HBX1.out.2.2.2)
  clear hb r0 r1 r2
  obtain ⟨r0, r1, r2, _⟩ := HBX2.out
  have HCi := Lib.hid hci
  clear hci
  go_wp2_with fail
  cases hck : cellB (wide * high) k
  · refine ((hck ▸ isCell_any wide high k (.slice a zs.length cap) _ (valid_len8 HV9.out).1 ⟨_, _, _, rfl⟩ : Calls _ _ _ _ (fun e w' => e = .returned (.bool false) ∧ Below _ _ w'))).mono ?_
    rintro e w3 ⟨rfl, hb⟩
    have HB3 : Hid (Below w.heap.size w w3) := Lib.hid (HB2.out.trans (hb.mono HB2.out.size))
    have HBX3 := Lib.hid (HBX2.out.below hb HBX2.out.2.2.2)
    clear hb r0 r1 r2
    obtain ⟨r0, r1, r2, _⟩ := HBX3.out
    have hv : V = (false, false) := by rw [← HV.out]; unfold resSeesOver; rw [HV9.out, HCi.out, hck]; simp
    have HVx := Lib.hid hv
    clear hv
    go_wp2_with fail
    refine bodyPost_ret (v := .tuple #[.bool false, .bool false]) (by simp [results, Try.results29, go_sem]) rfl ⟨by rw [HVx.out], HB3.out⟩
  refine ((hck ▸ isCell_any wide high k (.slice a zs.length cap) _ (valid_len8 HV9.out).1 ⟨_, _, _, rfl⟩ : Calls _ _ _ _ (fun e w' => e = .returned (.bool true) ∧ Below _ _ w'))).mono ?_
  rintro e w3 ⟨rfl, hb⟩
  have HB3 : Hid (Below w.heap.size w w3) := Lib.hid (HB2.out.trans (hb.mono HB2.out.size))
  have HBX3 := Lib.hid (HBX2.out.below hb HBX2.out.2.2.2)
  clear hb r0 r1 r2
  obtain ⟨r0, r1, r2, _⟩ := HBX3.out
  have HCk := Lib.hid hck
  clear hck
  go_wp2_with fail
  refine (isFin_o _ HXx.out).mono ?_
  rintro e w' ⟨bb, hbb, rfl, rfl⟩
  have HF := Lib.hid (show fin32 x = bb from hbb)
  clear hbb
  cases bb
  · have hv : V = (false, false) := by rw [← HV.out]; unfold resSeesOver; rw [HV9.out, HCi.out, HCk.out, HF.out]; simp
    have HVx := Lib.hid hv
    clear hv
    go_wp2_with fail
    refine bodyPost_ret (v := .tuple #[.bool false, .bool false]) (by simp [results, Try.results29, go_sem]) rfl ⟨by rw [HVx.out], HB3.out⟩
  obtain ⟨hsi, hnl, hp1, hp2⟩ := valid_len8 HV9.out
  obtain ⟨hw1, hw2, hh1, hh2⟩ := sidesB_true hsi
  obtain ⟨hn1, hn2⟩ := cellB_true HCi.out
  obtain ⟨hn3, hn4⟩ := cellB_true HCk.out
  obtain ⟨wn, rfl⟩ : ∃ n : Nat, wide = (n : Int) := ⟨wide.toNat, by omega⟩
  obtain ⟨hn, rfl⟩ : ∃ n : Nat, high = (n : Int) := ⟨high.toNat, by omega⟩
  obtain ⟨ni, rfl⟩ : ∃ n : Nat, i = (n : Int) := ⟨i.toNat, by omega⟩
  obtain ⟨nk, rfl⟩ : ∃ n : Nat, k = (n : Int) := ⟨k.toNat, by omega⟩
  rw [← hnl] at hn2 hn4
  have hnil : ni < zs.length := by omega
  have hnkl : nk < zs.length := by omega
  have hlw : zs.length = wn * hn := by have h9 : ((zs.length : Nat) : Int) = ((wn * hn : Nat) : Int) := hnl.trans (Int.natCast_mul _ _).symm; omega
  have hw0 : 0 < wn := by omega
  have hres : V = seeAt wn zs ni nk (some x) := by rw [← HV.out]; unfold resSeesOver; rw [HV9.out, HCi.out, HCk.out, HF.out]; show seeAt (wn : Int).toNat zs (ni : Int).toNat (nk : Int).toNat (some x) = _; rw [Int.toNat_natCast, Int.toNat_natCast, Int.toNat_natCast]
  have HR := Lib.hid hres
  clear hres
  obtain ⟨bz, oz, rfl, hbz⟩ : ∃ b off, a = some ⟨b, off, none⟩ ∧ b < w.heap.size := by rcases H.out with rfl | ⟨b, off, h1, h2, _⟩; (simp at hp1); exact ⟨b, off, h1, h2⟩
  have HCz : Hid (∀ j, j < zs.length → w.cell? ⟨bz, oz + j, none⟩ = some (.float .f32 (zs.getD j 0))) := Lib.hid fun j hj => by obtain ⟨b', o', h1, h2⟩ := H.out.cells j hj; cases h1; exact h2
  obtain ⟨q1, hq1⟩ : ∃ q, ni / wn = q := ⟨_, rfl⟩
  obtain ⟨q2, hq2⟩ : ∃ q, nk / wn = q := ⟨_, rfl⟩
  obtain ⟨m1, hm1⟩ : ∃ q, ni % wn = q := ⟨_, rfl⟩
  obtain ⟨m2, hm2⟩ : ∃ q, nk % wn = q := ⟨_, rfl⟩
  have hd1 : (ni : Int) / (wn : Int) = (q1 : Int) := by rw [← hq1]; exact (Int.natCast_ediv _ _).symm
  have hd2 : (nk : Int) / (wn : Int) = (q2 : Int) := by rw [← hq2]; exact (Int.natCast_ediv _ _).symm
  have ht1 : Int.tmod (ni : Int) (wn : Int) = (m1 : Int) := by rw [← hm1, Int.tmod_eq_emod_of_nonneg (by omega)]; exact (Int.natCast_emod _ _).symm
  have ht2 : Int.tmod (nk : Int) (wn : Int) = (m2 : Int) := by rw [← hm2, Int.tmod_eq_emod_of_nonneg (by omega)]; exact (Int.natCast_emod _ _).symm
  have hpp1 : Int.emod (ni : Int) (wn : Int) = (m1 : Int) := by rw [← hm1]; exact (Int.natCast_emod _ _).symm
  have hpp2 : Int.emod (nk : Int) (wn : Int) = (m2 : Int) := by rw [← hm2]; exact (Int.natCast_emod _ _).symm
  have hw0' : ((wn : Int) == 0) = false := by simp; omega
  have hwnn : ¬ wn = 0 := by omega
  have hwz : ¬ (wn : Int) = 0 := by omega
  have hwm : ¬ (wn : Int) = -1 := by omega
  have hy1 : q1 < hn := by rw [← hq1]; exact row_lt hw0 hlw hnil
  have hy2 : q2 < hn := by rw [← hq2]; exact row_lt hw0 hlw hnkl
  have hx1 : m1 < wn := by rw [← hm1]; exact Nat.mod_lt _ hw0
  have hx2 : m2 < wn := by rw [← hm2]; exact Nat.mod_lt _ hw0
  have hi1 : IntKind.i64.wrap (q1 : Int) = (q1 : Int) := IntWalk.i64_in _ (by omega)
  have hi2 : IntKind.i64.wrap (q2 : Int) = (q2 : Int) := IntWalk.i64_in _ (by omega)
  have hi3 : IntKind.i64.wrap (m1 : Int) = (m1 : Int) := IntWalk.i64_in _ (by omega)
  have hi4 : IntKind.i64.wrap (m2 : Int) = (m2 : Int) := IntWalk.i64_in _ (by omega)
  have hcapl : zs.length ≤ cap := hcap
  have HLW := Lib.hid hlw
  clear hlw
  by_cases h1 : ni = nk
  · have h1' : (ni : Int) = (nk : Int) := by omega
    have HVx := Lib.hid (show V = (false, false) by rw [HR.out]; unfold seeAt lineV; rw [if_pos h1]; rfl)
    go_wp2_with fail
    refine bodyPost_ret (v := .tuple #[.bool false, .bool false]) (by simp [results, Try.results29, go_sem]) rfl ⟨by rw [HVx.out], HB3.out⟩
  have h1' : ¬ (ni : Int) = (nk : Int) := by omega
  have HQ1 := Lib.hid hq1
  have HQ2 := Lib.hid hq2
  have HM1 := Lib.hid hm1
  have HM2 := Lib.hid hm2
  clear hq1 hq2 hm1 hm2 hnl hsi
  by_cases h2 : q1 = q2
  · subst h2
    have h2' : ni / wn = nk / wn := by rw [HQ1.out, HQ2.out]
    have HCal : Hid (∀ W : World, Below w.heap.size w W → Calls Try.prog 81 #[.agg #[.int .i64 (wn : Int), .int .i64 (hn : Int), .slice (some ⟨bz, oz, none⟩) zs.length cap], .int .i64 (q1 : Int)] W fun e w' => e = .returned (.slice (some ⟨bz, oz + q1 * wn, none⟩) wn wn) ∧ True ∧ Below W.heap.size W w') := Lib.hid fun W hb => by have h9 := rowOf_any wn hn q1 bz oz cap W hw0 (by omega) (by omega) hy1 (by rw [← HLW.out]; exact hcapl); rw [← HLW.out] at h9; exact h9.mono fun e w' ⟨e1, e2⟩ => ⟨e1, trivial, e2⟩
    have hrl : (rowL wn zs q1).length = wn := rowL_length HLW.out hy1
    have hzr : ∀ z ∈ rowL wn zs q1, z < 4294967296 := fun z hz => HZ.out z (List.mem_of_mem_drop (List.mem_of_mem_take hz))
    have hrf : ∀ W : World, Below w.heap.size w W → RowF .f32 W (some ⟨bz, oz + q1 * wn, none⟩) (rowL wn zs q1) := fun W hb => .inr ⟨bz, oz + q1 * wn, rfl, Nat.lt_of_lt_of_le hbz hb.size, fun j hj => by rw [hrl] at hj; rw [Nat.add_assoc, hb.cell (p := ⟨bz, oz + (q1 * wn + j), none⟩) hbz, rowL_get hj]; exact HCz.out _ (by rw [HLW.out]; exact cell_in hy1 hj)⟩
    have HSee : Hid (∀ W : World, Below w.heap.size w W → True → Calls Try.prog 86 #[.slice (some ⟨bz, oz + q1 * wn, none⟩) wn wn, .int .i64 (m1 : Int), .int .i64 (m2 : Int), .float .f32 x] W fun e w' => e = .returned (.tuple #[.bool V.1, .bool V.2]) ∧ ∃ n, w' = W.drewN n) := Lib.hid fun W hb _ => by
      rcases Nat.lt_or_ge ni nk with h3 | h3
      · obtain ⟨hlt, hse⟩ := row_up (hn := hn) (zs := zs) (X := some x) hw0 h2' h3
        have h9 := seesAlong_up (some ⟨bz, oz + q1 * wn, none⟩) wn m1 m2 (rowL wn zs q1) W (hrf W hb) (by omega) (by omega) (by omega) (by rw [← HM1.out, ← HM2.out]; exact hlt) HXx.out hzr
        rw [HQ1.out, HM1.out, HM2.out, ← HR.out] at hse
        rw [hse, hrl] at h9
        exact h9
      · obtain ⟨hlt, hse⟩ := row_down (hn := hn) (zs := zs) (X := some x) hw0 h2' (by omega : nk < ni)
        have h9 := seesAlong_down (some ⟨bz, oz + q1 * wn, none⟩) wn m1 m2 (rowL wn zs q1) W (hrf W hb) (by omega) (by omega) (by omega) (by rw [← HM1.out, ← HM2.out]; exact hlt) HXx.out hzr
        rw [HQ1.out, HM1.out, HM2.out, ← HR.out] at hse
        rw [hse, hrl] at h9
        exact h9
    have hqq : (q1 : Int) = (q1 : Int) := rfl
    clear hrf hzr hrl h2' hqq
    go_wp2_with fail
    go_quiet (fail)
    generalize hW6 : World.drewN w3 _ = w4
    have hbx4 : BoxH w4 w.heap.size (wn : Int) (hn : Int) (.slice (some ⟨bz, oz, none⟩) zs.length cap) := by rw [← hW6]; exact HBX3.out
    have hb4 : Below w.heap.size w w4 := by rw [← hW6]; exact below_drewN HB3.out _
    clear hW6 r0 r1 r2 HBX3 HB3
    have HBX3 := Lib.hid hbx4
    have HB3 := Lib.hid hb4
    obtain ⟨r0, r1, r2, _⟩ := hbx4
    clear hb4
    go_wp2_with fail
    go_region_held3 (fun w' => w'.cell? ⟨w.heap.size, 0, none⟩ = some (.int .i64 (wn : Int)) ∧ w'.cell? ⟨w.heap.size, 1, none⟩ = some (.int .i64 (hn : Int)) ∧ w'.cell? ⟨w.heap.size, 2, none⟩ = some (.slice (some ⟨bz, oz, none⟩) zs.length cap))
      (first | with_reducible exact ⟨BoxH.c0 K5.out, BoxH.c1 K5.out, BoxH.c2 K5.out⟩ | with_reducible exact ⟨BoxH.c0 (bxdN K5.out _), BoxH.c1 (bxdN K5.out _), BoxH.c2 (bxdN K5.out _)⟩ | with_reducible exact ⟨BoxH.c0 HBX3.out, BoxH.c1 HBX3.out, BoxH.c2 HBX3.out⟩ | with_reducible exact ⟨BoxH.c0 (BoxH.drew HBX3.out), BoxH.c1 (BoxH.drew HBX3.out), BoxH.c2 (BoxH.drew HBX3.out)⟩)
      (first | (go_at_call 81; refine (HCal.out _ (by first | with_reducible exact HB3.out | with_reducible exact HB3.out.drew)).mono ?_; rintro e w5 ⟨rfl, hr5, hb5⟩; have hst : Below w4.heap.size w4 w5 := (by first | with_reducible exact (Below.refl _ _).drew.trans (hb5.mono (le_drew9 _)) | with_reducible exact hb5); have K5 := Lib.hid (HBX3.out.below hst HBX3.out.2.2.2); have HB5 : Hid (Below w.heap.size w w5) := Lib.hid (HB3.out.trans (hst.mono HB3.out.size)); have HR5 := Lib.hid hr5; clear hb5 hr5 hst) | (go_at_call 86; refine (HSee.out _ (by with_reducible exact HB5.out) HR5.out).mono ?_; rintro e w6 ⟨rfl, n6, rfl⟩))
    all_goals go_wp2_with fail
    all_goals exact bodyPost_ret (v := .tuple #[.bool V.1, .bool V.2]) (by simp [results, Try.results29, go_sem]) rfl ⟨rfl, by first | with_reducible exact HB5.out | with_reducible exact below_drewN HB5.out _⟩
  have h2' : ¬ (q1 : Int) = (q2 : Int) := by omega
  go_wp2_with fail
  go_quiet (fail)
  generalize hW6 : World.drewN w3 _ = w4
  have hbx4 : BoxH w4 w.heap.size (wn : Int) (hn : Int) (.slice (some ⟨bz, oz, none⟩) zs.length cap) := by rw [← hW6]; exact HBX3.out
  have hb4 : Below w.heap.size w w4 := by rw [← hW6]; exact below_drewN HB3.out _
  clear hW6 r0 r1 r2 HBX3 HB3
  have HBX3 := Lib.hid hbx4
  have HB3 := Lib.hid hb4
  obtain ⟨r0, r1, r2, _⟩ := hbx4
  clear hb4
  by_cases h4 : m1 = m2
  · have h4i : (m1 : Int) = (m2 : Int) := by omega
    go_wp2_with fail
    go_quiet (fail)
    generalize hW6 : World.drewN w4 _ = w8
    have hbx4 : BoxH w8 w.heap.size (wn : Int) (hn : Int) (.slice (some ⟨bz, oz, none⟩) zs.length cap) := by rw [← hW6]; exact HBX3.out
    have hb4 : Below w.heap.size w w8 := by rw [← hW6]; exact below_drewN HB3.out _
    clear hW6 r0 r1 r2 HBX3 HB3
    have HBX3 := Lib.hid hbx4
    have HB3 := Lib.hid hb4
    obtain ⟨r0, r1, r2, _⟩ := hbx4
    clear hb4
    subst h4
    have h4' : ni % wn = nk % wn := by rw [HM1.out, HM2.out]
    have h2'' : ¬ ni / wn = nk / wn := by rw [HQ1.out, HQ2.out]; exact h2
    have HCal : Hid (∀ W : World, Below w.heap.size w W → Calls Try.prog 82 #[.agg #[.int .i64 (wn : Int), .int .i64 (hn : Int), .slice (some ⟨bz, oz, none⟩) zs.length cap], .int .i64 (m1 : Int)] W fun e w' => e = .returned (.slice (some ⟨W.heap.size + 1, 0, none⟩) hn hn) ∧ RowO w' (W.heap.size + 1) (.slice (some ⟨W.heap.size + 1, 0, none⟩) hn hn) (colL wn hn zs m1) ∧ Below W.heap.size W w') := Lib.hid fun W hb => by have h9 := columnOf_any wn hn m1 bz oz cap zs W hw0 (by omega) (by omega) hx1 (by rw [← HLW.out]; exact hcapl) HLW.out (Nat.lt_of_lt_of_le hbz hb.size) (fun j hj => by rw [hb.cell (p := ⟨bz, oz + j, none⟩) hbz]; exact HCz.out j hj); rw [← HLW.out] at h9; exact h9
    have hcl : (colL wn hn zs m1).length = hn := colL_length _ _ _ _
    have hzr : ∀ z ∈ colL wn hn zs m1, z < 4294967296 := fun z hz => by obtain ⟨j, hj, rfl⟩ := List.mem_map.1 hz; rw [List.mem_range] at hj; rw [List.getD_eq_getElem?_getD, List.getElem?_eq_getElem (by rw [HLW.out]; exact cell_in hj hx1)]; exact HZ.out _ (List.getElem_mem _)
    have HSee : Hid (∀ (W : World) (g lo : Nat), RowO W lo (.slice (some ⟨g, 0, none⟩) hn hn) (colL wn hn zs m1) → Calls Try.prog 86 #[.slice (some ⟨g, 0, none⟩) hn hn, .int .i64 (q1 : Int), .int .i64 (q2 : Int), .float .f32 x] W fun e w' => e = .returned (.tuple #[.bool V.1, .bool V.2]) ∧ ∃ n, w' = W.drewN n) := Lib.hid fun W g lo hr => by
      have hrf : RowF .f32 W (some ⟨g, 0, none⟩) (colL wn hn zs m1) := RowF.of_owns (n := hn) (by have h8 := hr; unfold RowO at h8; rw [hcl] at h8; exact h8) hcl
      rcases Nat.lt_or_ge ni nk with h3 | h3
      · obtain ⟨hlt, hse⟩ := col_up (hn := hn) (zs := zs) (X := some x) hw0 HLW.out hnil hnkl h2'' h4' h3
        have h9 := seesAlong_up (some ⟨g, 0, none⟩) hn q1 q2 (colL wn hn zs m1) W hrf (by omega) (by omega) (by omega) (by rw [← HQ1.out, ← HQ2.out]; exact hlt) HXx.out hzr
        rw [HM1.out, HQ1.out, HQ2.out, ← HR.out] at hse
        rw [hse, hcl] at h9
        exact h9
      · obtain ⟨hlt, hse⟩ := col_down (hn := hn) (zs := zs) (X := some x) hw0 HLW.out hnil hnkl h2'' h4' (by omega : nk < ni)
        have h9 := seesAlong_down (some ⟨g, 0, none⟩) hn q1 q2 (colL wn hn zs m1) W hrf (by omega) (by omega) (by omega) (by rw [← HQ1.out, ← HQ2.out]; exact hlt) HXx.out hzr
        rw [HM1.out, HQ1.out, HQ2.out, ← HR.out] at hse
        rw [hse, hcl] at h9
        exact h9
    clear hzr hcl h4' h2''
    go_wp2_with fail
    go_region_held3 (fun w' => w'.cell? ⟨w.heap.size, 0, none⟩ = some (.int .i64 (wn : Int)) ∧ w'.cell? ⟨w.heap.size, 1, none⟩ = some (.int .i64 (hn : Int)) ∧ w'.cell? ⟨w.heap.size, 2, none⟩ = some (.slice (some ⟨bz, oz, none⟩) zs.length cap))
      (first | with_reducible exact ⟨BoxH.c0 K5.out, BoxH.c1 K5.out, BoxH.c2 K5.out⟩ | with_reducible exact ⟨BoxH.c0 (bxdN K5.out _), BoxH.c1 (bxdN K5.out _), BoxH.c2 (bxdN K5.out _)⟩ | with_reducible exact ⟨BoxH.c0 HBX3.out, BoxH.c1 HBX3.out, BoxH.c2 HBX3.out⟩ | with_reducible exact ⟨BoxH.c0 (BoxH.drew HBX3.out), BoxH.c1 (BoxH.drew HBX3.out), BoxH.c2 (BoxH.drew HBX3.out)⟩)
      (first | (go_at_call 82; refine (HCal.out _ (by first | with_reducible exact HB3.out | with_reducible exact HB3.out.drew)).mono ?_; rintro e w5 ⟨rfl, hr5, hb5⟩; have hst : Below w8.heap.size w8 w5 := (by first | with_reducible exact (Below.refl _ _).drew.trans (hb5.mono (le_drew9 _)) | with_reducible exact hb5); have K5 := Lib.hid (HBX3.out.below hst HBX3.out.2.2.2); have HB5 : Hid (Below w.heap.size w w5) := Lib.hid (HB3.out.trans (hst.mono HB3.out.size)); have HR5 := Lib.hid hr5; clear hb5 hr5 hst) | (go_at_call 86; refine (HSee.out _ _ _ HR5.out).mono ?_; rintro e w6 ⟨rfl, n6, rfl⟩))
    all_goals go_wp2_with fail
    all_goals exact bodyPost_ret (v := .tuple #[.bool V.1, .bool V.2]) (by simp [results, Try.results29, go_sem]) rfl ⟨rfl, by first | with_reducible exact HB5.out | with_reducible exact below_drewN HB5.out _⟩
  have h4' : ¬ (m1 : Int) = (m2 : Int) := by omega
  go_wp2_with fail
  go_quiet (fail)
  generalize hW6 : World.drewN w4 _ = w8
  have hbx4 : BoxH w8 w.heap.size (wn : Int) (hn : Int) (.slice (some ⟨bz, oz, none⟩) zs.length cap) := by rw [← hW6]; exact HBX3.out
  have hb4 : Below w.heap.size w w8 := by rw [← hW6]; exact below_drewN HB3.out _
  clear hW6 r0 r1 r2 HBX3 HB3
  have HBX3 := Lib.hid hbx4
  have HB3 := Lib.hid hb4
  obtain ⟨r0, r1, r2, _⟩ := hbx4
  clear hb4
  have HVx := Lib.hid (show V = (false, false) by have hlv : lineV wn ni nk = (0, 0, false) := (by unfold lineV; rw [if_neg h1, if_neg (by rw [HQ1.out, HQ2.out]; exact h2), if_pos (by rw [HM1.out, HM2.out]; exact h4)]); rw [HR.out]; unfold seeAt; rw [hlv]; rfl)
  go_wp2_with fail
  refine bodyPost_ret (v := .tuple #[.bool false, .bool false]) (by simp [results, Try.results29, go_sem]) rfl ⟨by rw [HVx.out], HB3.out⟩

end Go.Proofs.Ytljehplkdofhpac
