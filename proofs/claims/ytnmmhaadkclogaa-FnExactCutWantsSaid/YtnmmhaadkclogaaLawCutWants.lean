/- The walk of the law on CutWants. -/
import Derived.Test.YtnmmhaadkclogaaCutS
import Derived.Test.YtnmmhaadkclogaaCutI
import Derived.Test.YtnmmhaadkclogaaRivO
namespace Go.Proofs.Ytnmmhaadkclogaa
open Go.RowKit
set_option linter.unusedVariables false
set_option linter.unusedSimpArgs false
set_option maxRecDepth 100000
attribute [local irreducible] wpV wpList Code.wp

set_option maxHeartbeats 16000000 in
theorem cutWantsLaw_fits (a0 a1 a2 : Option Addr) (c0 c1 c2 n : Nat) (D M V : List Int) (x : Int) (y : Int) (w : World) (ha0 : RowC w a0 (ic D)) (ha1 : RowC w a1 (ic M)) (ha2 : RowC w a2 (ic V)) (hM : M.length = n * 4) (hwx : (Lit.int .i64 x).wf = true) (hwy : (Lit.int .i64 y).wf = true) (hc : D.length ≤ c0 ∧ n ≤ c1 ∧ V.length ≤ c2) (h1 : (D.length : Int) + (n : Int) + (V.length : Int) ≤ 1048576) :
    Calls Try.prog 13 #[.agg #[.slice a0 D.length c0, .slice a1 n c1, .slice a2 V.length c2], .int .i64 x, .int .i64 y] w fun e w' => e = .returned (.bool true) ∧ Below w.heap.size w w' := by
  have hlD : D.length ≤ 1048576 := by omega
  have hln : n ≤ 1048576 := by omega
  have hlV : V.length ≤ 1048576 := by omega
  have g1 : ¬ (1048576 : Int) - (D.length : Int) - (n : Int) - (V.length : Int) < 0 := by omega
  have HM := Lib.hid hM
  have HCp := Lib.hid hc
  clear hM hc
  obtain ⟨⟨rn, rD, rM, rV, B⟩, hR⟩ : ∃ R, cutR D M V n x y = R := ⟨_, rfl⟩
  have hlim := cutR_len D M V n x y
  rw [hR] at hlim
  simp only at hlim
  have HS : Hid (∀ (b0 b1 b2 : Option Addr) (d0 d1 d2 : Nat) (W : World), RowC W b0 (ic D) → RowC W b1 (ic M) → RowC W b2 (ic V) → Calls Try.prog 44 #[.agg #[.slice b0 D.length d0, .slice b1 n d1, .slice b2 V.length d2], .int .i64 x, .int .i64 y] W (RivP ⟨rn, rD, rM, rV, B⟩ W)) := Lib.hid fun b0 b1 b2 d0 d1 d2 W k0 k1 k2 => by
    have h9 := cutWants_s b0 b1 b2 D.length n V.length d0 d1 d2 D M V x y W hwx hwy k0 k1 k2 rfl HM.out rfl ⟨hlD, hln, hlV⟩
    rw [hR] at h9
    exact h9
  have HI : Hid (∀ (b0 b1 b2 : Option Addr) (d0 d1 d2 : Nat) (W : World), RowC W b0 (ic D) → RowC W b1 (ic M) → RowC W b2 (ic V) → Calls Try.prog 45 #[.agg #[.slice b0 D.length d0, .slice b1 n d1, .slice b2 V.length d2], .int .i64 x, .int .i64 y] W (RivP ⟨rn, rD, rM, rV, B⟩ W)) := Lib.hid fun b0 b1 b2 d0 d1 d2 W k0 k1 k2 => by
    have h9 := cutWants_i b0 b1 b2 D.length n V.length d0 d1 d2 D M V x y W hwx hwy k0 k1 k2 rfl HM.out rfl ⟨hlD, hln, hlV⟩
    rw [hR] at h9
    exact h9
  clear hR hwx hwy
  have HA0 := Lib.hid ha0
  have HA1 := Lib.hid ha1
  have HA2 := Lib.hid ha2
  clear ha0 ha1 ha2
  cases B
  all_goals
    have Bel_0 : Hid (Below w.heap.size w w) := Lib.hid (Below.refl w.heap.size w)
    have Bel_1 : Hid (Below w.heap.size w (w.alloc (.cells #[.slice a0 D.length c0, .slice a1 n c1, .slice a2 V.length c2] 25))) := Lib.hid (Bel_0.out.alloc Bel_0.out.size _)
    clear Bel_0
    have BA_0 : Hid (Bx (w.alloc (.cells #[.slice a0 D.length c0, .slice a1 n c1, .slice a2 V.length c2] 25)) (w.heap.size) [.slice a0 D.length c0, .slice a1 n c1, .slice a2 V.length c2]) := Lib.hid (Bx.new w [.slice a0 D.length c0, .slice a1 n c1, .slice a2 V.length c2] 25)
    go_enter Try.func13, Try.ntmps13
    have cBA0 := BA_0.out.c 0 rfl
    have cBA1 := BA_0.out.c 1 rfl
    have cBA2 := BA_0.out.c 2 rfl
    go_wp2_with fail
    refine (szRiver_fits a0 a1 a2 D.length n V.length c0 c1 c2 1048576 (by omega) (by omega) _).mono ?_
    rintro e w1 ⟨rfl, hb⟩
    clear cBA0 cBA1 cBA2
    have z1 : w.heap.size + 1 ≤ w1.heap.size := (by have := hb.size; (try simp at this); omega)
    have Bel_2 : Hid (Below w.heap.size w w1) := Lib.hid (Bel_1.out.trans (hb.mono Bel_1.out.size))
    clear Bel_1
    have BA_1 : Hid (Bx w1 (w.heap.size) [.slice a0 D.length c0, .slice a1 n c1, .slice a2 V.length c2]) := Lib.hid (BA_0.out.below hb BA_0.out.1)
    clear BA_0
    clear hb
    have cBA0 := BA_1.out.c 0 rfl
    have cBA1 := BA_1.out.c 1 rfl
    have cBA2 := BA_1.out.c 2 rfl
    go_wp2_with fail
    refine (toRiver_any a0 a1 a2 c0 c1 c2 n D M V _ (HA0.out.below Bel_2.out (Nat.le_refl _)) (HA1.out.below Bel_2.out (Nat.le_refl _)) (HA2.out.below Bel_2.out (Nat.le_refl _)) hlD hln hlV HM.out).mono ?_
    rintro e w2 ⟨sa0, sc0, sa1, sc1, sa2, sc2, sL, rfl, hb, hrs⟩
    clear cBA0 cBA1 cBA2
    have z2 : w1.heap.size + 0 ≤ w2.heap.size := (by have := hb.size; (try simp at this); omega)
    have Bel_3 : Hid (Below w.heap.size w w2) := Lib.hid (Bel_2.out.trans (hb.mono Bel_2.out.size))
    clear Bel_2
    have BA_2 : Hid (Bx w2 (w.heap.size) [.slice a0 D.length c0, .slice a1 n c1, .slice a2 V.length c2]) := Lib.hid (BA_1.out.below hb BA_1.out.1)
    clear BA_1
    clear hb
    have Qs_0 : Hid (RivAt w2 w1.heap.size w2.heap.size sL sa0 sa1 sa2 sc0 sc1 sc2 n D M V) := Lib.hid (hrs)
    clear hrs
    have cBA0 := BA_2.out.c 0 rfl
    have cBA1 := BA_2.out.c 1 rfl
    have cBA2 := BA_2.out.c 2 rfl
    go_wp2_with fail
    refine (HS.out sa0 sa1 sa2 sc0 sc1 sc2 _ Qs_0.out.r0.row Qs_0.out.r1.row Qs_0.out.r2.row).mono ?_
    rintro e w3 ⟨lot, hit, Lt, ta0, tc0, ta1, tc1, ta2, tc2, rfl, hb, hrt, hlot⟩
    clear cBA0 cBA1 cBA2
    have z3 : w2.heap.size + 0 ≤ w3.heap.size := (by have := hb.size; (try simp at this); omega)
    have Bel_4 : Hid (Below w.heap.size w w3) := Lib.hid (Bel_3.out.trans (hb.mono Bel_3.out.size))
    clear Bel_3
    have BA_3 : Hid (Bx w3 (w.heap.size) [.slice a0 D.length c0, .slice a1 n c1, .slice a2 V.length c2]) := Lib.hid (BA_2.out.below hb BA_2.out.1)
    clear BA_2
    have Qs_1 : Hid (RivAt w3 w1.heap.size w2.heap.size sL sa0 sa1 sa2 sc0 sc1 sc2 n D M V) := Lib.hid (Qs_0.out.below hb Qs_0.out.lh)
    clear Qs_0
    simp only at hrt
    have hlt : w2.heap.size ≤ lot := by (try simp at hlot); (try simp); omega
    have hht : hit ≤ w3.heap.size := hrt.lh
    (try simp at hlt)
    clear hlot
    clear hb
    have Rt_0 : Hid (RivAt w3 lot hit Lt ta0 ta1 ta2 tc0 tc1 tc2 rn rD rM rV) := Lib.hid (hrt)
    clear hrt
    clear Qs_1
    have hrM : rM.length = rn * 4 := Rt_0.out.len
    have HRM := Lib.hid hrM
    clear hrM
    have Bel_5 : Hid (Below w.heap.size w (w3.alloc (.cells #[.slice ta0 rD.length tc0, .slice ta1 rn tc1, .slice ta2 rV.length tc2] 30))) := Lib.hid (Bel_4.out.alloc Bel_4.out.size _)
    clear Bel_4
    have BA_4 : Hid (Bx (w3.alloc (.cells #[.slice ta0 rD.length tc0, .slice ta1 rn tc1, .slice ta2 rV.length tc2] 30)) (w.heap.size) [.slice a0 D.length c0, .slice a1 n c1, .slice a2 V.length c2]) := Lib.hid (BA_3.out.alloc _)
    clear BA_3
    have Rt_1 : Hid (RivAt (w3.alloc (.cells #[.slice ta0 rD.length tc0, .slice ta1 rn tc1, .slice ta2 rV.length tc2] 30)) lot hit Lt ta0 ta1 ta2 tc0 tc1 tc2 rn rD rM rV) := Lib.hid (Rt_0.out.alloc _)
    clear Rt_0
    have BT_0 : Hid (Bx (w3.alloc (.cells #[.slice ta0 rD.length tc0, .slice ta1 rn tc1, .slice ta2 rV.length tc2] 30)) (w3.heap.size) [.slice ta0 rD.length tc0, .slice ta1 rn tc1, .slice ta2 rV.length tc2]) := Lib.hid (Bx.new w3 [.slice ta0 rD.length tc0, .slice ta1 rn tc1, .slice ta2 rV.length tc2] 30)
    have cBA0 := BA_4.out.c 0 rfl
    have cBA1 := BA_4.out.c 1 rfl
    have cBA2 := BA_4.out.c 2 rfl
    have cBT0 := BT_0.out.c 0 rfl
    have cBT1 := BT_0.out.c 1 rfl
    have cBT2 := BT_0.out.c 2 rfl
    go_wp2_with fail
    refine (toRiver_any a0 a1 a2 c0 c1 c2 n D M V _ (HA0.out.below Bel_5.out (Nat.le_refl _)) (HA1.out.below Bel_5.out (Nat.le_refl _)) (HA2.out.below Bel_5.out (Nat.le_refl _)) hlD hln hlV HM.out).mono ?_
    rintro e w4 ⟨xa0, xc0, xa1, xc1, xa2, xc2, xL, rfl, hb, hrx⟩
    clear cBA0 cBA1 cBA2 cBT0 cBT1 cBT2
    have z4 : w3.heap.size + 1 ≤ w4.heap.size := (by have := hb.size; (try simp at this); omega)
    have Bel_6 : Hid (Below w.heap.size w w4) := Lib.hid (Bel_5.out.trans (hb.mono Bel_5.out.size))
    clear Bel_5
    have BA_5 : Hid (Bx w4 (w.heap.size) [.slice a0 D.length c0, .slice a1 n c1, .slice a2 V.length c2]) := Lib.hid (BA_4.out.below hb BA_4.out.1)
    clear BA_4
    have Rt_2 : Hid (RivAt w4 lot hit Lt ta0 ta1 ta2 tc0 tc1 tc2 rn rD rM rV) := Lib.hid (Rt_1.out.below hb Rt_1.out.lh)
    clear Rt_1
    have BT_1 : Hid (Bx w4 (w3.heap.size) [.slice ta0 rD.length tc0, .slice ta1 rn tc1, .slice ta2 rV.length tc2]) := Lib.hid (BT_0.out.below hb BT_0.out.1)
    clear BT_0
    clear hb
    have Qx_0 : Hid (RivAt w4 (w3.heap.size + 1) w4.heap.size xL xa0 xa1 xa2 xc0 xc1 xc2 n D M V) := Lib.hid (hrx.wide (lo' := w3.heap.size + 1) (by simp) (Nat.le_refl _) hrx.lh)
    clear hrx
    have Bel_7 : Hid (Below w.heap.size w (w4.alloc (.cells #[.slice xa0 D.length xc0, .slice xa1 n xc1, .slice xa2 V.length xc2] 30))) := Lib.hid (Bel_6.out.alloc Bel_6.out.size _)
    clear Bel_6
    have BA_6 : Hid (Bx (w4.alloc (.cells #[.slice xa0 D.length xc0, .slice xa1 n xc1, .slice xa2 V.length xc2] 30)) (w.heap.size) [.slice a0 D.length c0, .slice a1 n c1, .slice a2 V.length c2]) := Lib.hid (BA_5.out.alloc _)
    clear BA_5
    have Rt_3 : Hid (RivAt (w4.alloc (.cells #[.slice xa0 D.length xc0, .slice xa1 n xc1, .slice xa2 V.length xc2] 30)) lot hit Lt ta0 ta1 ta2 tc0 tc1 tc2 rn rD rM rV) := Lib.hid (Rt_2.out.alloc _)
    clear Rt_2
    have BT_2 : Hid (Bx (w4.alloc (.cells #[.slice xa0 D.length xc0, .slice xa1 n xc1, .slice xa2 V.length xc2] 30)) (w3.heap.size) [.slice ta0 rD.length tc0, .slice ta1 rn tc1, .slice ta2 rV.length tc2]) := Lib.hid (BT_1.out.alloc _)
    clear BT_1
    have Qx_1 : Hid (RivAt (w4.alloc (.cells #[.slice xa0 D.length xc0, .slice xa1 n xc1, .slice xa2 V.length xc2] 30)) (w3.heap.size + 1) w4.heap.size xL xa0 xa1 xa2 xc0 xc1 xc2 n D M V) := Lib.hid (Qx_0.out.alloc _)
    clear Qx_0
    have BX_0 : Hid (Bx (w4.alloc (.cells #[.slice xa0 D.length xc0, .slice xa1 n xc1, .slice xa2 V.length xc2] 30)) (w4.heap.size) [.slice xa0 D.length xc0, .slice xa1 n xc1, .slice xa2 V.length xc2]) := Lib.hid (Bx.new w4 [.slice xa0 D.length xc0, .slice xa1 n xc1, .slice xa2 V.length xc2] 30)
    have cBA0 := BA_6.out.c 0 rfl
    have cBA1 := BA_6.out.c 1 rfl
    have cBA2 := BA_6.out.c 2 rfl
    have cBT0 := BT_2.out.c 0 rfl
    have cBT1 := BT_2.out.c 1 rfl
    have cBT2 := BT_2.out.c 2 rfl
    have cBX0 := BX_0.out.c 0 rfl
    have cBX1 := BX_0.out.c 1 rfl
    have cBX2 := BX_0.out.c 2 rfl
    go_wp2_with fail
    refine (HI.out xa0 xa1 xa2 xc0 xc1 xc2 _ Qx_1.out.r0.row Qx_1.out.r1.row Qx_1.out.r2.row).mono ?_
    rintro e w5 ⟨log, hig, Lg, ga0, gc0, ga1, gc1, ga2, gc2, rfl, hb, hrg, hlog⟩
    clear cBA0 cBA1 cBA2 cBT0 cBT1 cBT2 cBX0 cBX1 cBX2
    have z5 : w4.heap.size + 1 ≤ w5.heap.size := (by have := hb.size; (try simp at this); omega)
    have Bel_8 : Hid (Below w.heap.size w w5) := Lib.hid (Bel_7.out.trans (hb.mono Bel_7.out.size))
    clear Bel_7
    have BA_7 : Hid (Bx w5 (w.heap.size) [.slice a0 D.length c0, .slice a1 n c1, .slice a2 V.length c2]) := Lib.hid (BA_6.out.below hb BA_6.out.1)
    clear BA_6
    have Rt_4 : Hid (RivAt w5 lot hit Lt ta0 ta1 ta2 tc0 tc1 tc2 rn rD rM rV) := Lib.hid (Rt_3.out.below hb Rt_3.out.lh)
    clear Rt_3
    have BT_3 : Hid (Bx w5 (w3.heap.size) [.slice ta0 rD.length tc0, .slice ta1 rn tc1, .slice ta2 rV.length tc2]) := Lib.hid (BT_2.out.below hb BT_2.out.1)
    clear BT_2
    have Qx_2 : Hid (RivAt w5 (w3.heap.size + 1) w4.heap.size xL xa0 xa1 xa2 xc0 xc1 xc2 n D M V) := Lib.hid (Qx_1.out.below hb Qx_1.out.lh)
    clear Qx_1
    have BX_1 : Hid (Bx w5 (w4.heap.size) [.slice xa0 D.length xc0, .slice xa1 n xc1, .slice xa2 V.length xc2]) := Lib.hid (BX_0.out.below hb BX_0.out.1)
    clear BX_0
    simp only at hrg
    have hlg : (w4.alloc (.cells #[.slice xa0 D.length xc0, .slice xa1 n xc1, .slice xa2 V.length xc2] 30)).heap.size ≤ log := by (try simp at hlog); (try simp); omega
    have hhg : hig ≤ w5.heap.size := hrg.lh
    (try simp at hlg)
    clear hlog
    clear hb
    have Rg_0 : Hid (RivAt w5 log hig Lg ga0 ga1 ga2 gc0 gc1 gc2 rn rD rM rV) := Lib.hid (hrg)
    clear hrg
    have Bel_9 : Hid (Below w.heap.size w (w5.alloc (.cells #[.slice ga0 rD.length gc0, .slice ga1 rn gc1, .slice ga2 rV.length gc2] 30))) := Lib.hid (Bel_8.out.alloc Bel_8.out.size _)
    clear Bel_8
    have BA_8 : Hid (Bx (w5.alloc (.cells #[.slice ga0 rD.length gc0, .slice ga1 rn gc1, .slice ga2 rV.length gc2] 30)) (w.heap.size) [.slice a0 D.length c0, .slice a1 n c1, .slice a2 V.length c2]) := Lib.hid (BA_7.out.alloc _)
    clear BA_7
    have Rt_5 : Hid (RivAt (w5.alloc (.cells #[.slice ga0 rD.length gc0, .slice ga1 rn gc1, .slice ga2 rV.length gc2] 30)) lot hit Lt ta0 ta1 ta2 tc0 tc1 tc2 rn rD rM rV) := Lib.hid (Rt_4.out.alloc _)
    clear Rt_4
    have BT_4 : Hid (Bx (w5.alloc (.cells #[.slice ga0 rD.length gc0, .slice ga1 rn gc1, .slice ga2 rV.length gc2] 30)) (w3.heap.size) [.slice ta0 rD.length tc0, .slice ta1 rn tc1, .slice ta2 rV.length tc2]) := Lib.hid (BT_3.out.alloc _)
    clear BT_3
    have Qx_3 : Hid (RivAt (w5.alloc (.cells #[.slice ga0 rD.length gc0, .slice ga1 rn gc1, .slice ga2 rV.length gc2] 30)) (w3.heap.size + 1) w4.heap.size xL xa0 xa1 xa2 xc0 xc1 xc2 n D M V) := Lib.hid (Qx_2.out.alloc _)
    clear Qx_2
    have BX_2 : Hid (Bx (w5.alloc (.cells #[.slice ga0 rD.length gc0, .slice ga1 rn gc1, .slice ga2 rV.length gc2] 30)) (w4.heap.size) [.slice xa0 D.length xc0, .slice xa1 n xc1, .slice xa2 V.length xc2]) := Lib.hid (BX_1.out.alloc _)
    clear BX_1
    have Rg_1 : Hid (RivAt (w5.alloc (.cells #[.slice ga0 rD.length gc0, .slice ga1 rn gc1, .slice ga2 rV.length gc2] 30)) log hig Lg ga0 ga1 ga2 gc0 gc1 gc2 rn rD rM rV) := Lib.hid (Rg_0.out.alloc _)
    clear Rg_0
    have BG_0 : Hid (Bx (w5.alloc (.cells #[.slice ga0 rD.length gc0, .slice ga1 rn gc1, .slice ga2 rV.length gc2] 30)) (w5.heap.size) [.slice ga0 rD.length gc0, .slice ga1 rn gc1, .slice ga2 rV.length gc2]) := Lib.hid (Bx.new w5 [.slice ga0 rD.length gc0, .slice ga1 rn gc1, .slice ga2 rV.length gc2] 30)
    have cBA0 := BA_8.out.c 0 rfl
    have cBA1 := BA_8.out.c 1 rfl
    have cBA2 := BA_8.out.c 2 rfl
    have cBT0 := BT_4.out.c 0 rfl
    have cBT1 := BT_4.out.c 1 rfl
    have cBT2 := BT_4.out.c 2 rfl
    have cBX0 := BX_2.out.c 0 rfl
    have cBX1 := BX_2.out.c 1 rfl
    have cBX2 := BX_2.out.c 2 rfl
    have cBG0 := BG_0.out.c 0 rfl
    have cBG1 := BG_0.out.c 1 rfl
    have cBG2 := BG_0.out.c 2 rfl
    go_wp2_with fail
    refine (eqRiver_any ga0 ga1 ga2 ta0 ta1 ta2 gc0 gc1 gc2 tc0 tc1 tc2 rn rD rM rV _ Rg_1.out.r0.row Rg_1.out.r1.row Rg_1.out.r2.row hlim.1 hlim.2.1 hlim.2.2 HRM.out Rt_5.out.r0.row Rt_5.out.r1.row Rt_5.out.r2.row).mono ?_
    rintro e w6 ⟨rfl, hb⟩
    clear cBA0 cBA1 cBA2 cBT0 cBT1 cBT2 cBX0 cBX1 cBX2 cBG0 cBG1 cBG2
    have z6 : w5.heap.size + 1 ≤ w6.heap.size := (by have := hb.size; (try simp at this); omega)
    have Bel_10 : Hid (Below w.heap.size w w6) := Lib.hid (Bel_9.out.trans (hb.mono Bel_9.out.size))
    clear Bel_9
    have BA_9 : Hid (Bx w6 (w.heap.size) [.slice a0 D.length c0, .slice a1 n c1, .slice a2 V.length c2]) := Lib.hid (BA_8.out.below hb BA_8.out.1)
    clear BA_8
    have Rt_6 : Hid (RivAt w6 lot hit Lt ta0 ta1 ta2 tc0 tc1 tc2 rn rD rM rV) := Lib.hid (Rt_5.out.below hb Rt_5.out.lh)
    clear Rt_5
    have BT_5 : Hid (Bx w6 (w3.heap.size) [.slice ta0 rD.length tc0, .slice ta1 rn tc1, .slice ta2 rV.length tc2]) := Lib.hid (BT_4.out.below hb BT_4.out.1)
    clear BT_4
    have Qx_4 : Hid (RivAt w6 (w3.heap.size + 1) w4.heap.size xL xa0 xa1 xa2 xc0 xc1 xc2 n D M V) := Lib.hid (Qx_3.out.below hb Qx_3.out.lh)
    clear Qx_3
    have BX_3 : Hid (Bx w6 (w4.heap.size) [.slice xa0 D.length xc0, .slice xa1 n xc1, .slice xa2 V.length xc2]) := Lib.hid (BX_2.out.below hb BX_2.out.1)
    clear BX_2
    have Rg_2 : Hid (RivAt w6 log hig Lg ga0 ga1 ga2 gc0 gc1 gc2 rn rD rM rV) := Lib.hid (Rg_1.out.below hb Rg_1.out.lh)
    clear Rg_1
    have BG_1 : Hid (Bx w6 (w5.heap.size) [.slice ga0 rD.length gc0, .slice ga1 rn gc1, .slice ga2 rV.length gc2]) := Lib.hid (BG_0.out.below hb BG_0.out.1)
    clear BG_0
    clear hb
    have cBA0 := BA_9.out.c 0 rfl
    have cBA1 := BA_9.out.c 1 rfl
    have cBA2 := BA_9.out.c 2 rfl
    have cBT0 := BT_5.out.c 0 rfl
    have cBT1 := BT_5.out.c 1 rfl
    have cBT2 := BT_5.out.c 2 rfl
    have cBX0 := BX_3.out.c 0 rfl
    have cBX1 := BX_3.out.c 1 rfl
    have cBX2 := BX_3.out.c 2 rfl
    have cBG0 := BG_1.out.c 0 rfl
    have cBG1 := BG_1.out.c 1 rfl
    have cBG2 := BG_1.out.c 2 rfl
    go_wp2_with fail
    have HK6 : Hid (w6.cell? ⟨w.heap.size, 0, none⟩ = some (.slice a0 D.length c0) ∧ w6.cell? ⟨w.heap.size, 1, none⟩ = some (.slice a1 n c1) ∧ w6.cell? ⟨w.heap.size, 2, none⟩ = some (.slice a2 V.length c2) ∧ w6.cell? ⟨w4.heap.size, 0, none⟩ = some (.slice xa0 D.length xc0) ∧ w6.cell? ⟨w4.heap.size, 1, none⟩ = some (.slice xa1 n xc1) ∧ w6.cell? ⟨w4.heap.size, 2, none⟩ = some (.slice xa2 V.length xc2)) := Lib.hid ⟨BA_9.out.c 0 rfl, BA_9.out.c 1 rfl, BA_9.out.c 2 rfl, BX_3.out.c 0 rfl, BX_3.out.c 1 rfl, BX_3.out.c 2 rfl⟩
    go_region_held3 (fun w' => w'.cell? ⟨w.heap.size, 0, none⟩ = some (.slice a0 D.length c0) ∧ w'.cell? ⟨w.heap.size, 1, none⟩ = some (.slice a1 n c1) ∧ w'.cell? ⟨w.heap.size, 2, none⟩ = some (.slice a2 V.length c2) ∧ w'.cell? ⟨w4.heap.size, 0, none⟩ = some (.slice xa0 D.length xc0) ∧ w'.cell? ⟨w4.heap.size, 1, none⟩ = some (.slice xa1 n xc1) ∧ w'.cell? ⟨w4.heap.size, 2, none⟩ = some (.slice xa2 V.length xc2))
      (first | with_reducible exact HK8.out | with_reducible exact HK7.out | exact HK6.out)
      (first | (go_at_call 17; refine (toRiver_any a0 a1 a2 c0 c1 c2 n D M V _ (by first | with_reducible exact HA0.out.below Bel_10.out (Nat.le_refl _) | with_reducible exact (HA0.out.below Bel_10.out (Nat.le_refl _)).drewN 1 | exact HA0.out.below Bel_10.out.drew (Nat.le_refl _)) (by first | with_reducible exact HA1.out.below Bel_10.out (Nat.le_refl _) | with_reducible exact (HA1.out.below Bel_10.out (Nat.le_refl _)).drewN 1 | exact HA1.out.below Bel_10.out.drew (Nat.le_refl _)) (by first | with_reducible exact HA2.out.below Bel_10.out (Nat.le_refl _) | with_reducible exact (HA2.out.below Bel_10.out (Nat.le_refl _)).drewN 1 | exact HA2.out.below Bel_10.out.drew (Nat.le_refl _)) hlD hln hlV HM.out).mono ?_; rintro e w7 ⟨za0, zc0, za1, zc1, za2, zc2, zL, rfl, hb, hr⟩; have hst : Below w6.heap.size w6 w7 := (by first | with_reducible exact hb | with_reducible exact (Below.refl _ _).drew.trans (hb.mono (le_drew _))); have z7 : w6.heap.size ≤ w7.heap.size := hst.size; have Bel_11 : Hid (Below w.heap.size w w7) := Lib.hid (Bel_10.out.trans (hst.mono Bel_10.out.size)); clear Bel_10; have BA_10 : Hid (Bx w7 (w.heap.size) [.slice a0 D.length c0, .slice a1 n c1, .slice a2 V.length c2]) := Lib.hid (BA_9.out.below hst BA_9.out.1); clear BA_9; have Rt_7 : Hid (RivAt w7 lot hit Lt ta0 ta1 ta2 tc0 tc1 tc2 rn rD rM rV) := Lib.hid (Rt_6.out.below hst Rt_6.out.lh); clear Rt_6; have BT_6 : Hid (Bx w7 (w3.heap.size) [.slice ta0 rD.length tc0, .slice ta1 rn tc1, .slice ta2 rV.length tc2]) := Lib.hid (BT_5.out.below hst BT_5.out.1); clear BT_5; have Qx_5 : Hid (RivAt w7 (w3.heap.size + 1) w4.heap.size xL xa0 xa1 xa2 xc0 xc1 xc2 n D M V) := Lib.hid (Qx_4.out.below hst Qx_4.out.lh); clear Qx_4; have BX_4 : Hid (Bx w7 (w4.heap.size) [.slice xa0 D.length xc0, .slice xa1 n xc1, .slice xa2 V.length xc2]) := Lib.hid (BX_3.out.below hst BX_3.out.1); clear BX_3; have Rg_3 : Hid (RivAt w7 log hig Lg ga0 ga1 ga2 gc0 gc1 gc2 rn rD rM rV) := Lib.hid (Rg_2.out.below hst Rg_2.out.lh); clear Rg_2; have BG_2 : Hid (Bx w7 (w5.heap.size) [.slice ga0 rD.length gc0, .slice ga1 rn gc1, .slice ga2 rV.length gc2]) := Lib.hid (BG_1.out.below hst BG_1.out.1); clear BG_1; have HK7 : Hid (w7.cell? ⟨w.heap.size, 0, none⟩ = some (.slice a0 D.length c0) ∧ w7.cell? ⟨w.heap.size, 1, none⟩ = some (.slice a1 n c1) ∧ w7.cell? ⟨w.heap.size, 2, none⟩ = some (.slice a2 V.length c2) ∧ w7.cell? ⟨w4.heap.size, 0, none⟩ = some (.slice xa0 D.length xc0) ∧ w7.cell? ⟨w4.heap.size, 1, none⟩ = some (.slice xa1 n xc1) ∧ w7.cell? ⟨w4.heap.size, 2, none⟩ = some (.slice xa2 V.length xc2)) := Lib.hid ⟨BA_10.out.c 0 rfl, BA_10.out.c 1 rfl, BA_10.out.c 2 rfl, BX_4.out.c 0 rfl, BX_4.out.c 1 rfl, BX_4.out.c 2 rfl⟩; have RZ7 := Lib.hid hr; clear hr; clear hb hst) | (go_at_call 19; refine (eqRiver_any xa0 xa1 xa2 za0 za1 za2 xc0 xc1 xc2 zc0 zc1 zc2 n D M V _ Qx_5.out.r0.row Qx_5.out.r1.row Qx_5.out.r2.row hlD hln hlV HM.out RZ7.out.r0.row RZ7.out.r1.row RZ7.out.r2.row).mono ?_; rintro e w8 ⟨rfl, hb⟩; have hst : Below w7.heap.size w7 w8 := (by first | with_reducible exact hb | with_reducible exact (Below.refl _ _).drew.trans (hb.mono (le_drew _))); have z8 : w7.heap.size ≤ w8.heap.size := hst.size; have Bel_12 : Hid (Below w.heap.size w w8) := Lib.hid (Bel_11.out.trans (hst.mono Bel_11.out.size)); clear Bel_11; have BA_11 : Hid (Bx w8 (w.heap.size) [.slice a0 D.length c0, .slice a1 n c1, .slice a2 V.length c2]) := Lib.hid (BA_10.out.below hst BA_10.out.1); clear BA_10; have Rt_8 : Hid (RivAt w8 lot hit Lt ta0 ta1 ta2 tc0 tc1 tc2 rn rD rM rV) := Lib.hid (Rt_7.out.below hst Rt_7.out.lh); clear Rt_7; have BT_7 : Hid (Bx w8 (w3.heap.size) [.slice ta0 rD.length tc0, .slice ta1 rn tc1, .slice ta2 rV.length tc2]) := Lib.hid (BT_6.out.below hst BT_6.out.1); clear BT_6; have Qx_6 : Hid (RivAt w8 (w3.heap.size + 1) w4.heap.size xL xa0 xa1 xa2 xc0 xc1 xc2 n D M V) := Lib.hid (Qx_5.out.below hst Qx_5.out.lh); clear Qx_5; have BX_5 : Hid (Bx w8 (w4.heap.size) [.slice xa0 D.length xc0, .slice xa1 n xc1, .slice xa2 V.length xc2]) := Lib.hid (BX_4.out.below hst BX_4.out.1); clear BX_4; have Rg_4 : Hid (RivAt w8 log hig Lg ga0 ga1 ga2 gc0 gc1 gc2 rn rD rM rV) := Lib.hid (Rg_3.out.below hst Rg_3.out.lh); clear Rg_3; have BG_3 : Hid (Bx w8 (w5.heap.size) [.slice ga0 rD.length gc0, .slice ga1 rn gc1, .slice ga2 rV.length gc2]) := Lib.hid (BG_2.out.below hst BG_2.out.1); clear BG_2; have HK8 : Hid (w8.cell? ⟨w.heap.size, 0, none⟩ = some (.slice a0 D.length c0) ∧ w8.cell? ⟨w.heap.size, 1, none⟩ = some (.slice a1 n c1) ∧ w8.cell? ⟨w.heap.size, 2, none⟩ = some (.slice a2 V.length c2) ∧ w8.cell? ⟨w4.heap.size, 0, none⟩ = some (.slice xa0 D.length xc0) ∧ w8.cell? ⟨w4.heap.size, 1, none⟩ = some (.slice xa1 n xc1) ∧ w8.cell? ⟨w4.heap.size, 2, none⟩ = some (.slice xa2 V.length xc2)) := Lib.hid ⟨BA_11.out.c 0 rfl, BA_11.out.c 1 rfl, BA_11.out.c 2 rfl, BX_5.out.c 0 rfl, BX_5.out.c 1 rfl, BX_5.out.c 2 rfl⟩; clear RZ7; clear hb hst))
    try clear HK6
    try clear HK7
    try clear HK8
    clear cBA0 cBA1 cBA2 cBT0 cBT1 cBT2 cBX0 cBX1 cBX2 cBG0 cBG1 cBG2
    have hcn : ¬ ((1 + D.length + n * 4 + V.length : Nat) : Int) < 0 := by omega
    have cBA0 := BA_11.out.c 0 rfl
    have cBA1 := BA_11.out.c 1 rfl
    have cBA2 := BA_11.out.c 2 rfl
    have cBT0 := BT_7.out.c 0 rfl
    have cBT1 := BT_7.out.c 1 rfl
    have cBT2 := BT_7.out.c 2 rfl
    have cBX0 := BX_5.out.c 0 rfl
    have cBX1 := BX_5.out.c 1 rfl
    have cBX2 := BX_5.out.c 2 rfl
    have cBG0 := BG_3.out.c 0 rfl
    have cBG1 := BG_3.out.c 1 rfl
    have cBG2 := BG_3.out.c 2 rfl
    go_wp2_with fail
    have hmk := markRiver_any (w3.heap.size + 1) w4.heap.size 1 xL xa0 xa1 xa2 xc0 xc1 xc2 n D M V _ Qx_6.out hlD hln hlV (by omega)
    clear Qx_6
    refine (hmk).mono ?_
    rintro e w9 ⟨rfl, hf, hk⟩
    clear cBA0 cBA1 cBA2 cBT0 cBT1 cBT2 cBX0 cBX1 cBX2 cBG0 cBG1 cBG2
    have z9 : w8.heap.size + 0 ≤ w9.heap.size := (by have := hk.size; (try simp at this); omega)
    have Bel_13 : Hid (Below w.heap.size w w9) := Lib.hid (Bel_12.out.trans (hk.below (by omega) (by omega)))
    clear Bel_12
    have BA_12 : Hid (Bx w9 (w.heap.size) [.slice a0 D.length c0, .slice a1 n c1, .slice a2 V.length c2]) := Lib.hid (BA_11.out.kept hk (by first | exact .inl (by omega) | exact .inr (by omega) | omega))
    clear BA_11
    have Rt_9 : Hid (RivAt w9 lot hit Lt ta0 ta1 ta2 tc0 tc1 tc2 rn rD rM rV) := Lib.hid (Rt_8.out.kept hk (by first | exact .inl (by omega) | exact .inr (by omega) | omega))
    clear Rt_8
    have BT_8 : Hid (Bx w9 (w3.heap.size) [.slice ta0 rD.length tc0, .slice ta1 rn tc1, .slice ta2 rV.length tc2]) := Lib.hid (BT_7.out.kept hk (by first | exact .inl (by omega) | exact .inr (by omega) | omega))
    clear BT_7
    have BX_6 : Hid (Bx w9 (w4.heap.size) [.slice xa0 D.length xc0, .slice xa1 n xc1, .slice xa2 V.length xc2]) := Lib.hid (BX_5.out.kept hk (by first | exact .inl (by omega) | exact .inr (by omega) | omega))
    clear BX_5
    have Rg_5 : Hid (RivAt w9 log hig Lg ga0 ga1 ga2 gc0 gc1 gc2 rn rD rM rV) := Lib.hid (Rg_4.out.kept hk (by first | exact .inl (by omega) | exact .inr (by omega) | omega))
    clear Rg_4
    have BG_4 : Hid (Bx w9 (w5.heap.size) [.slice ga0 rD.length gc0, .slice ga1 rn gc1, .slice ga2 rV.length gc2]) := Lib.hid (BG_3.out.kept hk (by first | exact .inl (by omega) | exact .inr (by omega) | omega))
    clear BG_3
    clear hk
    have Qx_0 : Hid (MarkedR w9 (w3.heap.size + 1) w4.heap.size xL 1 xa0 xa1 xa2 xc0 xc1 xc2 D.length n V.length) := Lib.hid (hf)
    clear hf
    clear Qx_0
    have cBA0 := BA_12.out.c 0 rfl
    have cBA1 := BA_12.out.c 1 rfl
    have cBA2 := BA_12.out.c 2 rfl
    have cBT0 := BT_8.out.c 0 rfl
    have cBT1 := BT_8.out.c 1 rfl
    have cBT2 := BT_8.out.c 2 rfl
    have cBX0 := BX_6.out.c 0 rfl
    have cBX1 := BX_6.out.c 1 rfl
    have cBX2 := BX_6.out.c 2 rfl
    have cBG0 := BG_4.out.c 0 rfl
    have cBG1 := BG_4.out.c 1 rfl
    have cBG2 := BG_4.out.c 2 rfl
    go_wp2_with fail
    refine (eqRiver_any ga0 ga1 ga2 ta0 ta1 ta2 gc0 gc1 gc2 tc0 tc1 tc2 rn rD rM rV _ Rg_5.out.r0.row Rg_5.out.r1.row Rg_5.out.r2.row hlim.1 hlim.2.1 hlim.2.2 HRM.out Rt_9.out.r0.row Rt_9.out.r1.row Rt_9.out.r2.row).mono ?_
    rintro e w10 ⟨rfl, hb⟩
    clear cBA0 cBA1 cBA2 cBT0 cBT1 cBT2 cBX0 cBX1 cBX2 cBG0 cBG1 cBG2
    have z10 : w9.heap.size + 0 ≤ w10.heap.size := (by have := hb.size; (try simp at this); omega)
    have Bel_14 : Hid (Below w.heap.size w w10) := Lib.hid (Bel_13.out.trans (hb.mono Bel_13.out.size))
    clear Bel_13
    have BA_13 : Hid (Bx w10 (w.heap.size) [.slice a0 D.length c0, .slice a1 n c1, .slice a2 V.length c2]) := Lib.hid (BA_12.out.below hb BA_12.out.1)
    clear BA_12
    have Rt_10 : Hid (RivAt w10 lot hit Lt ta0 ta1 ta2 tc0 tc1 tc2 rn rD rM rV) := Lib.hid (Rt_9.out.below hb Rt_9.out.lh)
    clear Rt_9
    have BT_9 : Hid (Bx w10 (w3.heap.size) [.slice ta0 rD.length tc0, .slice ta1 rn tc1, .slice ta2 rV.length tc2]) := Lib.hid (BT_8.out.below hb BT_8.out.1)
    clear BT_8
    have BX_7 : Hid (Bx w10 (w4.heap.size) [.slice xa0 D.length xc0, .slice xa1 n xc1, .slice xa2 V.length xc2]) := Lib.hid (BX_6.out.below hb BX_6.out.1)
    clear BX_6
    have Rg_6 : Hid (RivAt w10 log hig Lg ga0 ga1 ga2 gc0 gc1 gc2 rn rD rM rV) := Lib.hid (Rg_5.out.below hb Rg_5.out.lh)
    clear Rg_5
    have BG_5 : Hid (Bx w10 (w5.heap.size) [.slice ga0 rD.length gc0, .slice ga1 rn gc1, .slice ga2 rV.length gc2]) := Lib.hid (BG_4.out.below hb BG_4.out.1)
    clear BG_4
    clear hb
    have cBA0 := BA_13.out.c 0 rfl
    have cBA1 := BA_13.out.c 1 rfl
    have cBA2 := BA_13.out.c 2 rfl
    have cBT0 := BT_9.out.c 0 rfl
    have cBT1 := BT_9.out.c 1 rfl
    have cBT2 := BT_9.out.c 2 rfl
    have cBX0 := BX_7.out.c 0 rfl
    have cBX1 := BX_7.out.c 1 rfl
    have cBX2 := BX_7.out.c 2 rfl
    have cBG0 := BG_5.out.c 0 rfl
    have cBG1 := BG_5.out.c 1 rfl
    have cBG2 := BG_5.out.c 2 rfl
    go_wp2_with fail
    have hmk := markRiver_any log hig 1 Lg ga0 ga1 ga2 gc0 gc1 gc2 rn rD rM rV _ Rg_6.out hlim.1 hlim.2.1 hlim.2.2 (by omega)
    clear Rg_6
    refine (hmk).mono ?_
    rintro e w11 ⟨rfl, hf, hk⟩
    clear cBA0 cBA1 cBA2 cBT0 cBT1 cBT2 cBX0 cBX1 cBX2 cBG0 cBG1 cBG2
    have z11 : w10.heap.size + 0 ≤ w11.heap.size := (by have := hk.size; (try simp at this); omega)
    have Bel_15 : Hid (Below w.heap.size w w11) := Lib.hid (Bel_14.out.trans (hk.below (by omega) (by omega)))
    clear Bel_14
    have BA_14 : Hid (Bx w11 (w.heap.size) [.slice a0 D.length c0, .slice a1 n c1, .slice a2 V.length c2]) := Lib.hid (BA_13.out.kept hk (by first | exact .inl (by omega) | exact .inr (by omega) | omega))
    clear BA_13
    have Rt_11 : Hid (RivAt w11 lot hit Lt ta0 ta1 ta2 tc0 tc1 tc2 rn rD rM rV) := Lib.hid (Rt_10.out.kept hk (by first | exact .inl (by omega) | exact .inr (by omega) | omega))
    clear Rt_10
    have BT_10 : Hid (Bx w11 (w3.heap.size) [.slice ta0 rD.length tc0, .slice ta1 rn tc1, .slice ta2 rV.length tc2]) := Lib.hid (BT_9.out.kept hk (by first | exact .inl (by omega) | exact .inr (by omega) | omega))
    clear BT_9
    have BX_8 : Hid (Bx w11 (w4.heap.size) [.slice xa0 D.length xc0, .slice xa1 n xc1, .slice xa2 V.length xc2]) := Lib.hid (BX_7.out.kept hk (by first | exact .inl (by omega) | exact .inr (by omega) | omega))
    clear BX_7
    have BG_6 : Hid (Bx w11 (w5.heap.size) [.slice ga0 rD.length gc0, .slice ga1 rn gc1, .slice ga2 rV.length gc2]) := Lib.hid (BG_5.out.kept hk (by first | exact .inl (by omega) | exact .inr (by omega) | omega))
    clear BG_5
    clear hk
    have Rg_0 : Hid (MarkedR w11 log hig Lg 1 ga0 ga1 ga2 gc0 gc1 gc2 rD.length rn rV.length) := Lib.hid (hf)
    clear hf
    have hcm : ¬ ((1 + rD.length + rn * 4 + rV.length : Nat) : Int) < 0 := by omega
    have cBA0 := BA_14.out.c 0 rfl
    have cBA1 := BA_14.out.c 1 rfl
    have cBA2 := BA_14.out.c 2 rfl
    have cBT0 := BT_10.out.c 0 rfl
    have cBT1 := BT_10.out.c 1 rfl
    have cBT2 := BT_10.out.c 2 rfl
    have cBX0 := BX_8.out.c 0 rfl
    have cBX1 := BX_8.out.c 1 rfl
    have cBX2 := BX_8.out.c 2 rfl
    have cBG0 := BG_6.out.c 0 rfl
    have cBG1 := BG_6.out.c 1 rfl
    have cBG2 := BG_6.out.c 2 rfl
    go_wp2_with fail
    refine (heldRiver_any log hig 1 Lg ga0 ga1 ga2 gc0 gc1 gc2 rD.length rn rV.length _ Rg_0.out hlim.1 hlim.2.1 hlim.2.2 (by omega)).mono ?_
    rintro e w12 ⟨rfl, hb⟩
    clear cBA0 cBA1 cBA2 cBT0 cBT1 cBT2 cBX0 cBX1 cBX2 cBG0 cBG1 cBG2
    have z12 : w11.heap.size + 0 ≤ w12.heap.size := (by have := hb.size; (try simp at this); omega)
    have Bel_16 : Hid (Below w.heap.size w w12) := Lib.hid (Bel_15.out.trans (hb.mono Bel_15.out.size))
    clear Bel_15
    have BA_15 : Hid (Bx w12 (w.heap.size) [.slice a0 D.length c0, .slice a1 n c1, .slice a2 V.length c2]) := Lib.hid (BA_14.out.below hb BA_14.out.1)
    clear BA_14
    have Rt_12 : Hid (RivAt w12 lot hit Lt ta0 ta1 ta2 tc0 tc1 tc2 rn rD rM rV) := Lib.hid (Rt_11.out.below hb Rt_11.out.lh)
    clear Rt_11
    have BT_11 : Hid (Bx w12 (w3.heap.size) [.slice ta0 rD.length tc0, .slice ta1 rn tc1, .slice ta2 rV.length tc2]) := Lib.hid (BT_10.out.below hb BT_10.out.1)
    clear BT_10
    have BX_9 : Hid (Bx w12 (w4.heap.size) [.slice xa0 D.length xc0, .slice xa1 n xc1, .slice xa2 V.length xc2]) := Lib.hid (BX_8.out.below hb BX_8.out.1)
    clear BX_8
    have BG_7 : Hid (Bx w12 (w5.heap.size) [.slice ga0 rD.length gc0, .slice ga1 rn gc1, .slice ga2 rV.length gc2]) := Lib.hid (BG_6.out.below hb BG_6.out.1)
    clear BG_6
    have Rg_1 : Hid (MarkedR w12 log hig Lg 1 ga0 ga1 ga2 gc0 gc1 gc2 rD.length rn rV.length) := Lib.hid (Rg_0.out.below hb Rg_0.out.lh)
    clear Rg_0
    clear hb
    have cBA0 := BA_15.out.c 0 rfl
    have cBA1 := BA_15.out.c 1 rfl
    have cBA2 := BA_15.out.c 2 rfl
    have cBT0 := BT_11.out.c 0 rfl
    have cBT1 := BT_11.out.c 1 rfl
    have cBT2 := BT_11.out.c 2 rfl
    have cBX0 := BX_9.out.c 0 rfl
    have cBX1 := BX_9.out.c 1 rfl
    have cBX2 := BX_9.out.c 2 rfl
    have cBG0 := BG_7.out.c 0 rfl
    have cBG1 := BG_7.out.c 1 rfl
    have cBG2 := BG_7.out.c 2 rfl
    go_wp2_with fail
    refine (toRiver_any a0 a1 a2 c0 c1 c2 n D M V _ (HA0.out.below Bel_16.out (Nat.le_refl _)) (HA1.out.below Bel_16.out (Nat.le_refl _)) (HA2.out.below Bel_16.out (Nat.le_refl _)) hlD hln hlV HM.out).mono ?_
    rintro e w13 ⟨ea0, ec0, ea1, ec1, ea2, ec2, eL, rfl, hb, hre⟩
    clear cBA0 cBA1 cBA2 cBT0 cBT1 cBT2 cBX0 cBX1 cBX2 cBG0 cBG1 cBG2
    have z13 : w12.heap.size + 0 ≤ w13.heap.size := (by have := hb.size; (try simp at this); omega)
    have Bel_17 : Hid (Below w.heap.size w w13) := Lib.hid (Bel_16.out.trans (hb.mono Bel_16.out.size))
    clear Bel_16
    have BA_16 : Hid (Bx w13 (w.heap.size) [.slice a0 D.length c0, .slice a1 n c1, .slice a2 V.length c2]) := Lib.hid (BA_15.out.below hb BA_15.out.1)
    clear BA_15
    have Rt_13 : Hid (RivAt w13 lot hit Lt ta0 ta1 ta2 tc0 tc1 tc2 rn rD rM rV) := Lib.hid (Rt_12.out.below hb Rt_12.out.lh)
    clear Rt_12
    have BT_12 : Hid (Bx w13 (w3.heap.size) [.slice ta0 rD.length tc0, .slice ta1 rn tc1, .slice ta2 rV.length tc2]) := Lib.hid (BT_11.out.below hb BT_11.out.1)
    clear BT_11
    have BX_10 : Hid (Bx w13 (w4.heap.size) [.slice xa0 D.length xc0, .slice xa1 n xc1, .slice xa2 V.length xc2]) := Lib.hid (BX_9.out.below hb BX_9.out.1)
    clear BX_9
    have BG_8 : Hid (Bx w13 (w5.heap.size) [.slice ga0 rD.length gc0, .slice ga1 rn gc1, .slice ga2 rV.length gc2]) := Lib.hid (BG_7.out.below hb BG_7.out.1)
    clear BG_7
    have Rg_2 : Hid (MarkedR w13 log hig Lg 1 ga0 ga1 ga2 gc0 gc1 gc2 rD.length rn rV.length) := Lib.hid (Rg_1.out.below hb Rg_1.out.lh)
    clear Rg_1
    clear hb
    have Qe_0 : Hid (RivAt w13 w12.heap.size w13.heap.size eL ea0 ea1 ea2 ec0 ec1 ec2 n D M V) := Lib.hid (hre)
    clear hre
    have cBA0 := BA_16.out.c 0 rfl
    have cBA1 := BA_16.out.c 1 rfl
    have cBA2 := BA_16.out.c 2 rfl
    have cBT0 := BT_12.out.c 0 rfl
    have cBT1 := BT_12.out.c 1 rfl
    have cBT2 := BT_12.out.c 2 rfl
    have cBX0 := BX_10.out.c 0 rfl
    have cBX1 := BX_10.out.c 1 rfl
    have cBX2 := BX_10.out.c 2 rfl
    have cBG0 := BG_8.out.c 0 rfl
    have cBG1 := BG_8.out.c 1 rfl
    have cBG2 := BG_8.out.c 2 rfl
    go_wp2_with fail
    refine (HI.out ea0 ea1 ea2 ec0 ec1 ec2 _ Qe_0.out.r0.row Qe_0.out.r1.row Qe_0.out.r2.row).mono ?_
    rintro e w14 ⟨loh, hih, Lh, ha0, hc0, ha1, hc1, ha2, hc2, rfl, hb, hrh, hloh⟩
    clear cBA0 cBA1 cBA2 cBT0 cBT1 cBT2 cBX0 cBX1 cBX2 cBG0 cBG1 cBG2
    have z14 : w13.heap.size + 0 ≤ w14.heap.size := (by have := hb.size; (try simp at this); omega)
    have Bel_18 : Hid (Below w.heap.size w w14) := Lib.hid (Bel_17.out.trans (hb.mono Bel_17.out.size))
    clear Bel_17
    have BA_17 : Hid (Bx w14 (w.heap.size) [.slice a0 D.length c0, .slice a1 n c1, .slice a2 V.length c2]) := Lib.hid (BA_16.out.below hb BA_16.out.1)
    clear BA_16
    have Rt_14 : Hid (RivAt w14 lot hit Lt ta0 ta1 ta2 tc0 tc1 tc2 rn rD rM rV) := Lib.hid (Rt_13.out.below hb Rt_13.out.lh)
    clear Rt_13
    have BT_13 : Hid (Bx w14 (w3.heap.size) [.slice ta0 rD.length tc0, .slice ta1 rn tc1, .slice ta2 rV.length tc2]) := Lib.hid (BT_12.out.below hb BT_12.out.1)
    clear BT_12
    have BX_11 : Hid (Bx w14 (w4.heap.size) [.slice xa0 D.length xc0, .slice xa1 n xc1, .slice xa2 V.length xc2]) := Lib.hid (BX_10.out.below hb BX_10.out.1)
    clear BX_10
    have BG_9 : Hid (Bx w14 (w5.heap.size) [.slice ga0 rD.length gc0, .slice ga1 rn gc1, .slice ga2 rV.length gc2]) := Lib.hid (BG_8.out.below hb BG_8.out.1)
    clear BG_8
    have Rg_3 : Hid (MarkedR w14 log hig Lg 1 ga0 ga1 ga2 gc0 gc1 gc2 rD.length rn rV.length) := Lib.hid (Rg_2.out.below hb Rg_2.out.lh)
    clear Rg_2
    have Qe_1 : Hid (RivAt w14 w12.heap.size w13.heap.size eL ea0 ea1 ea2 ec0 ec1 ec2 n D M V) := Lib.hid (Qe_0.out.below hb Qe_0.out.lh)
    clear Qe_0
    simp only at hrh
    have hlh : w13.heap.size ≤ loh := by (try simp at hloh); (try simp); omega
    have hhh : hih ≤ w14.heap.size := hrh.lh
    (try simp at hlh)
    clear hloh
    clear hb
    have Rh_0 : Hid (RivAt w14 loh hih Lh ha0 ha1 ha2 hc0 hc1 hc2 rn rD rM rV) := Lib.hid (hrh)
    clear hrh
    clear Qe_1
    have Bel_19 : Hid (Below w.heap.size w (w14.alloc (.cells #[.slice ha0 rD.length hc0, .slice ha1 rn hc1, .slice ha2 rV.length hc2] 30))) := Lib.hid (Bel_18.out.alloc Bel_18.out.size _)
    clear Bel_18
    have BA_18 : Hid (Bx (w14.alloc (.cells #[.slice ha0 rD.length hc0, .slice ha1 rn hc1, .slice ha2 rV.length hc2] 30)) (w.heap.size) [.slice a0 D.length c0, .slice a1 n c1, .slice a2 V.length c2]) := Lib.hid (BA_17.out.alloc _)
    clear BA_17
    have Rt_15 : Hid (RivAt (w14.alloc (.cells #[.slice ha0 rD.length hc0, .slice ha1 rn hc1, .slice ha2 rV.length hc2] 30)) lot hit Lt ta0 ta1 ta2 tc0 tc1 tc2 rn rD rM rV) := Lib.hid (Rt_14.out.alloc _)
    clear Rt_14
    have BT_14 : Hid (Bx (w14.alloc (.cells #[.slice ha0 rD.length hc0, .slice ha1 rn hc1, .slice ha2 rV.length hc2] 30)) (w3.heap.size) [.slice ta0 rD.length tc0, .slice ta1 rn tc1, .slice ta2 rV.length tc2]) := Lib.hid (BT_13.out.alloc _)
    clear BT_13
    have BX_12 : Hid (Bx (w14.alloc (.cells #[.slice ha0 rD.length hc0, .slice ha1 rn hc1, .slice ha2 rV.length hc2] 30)) (w4.heap.size) [.slice xa0 D.length xc0, .slice xa1 n xc1, .slice xa2 V.length xc2]) := Lib.hid (BX_11.out.alloc _)
    clear BX_11
    have BG_10 : Hid (Bx (w14.alloc (.cells #[.slice ha0 rD.length hc0, .slice ha1 rn hc1, .slice ha2 rV.length hc2] 30)) (w5.heap.size) [.slice ga0 rD.length gc0, .slice ga1 rn gc1, .slice ga2 rV.length gc2]) := Lib.hid (BG_9.out.alloc _)
    clear BG_9
    have Rg_4 : Hid (MarkedR (w14.alloc (.cells #[.slice ha0 rD.length hc0, .slice ha1 rn hc1, .slice ha2 rV.length hc2] 30)) log hig Lg 1 ga0 ga1 ga2 gc0 gc1 gc2 rD.length rn rV.length) := Lib.hid (Rg_3.out.alloc _)
    clear Rg_3
    have Rh_1 : Hid (RivAt (w14.alloc (.cells #[.slice ha0 rD.length hc0, .slice ha1 rn hc1, .slice ha2 rV.length hc2] 30)) loh hih Lh ha0 ha1 ha2 hc0 hc1 hc2 rn rD rM rV) := Lib.hid (Rh_0.out.alloc _)
    clear Rh_0
    have BH_0 : Hid (Bx (w14.alloc (.cells #[.slice ha0 rD.length hc0, .slice ha1 rn hc1, .slice ha2 rV.length hc2] 30)) (w14.heap.size) [.slice ha0 rD.length hc0, .slice ha1 rn hc1, .slice ha2 rV.length hc2]) := Lib.hid (Bx.new w14 [.slice ha0 rD.length hc0, .slice ha1 rn hc1, .slice ha2 rV.length hc2] 30)
    have cBA0 := BA_18.out.c 0 rfl
    have cBA1 := BA_18.out.c 1 rfl
    have cBA2 := BA_18.out.c 2 rfl
    have cBT0 := BT_14.out.c 0 rfl
    have cBT1 := BT_14.out.c 1 rfl
    have cBT2 := BT_14.out.c 2 rfl
    have cBX0 := BX_12.out.c 0 rfl
    have cBX1 := BX_12.out.c 1 rfl
    have cBX2 := BX_12.out.c 2 rfl
    have cBG0 := BG_10.out.c 0 rfl
    have cBG1 := BG_10.out.c 1 rfl
    have cBG2 := BG_10.out.c 2 rfl
    have cBH0 := BH_0.out.c 0 rfl
    have cBH1 := BH_0.out.c 1 rfl
    have cBH2 := BH_0.out.c 2 rfl
    go_wp2_with fail
    refine (eqRiver_any ha0 ha1 ha2 ta0 ta1 ta2 hc0 hc1 hc2 tc0 tc1 tc2 rn rD rM rV _ Rh_1.out.r0.row Rh_1.out.r1.row Rh_1.out.r2.row hlim.1 hlim.2.1 hlim.2.2 HRM.out Rt_15.out.r0.row Rt_15.out.r1.row Rt_15.out.r2.row).mono ?_
    rintro e w15 ⟨rfl, hb⟩
    clear cBA0 cBA1 cBA2 cBT0 cBT1 cBT2 cBX0 cBX1 cBX2 cBG0 cBG1 cBG2 cBH0 cBH1 cBH2
    have z15 : w14.heap.size + 1 ≤ w15.heap.size := (by have := hb.size; (try simp at this); omega)
    have Bel_20 : Hid (Below w.heap.size w w15) := Lib.hid (Bel_19.out.trans (hb.mono Bel_19.out.size))
    clear Bel_19
    have BA_19 : Hid (Bx w15 (w.heap.size) [.slice a0 D.length c0, .slice a1 n c1, .slice a2 V.length c2]) := Lib.hid (BA_18.out.below hb BA_18.out.1)
    clear BA_18
    have Rt_16 : Hid (RivAt w15 lot hit Lt ta0 ta1 ta2 tc0 tc1 tc2 rn rD rM rV) := Lib.hid (Rt_15.out.below hb Rt_15.out.lh)
    clear Rt_15
    have BT_15 : Hid (Bx w15 (w3.heap.size) [.slice ta0 rD.length tc0, .slice ta1 rn tc1, .slice ta2 rV.length tc2]) := Lib.hid (BT_14.out.below hb BT_14.out.1)
    clear BT_14
    have BX_13 : Hid (Bx w15 (w4.heap.size) [.slice xa0 D.length xc0, .slice xa1 n xc1, .slice xa2 V.length xc2]) := Lib.hid (BX_12.out.below hb BX_12.out.1)
    clear BX_12
    have BG_11 : Hid (Bx w15 (w5.heap.size) [.slice ga0 rD.length gc0, .slice ga1 rn gc1, .slice ga2 rV.length gc2]) := Lib.hid (BG_10.out.below hb BG_10.out.1)
    clear BG_10
    have Rg_5 : Hid (MarkedR w15 log hig Lg 1 ga0 ga1 ga2 gc0 gc1 gc2 rD.length rn rV.length) := Lib.hid (Rg_4.out.below hb Rg_4.out.lh)
    clear Rg_4
    have Rh_2 : Hid (RivAt w15 loh hih Lh ha0 ha1 ha2 hc0 hc1 hc2 rn rD rM rV) := Lib.hid (Rh_1.out.below hb Rh_1.out.lh)
    clear Rh_1
    have BH_1 : Hid (Bx w15 (w14.heap.size) [.slice ha0 rD.length hc0, .slice ha1 rn hc1, .slice ha2 rV.length hc2]) := Lib.hid (BH_0.out.below hb BH_0.out.1)
    clear BH_0
    clear hb
    have cBA0 := BA_19.out.c 0 rfl
    have cBA1 := BA_19.out.c 1 rfl
    have cBA2 := BA_19.out.c 2 rfl
    have cBT0 := BT_15.out.c 0 rfl
    have cBT1 := BT_15.out.c 1 rfl
    have cBT2 := BT_15.out.c 2 rfl
    have cBX0 := BX_13.out.c 0 rfl
    have cBX1 := BX_13.out.c 1 rfl
    have cBX2 := BX_13.out.c 2 rfl
    have cBG0 := BG_11.out.c 0 rfl
    have cBG1 := BG_11.out.c 1 rfl
    have cBG2 := BG_11.out.c 2 rfl
    have cBH0 := BH_1.out.c 0 rfl
    have cBH1 := BH_1.out.c 1 rfl
    have cBH2 := BH_1.out.c 2 rfl
    go_wp2_with fail
    refine (heldRiver_any log hig 1 Lg ga0 ga1 ga2 gc0 gc1 gc2 rD.length rn rV.length _ Rg_5.out hlim.1 hlim.2.1 hlim.2.2 (by omega)).mono ?_
    rintro e w16 ⟨rfl, hb⟩
    clear cBA0 cBA1 cBA2 cBT0 cBT1 cBT2 cBX0 cBX1 cBX2 cBG0 cBG1 cBG2 cBH0 cBH1 cBH2
    have z16 : w15.heap.size + 0 ≤ w16.heap.size := (by have := hb.size; (try simp at this); omega)
    have Bel_21 : Hid (Below w.heap.size w w16) := Lib.hid (Bel_20.out.trans (hb.mono Bel_20.out.size))
    clear Bel_20
    have BA_20 : Hid (Bx w16 (w.heap.size) [.slice a0 D.length c0, .slice a1 n c1, .slice a2 V.length c2]) := Lib.hid (BA_19.out.below hb BA_19.out.1)
    clear BA_19
    have Rt_17 : Hid (RivAt w16 lot hit Lt ta0 ta1 ta2 tc0 tc1 tc2 rn rD rM rV) := Lib.hid (Rt_16.out.below hb Rt_16.out.lh)
    clear Rt_16
    have BT_16 : Hid (Bx w16 (w3.heap.size) [.slice ta0 rD.length tc0, .slice ta1 rn tc1, .slice ta2 rV.length tc2]) := Lib.hid (BT_15.out.below hb BT_15.out.1)
    clear BT_15
    have BX_14 : Hid (Bx w16 (w4.heap.size) [.slice xa0 D.length xc0, .slice xa1 n xc1, .slice xa2 V.length xc2]) := Lib.hid (BX_13.out.below hb BX_13.out.1)
    clear BX_13
    have BG_12 : Hid (Bx w16 (w5.heap.size) [.slice ga0 rD.length gc0, .slice ga1 rn gc1, .slice ga2 rV.length gc2]) := Lib.hid (BG_11.out.below hb BG_11.out.1)
    clear BG_11
    have Rg_6 : Hid (MarkedR w16 log hig Lg 1 ga0 ga1 ga2 gc0 gc1 gc2 rD.length rn rV.length) := Lib.hid (Rg_5.out.below hb Rg_5.out.lh)
    clear Rg_5
    have Rh_3 : Hid (RivAt w16 loh hih Lh ha0 ha1 ha2 hc0 hc1 hc2 rn rD rM rV) := Lib.hid (Rh_2.out.below hb Rh_2.out.lh)
    clear Rh_2
    have BH_2 : Hid (Bx w16 (w14.heap.size) [.slice ha0 rD.length hc0, .slice ha1 rn hc1, .slice ha2 rV.length hc2]) := Lib.hid (BH_1.out.below hb BH_1.out.1)
    clear BH_1
    clear hb
    have cBA0 := BA_20.out.c 0 rfl
    have cBA1 := BA_20.out.c 1 rfl
    have cBA2 := BA_20.out.c 2 rfl
    have cBT0 := BT_16.out.c 0 rfl
    have cBT1 := BT_16.out.c 1 rfl
    have cBT2 := BT_16.out.c 2 rfl
    have cBX0 := BX_14.out.c 0 rfl
    have cBX1 := BX_14.out.c 1 rfl
    have cBX2 := BX_14.out.c 2 rfl
    have cBG0 := BG_12.out.c 0 rfl
    have cBG1 := BG_12.out.c 1 rfl
    have cBG2 := BG_12.out.c 2 rfl
    have cBH0 := BH_2.out.c 0 rfl
    have cBH1 := BH_2.out.c 1 rfl
    have cBH2 := BH_2.out.c 2 rfl
    go_wp2_with fail
    go_ret
    exact ⟨rfl, Bel_21.out⟩

set_option maxHeartbeats 4000000 in
theorem cutWantsLaw_not (a0 a1 a2 : Option Addr) (c0 c1 c2 n : Nat) (D M V : List Int) (x : Int) (y : Int) (w : World) (hmx : D.length ≤ maxLen ∧ n ≤ maxLen ∧ V.length ≤ maxLen) (h : ¬ (D.length : Int) + (n : Int) + (V.length : Int) ≤ 1048576) :
    Calls Try.prog 13 #[.agg #[.slice a0 D.length c0, .slice a1 n c1, .slice a2 V.length c2], .int .i64 x, .int .i64 y] w fun e w' => e = .returned (.bool true) ∧ Below w.heap.size w w' := by
  unfold maxLen at hmx
  have HSz := Lib.hid (szRiver_not a0 a1 a2 D.length n V.length c0 c1 c2 1048576 (by omega) (by omega) (by omega) (by omega) (by omega) (by omega) (w.alloc (.cells #[.slice a0 D.length c0, .slice a1 n c1, .slice a2 V.length c2] 25)))
  clear hmx h
  have hneg : ((-1 : Int) < 0) := by decide
  go_enter Try.func13, Try.ntmps13
  go_wp2_with fail
  refine HSz.out.mono ?_
  rintro e w1 ⟨rfl, hb⟩
  have HB1 : Hid (Below w.heap.size w w1) := Lib.hid ((bel1 w _).trans (hb.mono (by simp)))
  clear hb
  go_wp2_with fail
  go_ret
  exact ⟨rfl, HB1.out⟩
theorem walk_FnExactCutWants (a0 a1 a2 : Option Addr) (l0 n l2 c0 c1 c2 : Nat) (D M V : List Int) (x : Int) (y : Int) (w : World) (ha : IsRiv w a0 a1 a2 l0 n l2 c0 c1 c2 D M V) (hwx : (Lit.int .i64 x).wf = true) (hwy : (Lit.int .i64 y).wf = true) :
    Calls Try.prog 13 #[.agg #[.slice a0 l0 c0, .slice a1 n c1, .slice a2 l2 c2], .int .i64 x, .int .i64 y] w fun e w' => e = .returned (.bool true) ∧ Below w.heap.size w w' := by
  obtain ⟨⟨hl0, hc0, hx0, hr0, _⟩, ⟨hl1, hc1, hx1, hr1, _⟩, ⟨hl2, hc2, hx2, hr2, _⟩⟩ := ha
  rw [Nat.mul_one] at hl0 hl2
  subst hl0; subst hl2
  by_cases h : (D.length : Int) + (n : Int) + (V.length : Int) ≤ 1048576
  · exact cutWantsLaw_fits a0 a1 a2 c0 c1 c2 n D M V x y w hr0 hr1 hr2 hl1 hwx hwy ⟨hc0, hc1, hc2⟩ h
  · exact cutWantsLaw_not a0 a1 a2 c0 c1 c2 n D M V x y w ⟨by omega, by omega, by omega⟩ h
end Go.Proofs.Ytnmmhaadkclogaa
