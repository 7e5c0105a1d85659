/- The walk of the law on RunDays. -/
import Derived.Test.YtckmacnmmloemaaRunDS
import Derived.Test.YtckmacnmmloemaaRunDI
import Derived.Test.YtckmacnmmloemaaRivO
import Derived.Test.YtckmacnmmloemaaRegMk
import Derived.Test.YtckmacnmmloemaaMark2
namespace Go.Proofs.Ytckmacnmmloemaa
open Go.RowKit
set_option linter.unusedVariables false
set_option linter.unusedSimpArgs false
set_option maxRecDepth 100000
attribute [local irreducible] wpV wpList Code.wp

theorem totZ_bound {Zs : List (List Int)} {c : Nat} : ∀ m, (∀ k, k < m → (zr Zs k).length ≤ c) → totZ Zs m ≤ c * m
  | 0, _ => by rw [totZ_zero]; omega
  | m + 1, h => by
    have h1 := totZ_bound m (fun k hk => h k (by omega))
    have h2 := h m (by omega)
    rw [totZ_succ, Nat.mul_succ]; omega
theorem MarkedR.kept {w w' : World} {lo hi lo2 hi2 k : Nat} {L : Lay} {a0 a1 a2 : Option Addr} {c0 c1 c2 l0 n l2 : Nat} (h : MarkedR w lo hi L k a0 a1 a2 c0 c1 c2 l0 n l2) (hk : Kept lo2 hi2 w w') (hd : hi ≤ lo2 ∨ hi2 ≤ lo) : MarkedR w' lo hi L k a0 a1 a2 c0 c1 c2 l0 n l2 :=
  ⟨h.r0.kept hk (by have := h.lay.b0; omega), h.r1.kept hk (by have := h.lay.b1; omega), h.r2.kept hk (by have := h.lay.b2; omega), h.lay, Nat.le_trans h.lh hk.size⟩
set_option maxHeartbeats 32000000 in
theorem runDaysLaw_fits (a0 a1 a2 a : Option Addr) (c0 c1 c2 n cap : Nat) (D M V : List Int) (Zs : List (List Int)) (w : World) (ha0 : RowC w a0 (ic D)) (ha1 : RowC w a1 (ic M)) (ha2 : RowC w a2 (ic V)) (hM : M.length = n * 4) (has : RowSS w a Zs) (h1 : (D.length : Int) + (n : Int) + (V.length : Int) ≤ 1048576) (h2 : (Zs.length : Int) + (totZ Zs Zs.length : Int) ≤ 1048576 - ((D.length : Int) + (n : Int) + (V.length : Int))) :
    Calls Try.prog 4 #[.agg #[.slice a0 D.length c0, .slice a1 n c1, .slice a2 V.length c2], .slice a Zs.length cap] w fun e w' => e = .returned (.bool true) ∧ Below w.heap.size w w' := by
  have hlD : D.length ≤ 1048576 := by omega
  have hln : n ≤ 1048576 := by omega
  have hlV : V.length ≤ 1048576 := by omega
  have g1 : ¬ (1048576 : Int) - (D.length : Int) - (n : Int) - (V.length : Int) < 0 := by omega
  have g2 : ¬ (1048576 : Int) - (D.length : Int) - (n : Int) - (V.length : Int) - (Zs.length : Int) - (totZ Zs Zs.length : Int) < 0 := by omega
  have hlz : Zs.length ≤ 1048576 := by omega
  have hrl : ∀ k, k < Zs.length → (zr Zs k).length ≤ 1048576 := fun k hk => by have h9 := row_le (Zs := Zs) hk; omega
  have hlim := runR_len (D := D) (V := V) (Zs := Zs) hM
  have HM := Lib.hid hM
  clear hM
  obtain ⟨⟨rn, rD, rM, rV, rG, rS, B⟩, hR⟩ : ∃ R, runR D M V n Zs = R := ⟨_, rfl⟩
  rw [hR] at hlim
  simp only at hlim
  obtain ⟨⟨hm1, hm2, hm3⟩, hm4, hm5, hm6⟩ := hlim
  have hlim : rD.length ≤ 1048576 ∧ rn ≤ 1048576 ∧ rV.length ≤ 1048576 := ⟨by omega, by omega, by omega⟩
  have hlS : rS.length ≤ 1048576 := by omega
  have hlG : rG.length ≤ 1048576 := by omega
  have HrG : Hid (∀ k, k < rG.length → (zr rG k).length ≤ 1048576) := Lib.hid fun k hk => by have := hm6 k hk; omega
  have htg := totZ_bound (Zs := rG) (c := 12) rG.length hm6
  clear hm6
  have HS : Hid (∀ (b0 b1 b2 : Option Addr) (d0 d1 d2 : Nat) (f : Option Addr) (fc : Nat) (W : World), RowC W b0 (ic D) → RowC W b1 (ic M) → RowC W b2 (ic V) → RowSS W f Zs → Calls Try.prog 24 #[.agg #[.slice b0 D.length d0, .slice b1 n d1, .slice b2 V.length d2], .slice f Zs.length fc] W (fun e w' => ∃ lo hi L p0 p1 p2 q0 q1 q2 x1 x2 x3 x4 l2 u2 sa za sc zc, e = .returned (.tuple #[.agg #[.slice p0 rD.length q0, .slice p1 rn q1, .slice p2 rV.length q2], .slice sa rG.length sc, .slice za rS.length zc, .bool B]) ∧ Below W.heap.size W w' ∧ RivAt w' lo hi L p0 p1 p2 q0 q1 q2 rn rD rM rV ∧ W.heap.size ≤ lo ∧ HSS w' x1 x2 x3 x4 (.slice sa rG.length sc) rG.length rG ∧ HRow w' 2 1 l2 u2 (.slice za rS.length zc) rS.length (ic rS) ∧ W.heap.size ≤ x1 ∧ W.heap.size ≤ x3 ∧ W.heap.size ≤ l2)) := Lib.hid fun b0 b1 b2 d0 d1 d2 f fc W k0 k1 k2 kf => by
    have h9 := runDays_s b0 b1 b2 f D.length n V.length d0 d1 d2 Zs.length fc D M V Zs W k0 k1 k2 rfl HM.out rfl ⟨hlD, hln, hlV⟩ kf rfl hrl hlz
    rw [hR] at h9
    exact h9
  have HI : Hid (∀ (b0 b1 b2 : Option Addr) (d0 d1 d2 : Nat) (f : Option Addr) (fc : Nat) (W : World), RowC W b0 (ic D) → RowC W b1 (ic M) → RowC W b2 (ic V) → RowSS W f Zs → Calls Try.prog 26 #[.agg #[.slice b0 D.length d0, .slice b1 n d1, .slice b2 V.length d2], .slice f Zs.length fc] W (fun e w' => ∃ lo hi L p0 p1 p2 q0 q1 q2 x1 x2 x3 x4 l2 u2 sa za sc zc, e = .returned (.tuple #[.agg #[.slice p0 rD.length q0, .slice p1 rn q1, .slice p2 rV.length q2], .slice sa rG.length sc, .slice za rS.length zc, .bool B]) ∧ Below W.heap.size W w' ∧ RivAt w' lo hi L p0 p1 p2 q0 q1 q2 rn rD rM rV ∧ W.heap.size ≤ lo ∧ HSS w' x1 x2 x3 x4 (.slice sa rG.length sc) rG.length rG ∧ HRow w' 2 1 l2 u2 (.slice za rS.length zc) rS.length (ic rS) ∧ lo ≤ hi ∧ hi ≤ x1 ∧ hi ≤ l2 ∧ (x2 ≤ l2 ∨ u2 ≤ x1) ∧ x2 ≤ x3 ∧ u2 ≤ x3 ∧ x1 ≤ x2 ∧ l2 ≤ u2)) := Lib.hid fun b0 b1 b2 d0 d1 d2 f fc W k0 k1 k2 kf => by
    have h9 := runDays_i b0 b1 b2 f D.length n V.length d0 d1 d2 Zs.length fc D M V Zs W k0 k1 k2 rfl HM.out rfl ⟨hlD, hln, hlV⟩ kf rfl hrl
    rw [hR] at h9
    exact h9
  clear hR
  have Hrl := Lib.hid hrl
  have HA0 := Lib.hid ha0
  have HA1 := Lib.hid ha1
  have HA2 := Lib.hid ha2
  have HAS := Lib.hid has
  clear ha0 ha1 ha2 has hrl
  cases B
  all_goals
    have Bel_0 : Hid (Below w.heap.size w w) := Lib.hid (Below.refl w.heap.size w)
    have Bel_1 : Hid (Below w.heap.size w (w.alloc (.cells #[.slice a0 D.length c0, .slice a1 n c1, .slice a2 V.length c2] 25))) := Lib.hid (Bel_0.out.alloc Bel_0.out.size _)
    clear Bel_0
    have BA_0 : Hid (Bx (w.alloc (.cells #[.slice a0 D.length c0, .slice a1 n c1, .slice a2 V.length c2] 25)) (w.heap.size) [.slice a0 D.length c0, .slice a1 n c1, .slice a2 V.length c2]) := Lib.hid (Bx.new w [.slice a0 D.length c0, .slice a1 n c1, .slice a2 V.length c2] 25)
    go_enter Try.func4, Try.ntmps4
    have cBA0 := BA_0.out.c 0 rfl
    have cBA1 := BA_0.out.c 1 rfl
    have cBA2 := BA_0.out.c 2 rfl
    go_wp2_with fail
    refine (szRiver_fits a0 a1 a2 D.length n V.length c0 c1 c2 1048576 (by omega) (by omega) _).mono ?_
    rintro e w1 ⟨rfl, hb⟩
    clear cBA0 cBA1 cBA2
    have z1 : w.heap.size + 1 ≤ w1.heap.size := (by have := hb.size; (try simp at this); omega)
    have Bel_2 : Hid (Below w.heap.size w w1) := Lib.hid (Bel_1.out.trans (hb.mono Bel_1.out.size))
    clear Bel_1
    have BA_1 : Hid (Bx w1 (w.heap.size) [.slice a0 D.length c0, .slice a1 n c1, .slice a2 V.length c2]) := Lib.hid (BA_0.out.below hb BA_0.out.1)
    clear BA_0
    clear hb
    have cBA0 := BA_1.out.c 0 rfl
    have cBA1 := BA_1.out.c 1 rfl
    have cBA2 := BA_1.out.c 2 rfl
    go_wp2_with fail
    refine (szSS_fits a cap Zs _ _ (HAS.out.below Bel_2.out (Nat.le_refl _)) (by omega) (by omega)).mono ?_
    rintro e w' ⟨rfl, rfl⟩
    clear cBA0 cBA1 cBA2
    have cBA0 := BA_1.out.c 0 rfl
    have cBA1 := BA_1.out.c 1 rfl
    have cBA2 := BA_1.out.c 2 rfl
    go_wp2_with fail
    refine (toRiver_any a0 a1 a2 c0 c1 c2 n D M V _ (HA0.out.below Bel_2.out (Nat.le_refl _)) (HA1.out.below Bel_2.out (Nat.le_refl _)) (HA2.out.below Bel_2.out (Nat.le_refl _)) hlD hln hlV HM.out).mono ?_
    rintro e w2 ⟨sa0, sc0, sa1, sc1, sa2, sc2, sL, rfl, hb, hrs⟩
    clear cBA0 cBA1 cBA2
    have z2 : w1.heap.size + 0 ≤ w2.heap.size := (by have := hb.size; (try simp at this); omega)
    have Bel_3 : Hid (Below w.heap.size w w2) := Lib.hid (Bel_2.out.trans (hb.mono Bel_2.out.size))
    clear Bel_2
    have BA_2 : Hid (Bx w2 (w.heap.size) [.slice a0 D.length c0, .slice a1 n c1, .slice a2 V.length c2]) := Lib.hid (BA_1.out.below hb BA_1.out.1)
    clear BA_1
    clear hb
    have Qs_0 : Hid (RivAt w2 w1.heap.size w2.heap.size sL sa0 sa1 sa2 sc0 sc1 sc2 n D M V) := Lib.hid (hrs)
    clear hrs
    have cBA0 := BA_2.out.c 0 rfl
    have cBA1 := BA_2.out.c 1 rfl
    have cBA2 := BA_2.out.c 2 rfl
    go_wp2_with fail
    refine (copySS_any a cap Zs _ (HAS.out.below Bel_3.out (Nat.le_refl _)) hlz Hrl.out).mono ?_
    rintro e w3 ⟨ma, mc, mp, rfl, hb, hpm, hrm⟩
    clear cBA0 cBA1 cBA2
    have z3 : w2.heap.size + 0 ≤ w3.heap.size := (by have := hb.size; (try simp at this); omega)
    have Bel_4 : Hid (Below w.heap.size w w3) := Lib.hid (Bel_3.out.trans (hb.mono Bel_3.out.size))
    clear Bel_3
    have BA_3 : Hid (Bx w3 (w.heap.size) [.slice a0 D.length c0, .slice a1 n c1, .slice a2 V.length c2]) := Lib.hid (BA_2.out.below hb BA_2.out.1)
    clear BA_2
    have Qs_1 : Hid (RivAt w3 w1.heap.size w2.heap.size sL sa0 sa1 sa2 sc0 sc1 sc2 n D M V) := Lib.hid (Qs_0.out.below hb Qs_0.out.lh)
    clear Qs_0
    have hp1m : w2.heap.size + 0 ≤ mp := by (try simp at hpm); omega
    have hp2m : mp + 1 ≤ w3.heap.size := hrm.lh.1
    clear hpm
    clear hb
    have Sm_0 : Hid (HSS w3 (mp) (mp + 1) (mp + 1) (w3.heap.size) (.slice ma Zs.length mc) Zs.length Zs) := Lib.hid (hrm)
    clear hrm
    have cBA0 := BA_3.out.c 0 rfl
    have cBA1 := BA_3.out.c 1 rfl
    have cBA2 := BA_3.out.c 2 rfl
    go_wp2_with fail
    refine (HS.out sa0 sa1 sa2 sc0 sc1 sc2 ma mc _ Qs_1.out.r0.row Qs_1.out.r1.row Qs_1.out.r2.row Sm_0.out.row).mono ?_
    rintro e w4 ⟨lot, hit, Lt, ta0, ta1, ta2, tc0, tc1, tc2, x1t, x2t, x3t, x4t, l2t, u2t, tsa, tza, tsc, tzc, rfl, hb, hrt, hlot, hyt, hzt, hq1t, hq2t, hq3t⟩
    clear cBA0 cBA1 cBA2
    have z4 : w3.heap.size + 0 ≤ w4.heap.size := (by have := hb.size; (try simp at this); omega)
    have Bel_5 : Hid (Below w.heap.size w w4) := Lib.hid (Bel_4.out.trans (hb.mono Bel_4.out.size))
    clear Bel_4
    have BA_4 : Hid (Bx w4 (w.heap.size) [.slice a0 D.length c0, .slice a1 n c1, .slice a2 V.length c2]) := Lib.hid (BA_3.out.below hb BA_3.out.1)
    clear BA_3
    have Qs_2 : Hid (RivAt w4 w1.heap.size w2.heap.size sL sa0 sa1 sa2 sc0 sc1 sc2 n D M V) := Lib.hid (Qs_1.out.below hb Qs_1.out.lh)
    clear Qs_1
    have Sm_1 : Hid (HSS w4 (mp) (mp + 1) (mp + 1) (w3.heap.size) (.slice ma Zs.length mc) Zs.length Zs) := Lib.hid (Sm_0.out.below hb Sm_0.out.lh)
    clear Sm_0
    have hlt : w3.heap.size + 0 ≤ lot := by (try simp at hlot); (try simp); omega
    have hht : hit ≤ w4.heap.size := hrt.lh
    have hu1t : x2t ≤ w4.heap.size := hyt.lh.1
    have hu2t : x4t ≤ w4.heap.size := hyt.lh.2
    have hu3t : u2t ≤ w4.heap.size := hzt.2.2
    (try simp at hq1t)
    (try simp at hq2t)
    (try simp at hq3t)
    clear hlot
    clear hb
    have Rt_0 : Hid (RivAt w4 lot hit Lt ta0 ta1 ta2 tc0 tc1 tc2 rn rD rM rV) := Lib.hid (hrt)
    have Gt_0 : Hid (HSS w4 (x1t) (x2t) (x3t) (x4t) (.slice tsa rG.length tsc) rG.length rG) := Lib.hid (hyt)
    have Ut_0 : Hid (HRow w4 2 1 (l2t) (u2t) (.slice tza rS.length tzc) rS.length (ic rS)) := Lib.hid (hzt)
    clear hrt hyt hzt
    clear Qs_2 Sm_1
    have hrM : rM.length = rn * 4 := Rt_0.out.len
    have HRM := Lib.hid hrM
    clear hrM
    have Bel_6 : Hid (Below w.heap.size w (w4.alloc (.cells #[.slice ta0 rD.length tc0, .slice ta1 rn tc1, .slice ta2 rV.length tc2] 29))) := Lib.hid (Bel_5.out.alloc Bel_5.out.size _)
    clear Bel_5
    have BA_5 : Hid (Bx (w4.alloc (.cells #[.slice ta0 rD.length tc0, .slice ta1 rn tc1, .slice ta2 rV.length tc2] 29)) (w.heap.size) [.slice a0 D.length c0, .slice a1 n c1, .slice a2 V.length c2]) := Lib.hid (BA_4.out.alloc _)
    clear BA_4
    have Rt_1 : Hid (RivAt (w4.alloc (.cells #[.slice ta0 rD.length tc0, .slice ta1 rn tc1, .slice ta2 rV.length tc2] 29)) lot hit Lt ta0 ta1 ta2 tc0 tc1 tc2 rn rD rM rV) := Lib.hid (Rt_0.out.alloc _)
    clear Rt_0
    have Gt_1 : Hid (HSS (w4.alloc (.cells #[.slice ta0 rD.length tc0, .slice ta1 rn tc1, .slice ta2 rV.length tc2] 29)) (x1t) (x2t) (x3t) (x4t) (.slice tsa rG.length tsc) rG.length rG) := Lib.hid (Gt_0.out.alloc _)
    clear Gt_0
    have Ut_1 : Hid (HRow (w4.alloc (.cells #[.slice ta0 rD.length tc0, .slice ta1 rn tc1, .slice ta2 rV.length tc2] 29)) 2 1 (l2t) (u2t) (.slice tza rS.length tzc) rS.length (ic rS)) := Lib.hid (Ut_0.out.alloc _)
    clear Ut_0
    have BT_0 : Hid (Bx (w4.alloc (.cells #[.slice ta0 rD.length tc0, .slice ta1 rn tc1, .slice ta2 rV.length tc2] 29)) (w4.heap.size) [.slice ta0 rD.length tc0, .slice ta1 rn tc1, .slice ta2 rV.length tc2]) := Lib.hid (Bx.new w4 [.slice ta0 rD.length tc0, .slice ta1 rn tc1, .slice ta2 rV.length tc2] 29)
    have cBA0 := BA_5.out.c 0 rfl
    have cBA1 := BA_5.out.c 1 rfl
    have cBA2 := BA_5.out.c 2 rfl
    have cBT0 := BT_0.out.c 0 rfl
    have cBT1 := BT_0.out.c 1 rfl
    have cBT2 := BT_0.out.c 2 rfl
    go_wp2_with fail
    refine (toRiver_any a0 a1 a2 c0 c1 c2 n D M V _ (HA0.out.below Bel_6.out (Nat.le_refl _)) (HA1.out.below Bel_6.out (Nat.le_refl _)) (HA2.out.below Bel_6.out (Nat.le_refl _)) hlD hln hlV HM.out).mono ?_
    rintro e w5 ⟨xa0, xc0, xa1, xc1, xa2, xc2, xL, rfl, hb, hrx⟩
    clear cBA0 cBA1 cBA2 cBT0 cBT1 cBT2
    have z5 : w4.heap.size + 1 ≤ w5.heap.size := (by have := hb.size; (try simp at this); omega)
    have Bel_7 : Hid (Below w.heap.size w w5) := Lib.hid (Bel_6.out.trans (hb.mono Bel_6.out.size))
    clear Bel_6
    have BA_6 : Hid (Bx w5 (w.heap.size) [.slice a0 D.length c0, .slice a1 n c1, .slice a2 V.length c2]) := Lib.hid (BA_5.out.below hb BA_5.out.1)
    clear BA_5
    have Rt_2 : Hid (RivAt w5 lot hit Lt ta0 ta1 ta2 tc0 tc1 tc2 rn rD rM rV) := Lib.hid (Rt_1.out.below hb Rt_1.out.lh)
    clear Rt_1
    have Gt_2 : Hid (HSS w5 (x1t) (x2t) (x3t) (x4t) (.slice tsa rG.length tsc) rG.length rG) := Lib.hid (Gt_1.out.below hb Gt_1.out.lh)
    clear Gt_1
    have Ut_2 : Hid (HRow w5 2 1 (l2t) (u2t) (.slice tza rS.length tzc) rS.length (ic rS)) := Lib.hid (Ut_1.out.below hb Ut_1.out.2.2)
    clear Ut_1
    have BT_1 : Hid (Bx w5 (w4.heap.size) [.slice ta0 rD.length tc0, .slice ta1 rn tc1, .slice ta2 rV.length tc2]) := Lib.hid (BT_0.out.below hb BT_0.out.1)
    clear BT_0
    clear hb
    have Qx_0 : Hid (RivAt w5 (w4.heap.size + 1) w5.heap.size xL xa0 xa1 xa2 xc0 xc1 xc2 n D M V) := Lib.hid (hrx.wide (lo' := w4.heap.size + 1) (by simp) (Nat.le_refl _) hrx.lh)
    clear hrx
    have Bel_8 : Hid (Below w.heap.size w (w5.alloc (.cells #[.slice xa0 D.length xc0, .slice xa1 n xc1, .slice xa2 V.length xc2] 29))) := Lib.hid (Bel_7.out.alloc Bel_7.out.size _)
    clear Bel_7
    have BA_7 : Hid (Bx (w5.alloc (.cells #[.slice xa0 D.length xc0, .slice xa1 n xc1, .slice xa2 V.length xc2] 29)) (w.heap.size) [.slice a0 D.length c0, .slice a1 n c1, .slice a2 V.length c2]) := Lib.hid (BA_6.out.alloc _)
    clear BA_6
    have Rt_3 : Hid (RivAt (w5.alloc (.cells #[.slice xa0 D.length xc0, .slice xa1 n xc1, .slice xa2 V.length xc2] 29)) lot hit Lt ta0 ta1 ta2 tc0 tc1 tc2 rn rD rM rV) := Lib.hid (Rt_2.out.alloc _)
    clear Rt_2
    have Gt_3 : Hid (HSS (w5.alloc (.cells #[.slice xa0 D.length xc0, .slice xa1 n xc1, .slice xa2 V.length xc2] 29)) (x1t) (x2t) (x3t) (x4t) (.slice tsa rG.length tsc) rG.length rG) := Lib.hid (Gt_2.out.alloc _)
    clear Gt_2
    have Ut_3 : Hid (HRow (w5.alloc (.cells #[.slice xa0 D.length xc0, .slice xa1 n xc1, .slice xa2 V.length xc2] 29)) 2 1 (l2t) (u2t) (.slice tza rS.length tzc) rS.length (ic rS)) := Lib.hid (Ut_2.out.alloc _)
    clear Ut_2
    have BT_2 : Hid (Bx (w5.alloc (.cells #[.slice xa0 D.length xc0, .slice xa1 n xc1, .slice xa2 V.length xc2] 29)) (w4.heap.size) [.slice ta0 rD.length tc0, .slice ta1 rn tc1, .slice ta2 rV.length tc2]) := Lib.hid (BT_1.out.alloc _)
    clear BT_1
    have Qx_1 : Hid (RivAt (w5.alloc (.cells #[.slice xa0 D.length xc0, .slice xa1 n xc1, .slice xa2 V.length xc2] 29)) (w4.heap.size + 1) w5.heap.size xL xa0 xa1 xa2 xc0 xc1 xc2 n D M V) := Lib.hid (Qx_0.out.alloc _)
    clear Qx_0
    have BX_0 : Hid (Bx (w5.alloc (.cells #[.slice xa0 D.length xc0, .slice xa1 n xc1, .slice xa2 V.length xc2] 29)) (w5.heap.size) [.slice xa0 D.length xc0, .slice xa1 n xc1, .slice xa2 V.length xc2]) := Lib.hid (Bx.new w5 [.slice xa0 D.length xc0, .slice xa1 n xc1, .slice xa2 V.length xc2] 29)
    have cBA0 := BA_7.out.c 0 rfl
    have cBA1 := BA_7.out.c 1 rfl
    have cBA2 := BA_7.out.c 2 rfl
    have cBT0 := BT_2.out.c 0 rfl
    have cBT1 := BT_2.out.c 1 rfl
    have cBT2 := BT_2.out.c 2 rfl
    have cBX0 := BX_0.out.c 0 rfl
    have cBX1 := BX_0.out.c 1 rfl
    have cBX2 := BX_0.out.c 2 rfl
    go_wp2_with fail
    refine (copySS_any a cap Zs _ (HAS.out.below Bel_8.out (Nat.le_refl _)) hlz Hrl.out).mono ?_
    rintro e w6 ⟨ya, yc, yp, rfl, hb, hpy, hry⟩
    clear cBA0 cBA1 cBA2 cBT0 cBT1 cBT2 cBX0 cBX1 cBX2
    have z6 : w5.heap.size + 1 ≤ w6.heap.size := (by have := hb.size; (try simp at this); omega)
    have Bel_9 : Hid (Below w.heap.size w w6) := Lib.hid (Bel_8.out.trans (hb.mono Bel_8.out.size))
    clear Bel_8
    have BA_8 : Hid (Bx w6 (w.heap.size) [.slice a0 D.length c0, .slice a1 n c1, .slice a2 V.length c2]) := Lib.hid (BA_7.out.below hb BA_7.out.1)
    clear BA_7
    have Rt_4 : Hid (RivAt w6 lot hit Lt ta0 ta1 ta2 tc0 tc1 tc2 rn rD rM rV) := Lib.hid (Rt_3.out.below hb Rt_3.out.lh)
    clear Rt_3
    have Gt_4 : Hid (HSS w6 (x1t) (x2t) (x3t) (x4t) (.slice tsa rG.length tsc) rG.length rG) := Lib.hid (Gt_3.out.below hb Gt_3.out.lh)
    clear Gt_3
    have Ut_4 : Hid (HRow w6 2 1 (l2t) (u2t) (.slice tza rS.length tzc) rS.length (ic rS)) := Lib.hid (Ut_3.out.below hb Ut_3.out.2.2)
    clear Ut_3
    have BT_3 : Hid (Bx w6 (w4.heap.size) [.slice ta0 rD.length tc0, .slice ta1 rn tc1, .slice ta2 rV.length tc2]) := Lib.hid (BT_2.out.below hb BT_2.out.1)
    clear BT_2
    have Qx_2 : Hid (RivAt w6 (w4.heap.size + 1) w5.heap.size xL xa0 xa1 xa2 xc0 xc1 xc2 n D M V) := Lib.hid (Qx_1.out.below hb Qx_1.out.lh)
    clear Qx_1
    have BX_1 : Hid (Bx w6 (w5.heap.size) [.slice xa0 D.length xc0, .slice xa1 n xc1, .slice xa2 V.length xc2]) := Lib.hid (BX_0.out.below hb BX_0.out.1)
    clear BX_0
    have hp1y : w5.heap.size + 1 ≤ yp := by (try simp at hpy); omega
    have hp2y : yp + 1 ≤ w6.heap.size := hry.lh.1
    clear hpy
    clear hb
    have Sy_0 : Hid (HSS w6 (yp) (yp + 1) (yp + 1) (w6.heap.size) (.slice ya Zs.length yc) Zs.length Zs) := Lib.hid (hry)
    clear hry
    have cBA0 := BA_8.out.c 0 rfl
    have cBA1 := BA_8.out.c 1 rfl
    have cBA2 := BA_8.out.c 2 rfl
    have cBT0 := BT_3.out.c 0 rfl
    have cBT1 := BT_3.out.c 1 rfl
    have cBT2 := BT_3.out.c 2 rfl
    have cBX0 := BX_1.out.c 0 rfl
    have cBX1 := BX_1.out.c 1 rfl
    have cBX2 := BX_1.out.c 2 rfl
    go_wp2_with fail
    refine (HI.out xa0 xa1 xa2 xc0 xc1 xc2 ya yc _ Qx_2.out.r0.row Qx_2.out.r1.row Qx_2.out.r2.row Sy_0.out.row).mono ?_
    rintro e w7 ⟨log, hig, Lg, ga0, ga1, ga2, gc0, gc1, gc2, x1g, x2g, x3g, x4g, l2g, u2g, gsa, gza, gsc, gzc, rfl, hb, hrg, hlog, hyg, hzg, hq1g, hq2g, hq3g, hq4g, hq5g, hq6g, hq7g, hq8g⟩
    clear cBA0 cBA1 cBA2 cBT0 cBT1 cBT2 cBX0 cBX1 cBX2
    have z7 : w6.heap.size + 0 ≤ w7.heap.size := (by have := hb.size; (try simp at this); omega)
    have Bel_10 : Hid (Below w.heap.size w w7) := Lib.hid (Bel_9.out.trans (hb.mono Bel_9.out.size))
    clear Bel_9
    have BA_9 : Hid (Bx w7 (w.heap.size) [.slice a0 D.length c0, .slice a1 n c1, .slice a2 V.length c2]) := Lib.hid (BA_8.out.below hb BA_8.out.1)
    clear BA_8
    have Rt_5 : Hid (RivAt w7 lot hit Lt ta0 ta1 ta2 tc0 tc1 tc2 rn rD rM rV) := Lib.hid (Rt_4.out.below hb Rt_4.out.lh)
    clear Rt_4
    have Gt_5 : Hid (HSS w7 (x1t) (x2t) (x3t) (x4t) (.slice tsa rG.length tsc) rG.length rG) := Lib.hid (Gt_4.out.below hb Gt_4.out.lh)
    clear Gt_4
    have Ut_5 : Hid (HRow w7 2 1 (l2t) (u2t) (.slice tza rS.length tzc) rS.length (ic rS)) := Lib.hid (Ut_4.out.below hb Ut_4.out.2.2)
    clear Ut_4
    have BT_4 : Hid (Bx w7 (w4.heap.size) [.slice ta0 rD.length tc0, .slice ta1 rn tc1, .slice ta2 rV.length tc2]) := Lib.hid (BT_3.out.below hb BT_3.out.1)
    clear BT_3
    have Qx_3 : Hid (RivAt w7 (w4.heap.size + 1) w5.heap.size xL xa0 xa1 xa2 xc0 xc1 xc2 n D M V) := Lib.hid (Qx_2.out.below hb Qx_2.out.lh)
    clear Qx_2
    have BX_2 : Hid (Bx w7 (w5.heap.size) [.slice xa0 D.length xc0, .slice xa1 n xc1, .slice xa2 V.length xc2]) := Lib.hid (BX_1.out.below hb BX_1.out.1)
    clear BX_1
    have Sy_1 : Hid (HSS w7 (yp) (yp + 1) (yp + 1) (w6.heap.size) (.slice ya Zs.length yc) Zs.length Zs) := Lib.hid (Sy_0.out.below hb Sy_0.out.lh)
    clear Sy_0
    have hlg : w6.heap.size + 0 ≤ log := by (try simp at hlog); (try simp); omega
    have hhg : hig ≤ w7.heap.size := hrg.lh
    have hu1g : x2g ≤ w7.heap.size := hyg.lh.1
    have hu2g : x4g ≤ w7.heap.size := hyg.lh.2
    have hu3g : u2g ≤ w7.heap.size := hzg.2.2
    clear hlog
    clear hb
    have Rg_0 : Hid (RivAt w7 log hig Lg ga0 ga1 ga2 gc0 gc1 gc2 rn rD rM rV) := Lib.hid (hrg)
    have Gg_0 : Hid (HSS w7 (x1g) (x2g) (x3g) (x4g) (.slice gsa rG.length gsc) rG.length rG) := Lib.hid (hyg)
    have Ug_0 : Hid (HRow w7 2 1 (l2g) (u2g) (.slice gza rS.length gzc) rS.length (ic rS)) := Lib.hid (hzg)
    clear hrg hyg hzg
    have Bel_11 : Hid (Below w.heap.size w (w7.alloc (.cells #[.slice ga0 rD.length gc0, .slice ga1 rn gc1, .slice ga2 rV.length gc2] 29))) := Lib.hid (Bel_10.out.alloc Bel_10.out.size _)
    clear Bel_10
    have BA_10 : Hid (Bx (w7.alloc (.cells #[.slice ga0 rD.length gc0, .slice ga1 rn gc1, .slice ga2 rV.length gc2] 29)) (w.heap.size) [.slice a0 D.length c0, .slice a1 n c1, .slice a2 V.length c2]) := Lib.hid (BA_9.out.alloc _)
    clear BA_9
    have Rt_6 : Hid (RivAt (w7.alloc (.cells #[.slice ga0 rD.length gc0, .slice ga1 rn gc1, .slice ga2 rV.length gc2] 29)) lot hit Lt ta0 ta1 ta2 tc0 tc1 tc2 rn rD rM rV) := Lib.hid (Rt_5.out.alloc _)
    clear Rt_5
    have Gt_6 : Hid (HSS (w7.alloc (.cells #[.slice ga0 rD.length gc0, .slice ga1 rn gc1, .slice ga2 rV.length gc2] 29)) (x1t) (x2t) (x3t) (x4t) (.slice tsa rG.length tsc) rG.length rG) := Lib.hid (Gt_5.out.alloc _)
    clear Gt_5
    have Ut_6 : Hid (HRow (w7.alloc (.cells #[.slice ga0 rD.length gc0, .slice ga1 rn gc1, .slice ga2 rV.length gc2] 29)) 2 1 (l2t) (u2t) (.slice tza rS.length tzc) rS.length (ic rS)) := Lib.hid (Ut_5.out.alloc _)
    clear Ut_5
    have BT_5 : Hid (Bx (w7.alloc (.cells #[.slice ga0 rD.length gc0, .slice ga1 rn gc1, .slice ga2 rV.length gc2] 29)) (w4.heap.size) [.slice ta0 rD.length tc0, .slice ta1 rn tc1, .slice ta2 rV.length tc2]) := Lib.hid (BT_4.out.alloc _)
    clear BT_4
    have Qx_4 : Hid (RivAt (w7.alloc (.cells #[.slice ga0 rD.length gc0, .slice ga1 rn gc1, .slice ga2 rV.length gc2] 29)) (w4.heap.size + 1) w5.heap.size xL xa0 xa1 xa2 xc0 xc1 xc2 n D M V) := Lib.hid (Qx_3.out.alloc _)
    clear Qx_3
    have BX_3 : Hid (Bx (w7.alloc (.cells #[.slice ga0 rD.length gc0, .slice ga1 rn gc1, .slice ga2 rV.length gc2] 29)) (w5.heap.size) [.slice xa0 D.length xc0, .slice xa1 n xc1, .slice xa2 V.length xc2]) := Lib.hid (BX_2.out.alloc _)
    clear BX_2
    have Sy_2 : Hid (HSS (w7.alloc (.cells #[.slice ga0 rD.length gc0, .slice ga1 rn gc1, .slice ga2 rV.length gc2] 29)) (yp) (yp + 1) (yp + 1) (w6.heap.size) (.slice ya Zs.length yc) Zs.length Zs) := Lib.hid (Sy_1.out.alloc _)
    clear Sy_1
    have Rg_1 : Hid (RivAt (w7.alloc (.cells #[.slice ga0 rD.length gc0, .slice ga1 rn gc1, .slice ga2 rV.length gc2] 29)) log hig Lg ga0 ga1 ga2 gc0 gc1 gc2 rn rD rM rV) := Lib.hid (Rg_0.out.alloc _)
    clear Rg_0
    have Gg_1 : Hid (HSS (w7.alloc (.cells #[.slice ga0 rD.length gc0, .slice ga1 rn gc1, .slice ga2 rV.length gc2] 29)) (x1g) (x2g) (x3g) (x4g) (.slice gsa rG.length gsc) rG.length rG) := Lib.hid (Gg_0.out.alloc _)
    clear Gg_0
    have Ug_1 : Hid (HRow (w7.alloc (.cells #[.slice ga0 rD.length gc0, .slice ga1 rn gc1, .slice ga2 rV.length gc2] 29)) 2 1 (l2g) (u2g) (.slice gza rS.length gzc) rS.length (ic rS)) := Lib.hid (Ug_0.out.alloc _)
    clear Ug_0
    have BG_0 : Hid (Bx (w7.alloc (.cells #[.slice ga0 rD.length gc0, .slice ga1 rn gc1, .slice ga2 rV.length gc2] 29)) (w7.heap.size) [.slice ga0 rD.length gc0, .slice ga1 rn gc1, .slice ga2 rV.length gc2]) := Lib.hid (Bx.new w7 [.slice ga0 rD.length gc0, .slice ga1 rn gc1, .slice ga2 rV.length gc2] 29)
    have cBA0 := BA_10.out.c 0 rfl
    have cBA1 := BA_10.out.c 1 rfl
    have cBA2 := BA_10.out.c 2 rfl
    have cBT0 := BT_5.out.c 0 rfl
    have cBT1 := BT_5.out.c 1 rfl
    have cBT2 := BT_5.out.c 2 rfl
    have cBX0 := BX_3.out.c 0 rfl
    have cBX1 := BX_3.out.c 1 rfl
    have cBX2 := BX_3.out.c 2 rfl
    have cBG0 := BG_0.out.c 0 rfl
    have cBG1 := BG_0.out.c 1 rfl
    have cBG2 := BG_0.out.c 2 rfl
    go_wp2_with fail
    refine (eqRiver_any ga0 ga1 ga2 ta0 ta1 ta2 gc0 gc1 gc2 tc0 tc1 tc2 rn rD rM rV _ Rg_1.out.r0.row Rg_1.out.r1.row Rg_1.out.r2.row hlim.1 hlim.2.1 hlim.2.2 HRM.out Rt_6.out.r0.row Rt_6.out.r1.row Rt_6.out.r2.row).mono ?_
    rintro e w8 ⟨rfl, hb⟩
    clear cBA0 cBA1 cBA2 cBT0 cBT1 cBT2 cBX0 cBX1 cBX2 cBG0 cBG1 cBG2
    have z8 : w7.heap.size + 1 ≤ w8.heap.size := (by have := hb.size; (try simp at this); omega)
    have Bel_12 : Hid (Below w.heap.size w w8) := Lib.hid (Bel_11.out.trans (hb.mono Bel_11.out.size))
    clear Bel_11
    have BA_11 : Hid (Bx w8 (w.heap.size) [.slice a0 D.length c0, .slice a1 n c1, .slice a2 V.length c2]) := Lib.hid (BA_10.out.below hb BA_10.out.1)
    clear BA_10
    have Rt_7 : Hid (RivAt w8 lot hit Lt ta0 ta1 ta2 tc0 tc1 tc2 rn rD rM rV) := Lib.hid (Rt_6.out.below hb Rt_6.out.lh)
    clear Rt_6
    have Gt_7 : Hid (HSS w8 (x1t) (x2t) (x3t) (x4t) (.slice tsa rG.length tsc) rG.length rG) := Lib.hid (Gt_6.out.below hb Gt_6.out.lh)
    clear Gt_6
    have Ut_7 : Hid (HRow w8 2 1 (l2t) (u2t) (.slice tza rS.length tzc) rS.length (ic rS)) := Lib.hid (Ut_6.out.below hb Ut_6.out.2.2)
    clear Ut_6
    have BT_6 : Hid (Bx w8 (w4.heap.size) [.slice ta0 rD.length tc0, .slice ta1 rn tc1, .slice ta2 rV.length tc2]) := Lib.hid (BT_5.out.below hb BT_5.out.1)
    clear BT_5
    have Qx_5 : Hid (RivAt w8 (w4.heap.size + 1) w5.heap.size xL xa0 xa1 xa2 xc0 xc1 xc2 n D M V) := Lib.hid (Qx_4.out.below hb Qx_4.out.lh)
    clear Qx_4
    have BX_4 : Hid (Bx w8 (w5.heap.size) [.slice xa0 D.length xc0, .slice xa1 n xc1, .slice xa2 V.length xc2]) := Lib.hid (BX_3.out.below hb BX_3.out.1)
    clear BX_3
    have Sy_3 : Hid (HSS w8 (yp) (yp + 1) (yp + 1) (w6.heap.size) (.slice ya Zs.length yc) Zs.length Zs) := Lib.hid (Sy_2.out.below hb Sy_2.out.lh)
    clear Sy_2
    have Rg_2 : Hid (RivAt w8 log hig Lg ga0 ga1 ga2 gc0 gc1 gc2 rn rD rM rV) := Lib.hid (Rg_1.out.below hb Rg_1.out.lh)
    clear Rg_1
    have Gg_2 : Hid (HSS w8 (x1g) (x2g) (x3g) (x4g) (.slice gsa rG.length gsc) rG.length rG) := Lib.hid (Gg_1.out.below hb Gg_1.out.lh)
    clear Gg_1
    have Ug_2 : Hid (HRow w8 2 1 (l2g) (u2g) (.slice gza rS.length gzc) rS.length (ic rS)) := Lib.hid (Ug_1.out.below hb Ug_1.out.2.2)
    clear Ug_1
    have BG_1 : Hid (Bx w8 (w7.heap.size) [.slice ga0 rD.length gc0, .slice ga1 rn gc1, .slice ga2 rV.length gc2]) := Lib.hid (BG_0.out.below hb BG_0.out.1)
    clear BG_0
    clear hb
    have cBA0 := BA_11.out.c 0 rfl
    have cBA1 := BA_11.out.c 1 rfl
    have cBA2 := BA_11.out.c 2 rfl
    have cBT0 := BT_6.out.c 0 rfl
    have cBT1 := BT_6.out.c 1 rfl
    have cBT2 := BT_6.out.c 2 rfl
    have cBX0 := BX_4.out.c 0 rfl
    have cBX1 := BX_4.out.c 1 rfl
    have cBX2 := BX_4.out.c 2 rfl
    have cBG0 := BG_1.out.c 0 rfl
    have cBG1 := BG_1.out.c 1 rfl
    have cBG2 := BG_1.out.c 2 rfl
    go_wp2_with fail
    refine (eqSS_any gsa tsa gsc tsc rG _ Gg_2.out.row Gt_7.out.row hlG HrG.out).mono ?_
    rintro e w9 ⟨rfl, hb⟩
    clear cBA0 cBA1 cBA2 cBT0 cBT1 cBT2 cBX0 cBX1 cBX2 cBG0 cBG1 cBG2
    have z9 : w8.heap.size + 0 ≤ w9.heap.size := (by have := hb.size; (try simp at this); omega)
    have Bel_13 : Hid (Below w.heap.size w w9) := Lib.hid (Bel_12.out.trans (hb.mono Bel_12.out.size))
    clear Bel_12
    have BA_12 : Hid (Bx w9 (w.heap.size) [.slice a0 D.length c0, .slice a1 n c1, .slice a2 V.length c2]) := Lib.hid (BA_11.out.below hb BA_11.out.1)
    clear BA_11
    have Rt_8 : Hid (RivAt w9 lot hit Lt ta0 ta1 ta2 tc0 tc1 tc2 rn rD rM rV) := Lib.hid (Rt_7.out.below hb Rt_7.out.lh)
    clear Rt_7
    have Gt_8 : Hid (HSS w9 (x1t) (x2t) (x3t) (x4t) (.slice tsa rG.length tsc) rG.length rG) := Lib.hid (Gt_7.out.below hb Gt_7.out.lh)
    clear Gt_7
    have Ut_8 : Hid (HRow w9 2 1 (l2t) (u2t) (.slice tza rS.length tzc) rS.length (ic rS)) := Lib.hid (Ut_7.out.below hb Ut_7.out.2.2)
    clear Ut_7
    have BT_7 : Hid (Bx w9 (w4.heap.size) [.slice ta0 rD.length tc0, .slice ta1 rn tc1, .slice ta2 rV.length tc2]) := Lib.hid (BT_6.out.below hb BT_6.out.1)
    clear BT_6
    have Qx_6 : Hid (RivAt w9 (w4.heap.size + 1) w5.heap.size xL xa0 xa1 xa2 xc0 xc1 xc2 n D M V) := Lib.hid (Qx_5.out.below hb Qx_5.out.lh)
    clear Qx_5
    have BX_5 : Hid (Bx w9 (w5.heap.size) [.slice xa0 D.length xc0, .slice xa1 n xc1, .slice xa2 V.length xc2]) := Lib.hid (BX_4.out.below hb BX_4.out.1)
    clear BX_4
    have Sy_4 : Hid (HSS w9 (yp) (yp + 1) (yp + 1) (w6.heap.size) (.slice ya Zs.length yc) Zs.length Zs) := Lib.hid (Sy_3.out.below hb Sy_3.out.lh)
    clear Sy_3
    have Rg_3 : Hid (RivAt w9 log hig Lg ga0 ga1 ga2 gc0 gc1 gc2 rn rD rM rV) := Lib.hid (Rg_2.out.below hb Rg_2.out.lh)
    clear Rg_2
    have Gg_3 : Hid (HSS w9 (x1g) (x2g) (x3g) (x4g) (.slice gsa rG.length gsc) rG.length rG) := Lib.hid (Gg_2.out.below hb Gg_2.out.lh)
    clear Gg_2
    have Ug_3 : Hid (HRow w9 2 1 (l2g) (u2g) (.slice gza rS.length gzc) rS.length (ic rS)) := Lib.hid (Ug_2.out.below hb Ug_2.out.2.2)
    clear Ug_2
    have BG_2 : Hid (Bx w9 (w7.heap.size) [.slice ga0 rD.length gc0, .slice ga1 rn gc1, .slice ga2 rV.length gc2]) := Lib.hid (BG_1.out.below hb BG_1.out.1)
    clear BG_1
    clear hb
    have cBA0 := BA_12.out.c 0 rfl
    have cBA1 := BA_12.out.c 1 rfl
    have cBA2 := BA_12.out.c 2 rfl
    have cBT0 := BT_7.out.c 0 rfl
    have cBT1 := BT_7.out.c 1 rfl
    have cBT2 := BT_7.out.c 2 rfl
    have cBX0 := BX_5.out.c 0 rfl
    have cBX1 := BX_5.out.c 1 rfl
    have cBX2 := BX_5.out.c 2 rfl
    have cBG0 := BG_2.out.c 0 rfl
    have cBG1 := BG_2.out.c 1 rfl
    have cBG2 := BG_2.out.c 2 rfl
    go_wp2_with fail
    refine (eqZ_any gza tza gzc tzc rS _ Ug_3.out.row Ut_8.out.row hlS).mono ?_
    rintro e w10 ⟨rfl, hb⟩
    clear cBA0 cBA1 cBA2 cBT0 cBT1 cBT2 cBX0 cBX1 cBX2 cBG0 cBG1 cBG2
    have z10 : w9.heap.size + 0 ≤ w10.heap.size := (by have := hb.size; (try simp at this); omega)
    have Bel_14 : Hid (Below w.heap.size w w10) := Lib.hid (Bel_13.out.trans (hb.mono Bel_13.out.size))
    clear Bel_13
    have BA_13 : Hid (Bx w10 (w.heap.size) [.slice a0 D.length c0, .slice a1 n c1, .slice a2 V.length c2]) := Lib.hid (BA_12.out.below hb BA_12.out.1)
    clear BA_12
    have Rt_9 : Hid (RivAt w10 lot hit Lt ta0 ta1 ta2 tc0 tc1 tc2 rn rD rM rV) := Lib.hid (Rt_8.out.below hb Rt_8.out.lh)
    clear Rt_8
    have Gt_9 : Hid (HSS w10 (x1t) (x2t) (x3t) (x4t) (.slice tsa rG.length tsc) rG.length rG) := Lib.hid (Gt_8.out.below hb Gt_8.out.lh)
    clear Gt_8
    have Ut_9 : Hid (HRow w10 2 1 (l2t) (u2t) (.slice tza rS.length tzc) rS.length (ic rS)) := Lib.hid (Ut_8.out.below hb Ut_8.out.2.2)
    clear Ut_8
    have BT_8 : Hid (Bx w10 (w4.heap.size) [.slice ta0 rD.length tc0, .slice ta1 rn tc1, .slice ta2 rV.length tc2]) := Lib.hid (BT_7.out.below hb BT_7.out.1)
    clear BT_7
    have Qx_7 : Hid (RivAt w10 (w4.heap.size + 1) w5.heap.size xL xa0 xa1 xa2 xc0 xc1 xc2 n D M V) := Lib.hid (Qx_6.out.below hb Qx_6.out.lh)
    clear Qx_6
    have BX_6 : Hid (Bx w10 (w5.heap.size) [.slice xa0 D.length xc0, .slice xa1 n xc1, .slice xa2 V.length xc2]) := Lib.hid (BX_5.out.below hb BX_5.out.1)
    clear BX_5
    have Sy_5 : Hid (HSS w10 (yp) (yp + 1) (yp + 1) (w6.heap.size) (.slice ya Zs.length yc) Zs.length Zs) := Lib.hid (Sy_4.out.below hb Sy_4.out.lh)
    clear Sy_4
    have Rg_4 : Hid (RivAt w10 log hig Lg ga0 ga1 ga2 gc0 gc1 gc2 rn rD rM rV) := Lib.hid (Rg_3.out.below hb Rg_3.out.lh)
    clear Rg_3
    have Gg_4 : Hid (HSS w10 (x1g) (x2g) (x3g) (x4g) (.slice gsa rG.length gsc) rG.length rG) := Lib.hid (Gg_3.out.below hb Gg_3.out.lh)
    clear Gg_3
    have Ug_4 : Hid (HRow w10 2 1 (l2g) (u2g) (.slice gza rS.length gzc) rS.length (ic rS)) := Lib.hid (Ug_3.out.below hb Ug_3.out.2.2)
    clear Ug_3
    have BG_3 : Hid (Bx w10 (w7.heap.size) [.slice ga0 rD.length gc0, .slice ga1 rn gc1, .slice ga2 rV.length gc2]) := Lib.hid (BG_2.out.below hb BG_2.out.1)
    clear BG_2
    clear hb
    have cBA0 := BA_13.out.c 0 rfl
    have cBA1 := BA_13.out.c 1 rfl
    have cBA2 := BA_13.out.c 2 rfl
    have cBT0 := BT_8.out.c 0 rfl
    have cBT1 := BT_8.out.c 1 rfl
    have cBT2 := BT_8.out.c 2 rfl
    have cBX0 := BX_6.out.c 0 rfl
    have cBX1 := BX_6.out.c 1 rfl
    have cBX2 := BX_6.out.c 2 rfl
    have cBG0 := BG_3.out.c 0 rfl
    have cBG1 := BG_3.out.c 1 rfl
    have cBG2 := BG_3.out.c 2 rfl
    go_wp2_with fail
    have HK10 : Hid (w10.cell? ⟨w.heap.size, 0, none⟩ = some (.slice a0 D.length c0) ∧ w10.cell? ⟨w.heap.size, 1, none⟩ = some (.slice a1 n c1) ∧ w10.cell? ⟨w.heap.size, 2, none⟩ = some (.slice a2 V.length c2) ∧ w10.cell? ⟨w5.heap.size, 0, none⟩ = some (.slice xa0 D.length xc0) ∧ w10.cell? ⟨w5.heap.size, 1, none⟩ = some (.slice xa1 n xc1) ∧ w10.cell? ⟨w5.heap.size, 2, none⟩ = some (.slice xa2 V.length xc2)) := Lib.hid ⟨BA_13.out.c 0 rfl, BA_13.out.c 1 rfl, BA_13.out.c 2 rfl, BX_6.out.c 0 rfl, BX_6.out.c 1 rfl, BX_6.out.c 2 rfl⟩
    go_region_held3 (fun w' => w'.cell? ⟨w.heap.size, 0, none⟩ = some (.slice a0 D.length c0) ∧ w'.cell? ⟨w.heap.size, 1, none⟩ = some (.slice a1 n c1) ∧ w'.cell? ⟨w.heap.size, 2, none⟩ = some (.slice a2 V.length c2) ∧ w'.cell? ⟨w5.heap.size, 0, none⟩ = some (.slice xa0 D.length xc0) ∧ w'.cell? ⟨w5.heap.size, 1, none⟩ = some (.slice xa1 n xc1) ∧ w'.cell? ⟨w5.heap.size, 2, none⟩ = some (.slice xa2 V.length xc2))
      (first | with_reducible exact HK12.out | with_reducible exact HK11.out | exact HK10.out)
      (first | (go_at_call 14; refine (toRiver_any a0 a1 a2 c0 c1 c2 n D M V _ (by first | with_reducible exact HA0.out.below Bel_14.out (Nat.le_refl _) | with_reducible exact (HA0.out.below Bel_14.out (Nat.le_refl _)).drewN 1 | exact HA0.out.below Bel_14.out.drew (Nat.le_refl _)) (by first | with_reducible exact HA1.out.below Bel_14.out (Nat.le_refl _) | with_reducible exact (HA1.out.below Bel_14.out (Nat.le_refl _)).drewN 1 | exact HA1.out.below Bel_14.out.drew (Nat.le_refl _)) (by first | with_reducible exact HA2.out.below Bel_14.out (Nat.le_refl _) | with_reducible exact (HA2.out.below Bel_14.out (Nat.le_refl _)).drewN 1 | exact HA2.out.below Bel_14.out.drew (Nat.le_refl _)) hlD hln hlV HM.out).mono ?_; rintro e w11 ⟨za0, zc0, za1, zc1, za2, zc2, zL, rfl, hb, hr⟩; have hst : Below w10.heap.size w10 w11 := (by first | with_reducible exact hb | with_reducible exact (Below.refl _ _).drew.trans (hb.mono (le_drew _))); have z11 : w10.heap.size ≤ w11.heap.size := hst.size; have Bel_15 : Hid (Below w.heap.size w w11) := Lib.hid (Bel_14.out.trans (hst.mono Bel_14.out.size)); clear Bel_14; have BA_14 : Hid (Bx w11 (w.heap.size) [.slice a0 D.length c0, .slice a1 n c1, .slice a2 V.length c2]) := Lib.hid (BA_13.out.below hst BA_13.out.1); clear BA_13; have Rt_10 : Hid (RivAt w11 lot hit Lt ta0 ta1 ta2 tc0 tc1 tc2 rn rD rM rV) := Lib.hid (Rt_9.out.below hst Rt_9.out.lh); clear Rt_9; have Gt_10 : Hid (HSS w11 (x1t) (x2t) (x3t) (x4t) (.slice tsa rG.length tsc) rG.length rG) := Lib.hid (Gt_9.out.below hst Gt_9.out.lh); clear Gt_9; have Ut_10 : Hid (HRow w11 2 1 (l2t) (u2t) (.slice tza rS.length tzc) rS.length (ic rS)) := Lib.hid (Ut_9.out.below hst Ut_9.out.2.2); clear Ut_9; have BT_9 : Hid (Bx w11 (w4.heap.size) [.slice ta0 rD.length tc0, .slice ta1 rn tc1, .slice ta2 rV.length tc2]) := Lib.hid (BT_8.out.below hst BT_8.out.1); clear BT_8; have Qx_8 : Hid (RivAt w11 (w4.heap.size + 1) w5.heap.size xL xa0 xa1 xa2 xc0 xc1 xc2 n D M V) := Lib.hid (Qx_7.out.below hst Qx_7.out.lh); clear Qx_7; have BX_7 : Hid (Bx w11 (w5.heap.size) [.slice xa0 D.length xc0, .slice xa1 n xc1, .slice xa2 V.length xc2]) := Lib.hid (BX_6.out.below hst BX_6.out.1); clear BX_6; have Sy_6 : Hid (HSS w11 (yp) (yp + 1) (yp + 1) (w6.heap.size) (.slice ya Zs.length yc) Zs.length Zs) := Lib.hid (Sy_5.out.below hst Sy_5.out.lh); clear Sy_5; have Rg_5 : Hid (RivAt w11 log hig Lg ga0 ga1 ga2 gc0 gc1 gc2 rn rD rM rV) := Lib.hid (Rg_4.out.below hst Rg_4.out.lh); clear Rg_4; have Gg_5 : Hid (HSS w11 (x1g) (x2g) (x3g) (x4g) (.slice gsa rG.length gsc) rG.length rG) := Lib.hid (Gg_4.out.below hst Gg_4.out.lh); clear Gg_4; have Ug_5 : Hid (HRow w11 2 1 (l2g) (u2g) (.slice gza rS.length gzc) rS.length (ic rS)) := Lib.hid (Ug_4.out.below hst Ug_4.out.2.2); clear Ug_4; have BG_4 : Hid (Bx w11 (w7.heap.size) [.slice ga0 rD.length gc0, .slice ga1 rn gc1, .slice ga2 rV.length gc2]) := Lib.hid (BG_3.out.below hst BG_3.out.1); clear BG_3; have HK11 : Hid (w11.cell? ⟨w.heap.size, 0, none⟩ = some (.slice a0 D.length c0) ∧ w11.cell? ⟨w.heap.size, 1, none⟩ = some (.slice a1 n c1) ∧ w11.cell? ⟨w.heap.size, 2, none⟩ = some (.slice a2 V.length c2) ∧ w11.cell? ⟨w5.heap.size, 0, none⟩ = some (.slice xa0 D.length xc0) ∧ w11.cell? ⟨w5.heap.size, 1, none⟩ = some (.slice xa1 n xc1) ∧ w11.cell? ⟨w5.heap.size, 2, none⟩ = some (.slice xa2 V.length xc2)) := Lib.hid ⟨BA_14.out.c 0 rfl, BA_14.out.c 1 rfl, BA_14.out.c 2 rfl, BX_7.out.c 0 rfl, BX_7.out.c 1 rfl, BX_7.out.c 2 rfl⟩; have RZ11 := Lib.hid hr; clear hr; clear hb hst) | (go_at_call 17; refine (eqRiver_any xa0 xa1 xa2 za0 za1 za2 xc0 xc1 xc2 zc0 zc1 zc2 n D M V _ Qx_8.out.r0.row Qx_8.out.r1.row Qx_8.out.r2.row hlD hln hlV HM.out RZ11.out.r0.row RZ11.out.r1.row RZ11.out.r2.row).mono ?_; rintro e w12 ⟨rfl, hb⟩; have hst : Below w11.heap.size w11 w12 := (by first | with_reducible exact hb | with_reducible exact (Below.refl _ _).drew.trans (hb.mono (le_drew _))); have z12 : w11.heap.size ≤ w12.heap.size := hst.size; have Bel_16 : Hid (Below w.heap.size w w12) := Lib.hid (Bel_15.out.trans (hst.mono Bel_15.out.size)); clear Bel_15; have BA_15 : Hid (Bx w12 (w.heap.size) [.slice a0 D.length c0, .slice a1 n c1, .slice a2 V.length c2]) := Lib.hid (BA_14.out.below hst BA_14.out.1); clear BA_14; have Rt_11 : Hid (RivAt w12 lot hit Lt ta0 ta1 ta2 tc0 tc1 tc2 rn rD rM rV) := Lib.hid (Rt_10.out.below hst Rt_10.out.lh); clear Rt_10; have Gt_11 : Hid (HSS w12 (x1t) (x2t) (x3t) (x4t) (.slice tsa rG.length tsc) rG.length rG) := Lib.hid (Gt_10.out.below hst Gt_10.out.lh); clear Gt_10; have Ut_11 : Hid (HRow w12 2 1 (l2t) (u2t) (.slice tza rS.length tzc) rS.length (ic rS)) := Lib.hid (Ut_10.out.below hst Ut_10.out.2.2); clear Ut_10; have BT_10 : Hid (Bx w12 (w4.heap.size) [.slice ta0 rD.length tc0, .slice ta1 rn tc1, .slice ta2 rV.length tc2]) := Lib.hid (BT_9.out.below hst BT_9.out.1); clear BT_9; have Qx_9 : Hid (RivAt w12 (w4.heap.size + 1) w5.heap.size xL xa0 xa1 xa2 xc0 xc1 xc2 n D M V) := Lib.hid (Qx_8.out.below hst Qx_8.out.lh); clear Qx_8; have BX_8 : Hid (Bx w12 (w5.heap.size) [.slice xa0 D.length xc0, .slice xa1 n xc1, .slice xa2 V.length xc2]) := Lib.hid (BX_7.out.below hst BX_7.out.1); clear BX_7; have Sy_7 : Hid (HSS w12 (yp) (yp + 1) (yp + 1) (w6.heap.size) (.slice ya Zs.length yc) Zs.length Zs) := Lib.hid (Sy_6.out.below hst Sy_6.out.lh); clear Sy_6; have Rg_6 : Hid (RivAt w12 log hig Lg ga0 ga1 ga2 gc0 gc1 gc2 rn rD rM rV) := Lib.hid (Rg_5.out.below hst Rg_5.out.lh); clear Rg_5; have Gg_6 : Hid (HSS w12 (x1g) (x2g) (x3g) (x4g) (.slice gsa rG.length gsc) rG.length rG) := Lib.hid (Gg_5.out.below hst Gg_5.out.lh); clear Gg_5; have Ug_6 : Hid (HRow w12 2 1 (l2g) (u2g) (.slice gza rS.length gzc) rS.length (ic rS)) := Lib.hid (Ug_5.out.below hst Ug_5.out.2.2); clear Ug_5; have BG_5 : Hid (Bx w12 (w7.heap.size) [.slice ga0 rD.length gc0, .slice ga1 rn gc1, .slice ga2 rV.length gc2]) := Lib.hid (BG_4.out.below hst BG_4.out.1); clear BG_4; have HK12 : Hid (w12.cell? ⟨w.heap.size, 0, none⟩ = some (.slice a0 D.length c0) ∧ w12.cell? ⟨w.heap.size, 1, none⟩ = some (.slice a1 n c1) ∧ w12.cell? ⟨w.heap.size, 2, none⟩ = some (.slice a2 V.length c2) ∧ w12.cell? ⟨w5.heap.size, 0, none⟩ = some (.slice xa0 D.length xc0) ∧ w12.cell? ⟨w5.heap.size, 1, none⟩ = some (.slice xa1 n xc1) ∧ w12.cell? ⟨w5.heap.size, 2, none⟩ = some (.slice xa2 V.length xc2)) := Lib.hid ⟨BA_15.out.c 0 rfl, BA_15.out.c 1 rfl, BA_15.out.c 2 rfl, BX_8.out.c 0 rfl, BX_8.out.c 1 rfl, BX_8.out.c 2 rfl⟩; clear RZ11; clear hb hst))
    try clear HK10
    try clear HK11
    try clear HK12
    clear cBA0 cBA1 cBA2 cBT0 cBT1 cBT2 cBX0 cBX1 cBX2 cBG0 cBG1 cBG2
    have cBA0 := BA_15.out.c 0 rfl
    have cBA1 := BA_15.out.c 1 rfl
    have cBA2 := BA_15.out.c 2 rfl
    have cBT0 := BT_10.out.c 0 rfl
    have cBT1 := BT_10.out.c 1 rfl
    have cBT2 := BT_10.out.c 2 rfl
    have cBX0 := BX_8.out.c 0 rfl
    have cBX1 := BX_8.out.c 1 rfl
    have cBX2 := BX_8.out.c 2 rfl
    have cBG0 := BG_5.out.c 0 rfl
    have cBG1 := BG_5.out.c 1 rfl
    have cBG2 := BG_5.out.c 2 rfl
    go_wp2_with fail
    refine (copySS_any a cap Zs _ (HAS.out.below Bel_16.out (Nat.le_refl _)) hlz Hrl.out).mono ?_
    rintro e w13 ⟨va, vc, vp, rfl, hb, hpv, hrv⟩
    clear cBA0 cBA1 cBA2 cBT0 cBT1 cBT2 cBX0 cBX1 cBX2 cBG0 cBG1 cBG2
    have z13 : w12.heap.size + 0 ≤ w13.heap.size := (by have := hb.size; (try simp at this); omega)
    have Bel_17 : Hid (Below w.heap.size w w13) := Lib.hid (Bel_16.out.trans (hb.mono Bel_16.out.size))
    clear Bel_16
    have BA_16 : Hid (Bx w13 (w.heap.size) [.slice a0 D.length c0, .slice a1 n c1, .slice a2 V.length c2]) := Lib.hid (BA_15.out.below hb BA_15.out.1)
    clear BA_15
    have Rt_12 : Hid (RivAt w13 lot hit Lt ta0 ta1 ta2 tc0 tc1 tc2 rn rD rM rV) := Lib.hid (Rt_11.out.below hb Rt_11.out.lh)
    clear Rt_11
    have Gt_12 : Hid (HSS w13 (x1t) (x2t) (x3t) (x4t) (.slice tsa rG.length tsc) rG.length rG) := Lib.hid (Gt_11.out.below hb Gt_11.out.lh)
    clear Gt_11
    have Ut_12 : Hid (HRow w13 2 1 (l2t) (u2t) (.slice tza rS.length tzc) rS.length (ic rS)) := Lib.hid (Ut_11.out.below hb Ut_11.out.2.2)
    clear Ut_11
    have BT_11 : Hid (Bx w13 (w4.heap.size) [.slice ta0 rD.length tc0, .slice ta1 rn tc1, .slice ta2 rV.length tc2]) := Lib.hid (BT_10.out.below hb BT_10.out.1)
    clear BT_10
    have Qx_10 : Hid (RivAt w13 (w4.heap.size + 1) w5.heap.size xL xa0 xa1 xa2 xc0 xc1 xc2 n D M V) := Lib.hid (Qx_9.out.below hb Qx_9.out.lh)
    clear Qx_9
    have BX_9 : Hid (Bx w13 (w5.heap.size) [.slice xa0 D.length xc0, .slice xa1 n xc1, .slice xa2 V.length xc2]) := Lib.hid (BX_8.out.below hb BX_8.out.1)
    clear BX_8
    have Sy_8 : Hid (HSS w13 (yp) (yp + 1) (yp + 1) (w6.heap.size) (.slice ya Zs.length yc) Zs.length Zs) := Lib.hid (Sy_7.out.below hb Sy_7.out.lh)
    clear Sy_7
    have Rg_7 : Hid (RivAt w13 log hig Lg ga0 ga1 ga2 gc0 gc1 gc2 rn rD rM rV) := Lib.hid (Rg_6.out.below hb Rg_6.out.lh)
    clear Rg_6
    have Gg_7 : Hid (HSS w13 (x1g) (x2g) (x3g) (x4g) (.slice gsa rG.length gsc) rG.length rG) := Lib.hid (Gg_6.out.below hb Gg_6.out.lh)
    clear Gg_6
    have Ug_7 : Hid (HRow w13 2 1 (l2g) (u2g) (.slice gza rS.length gzc) rS.length (ic rS)) := Lib.hid (Ug_6.out.below hb Ug_6.out.2.2)
    clear Ug_6
    have BG_6 : Hid (Bx w13 (w7.heap.size) [.slice ga0 rD.length gc0, .slice ga1 rn gc1, .slice ga2 rV.length gc2]) := Lib.hid (BG_5.out.below hb BG_5.out.1)
    clear BG_5
    have hp1v : w12.heap.size + 0 ≤ vp := by (try simp at hpv); omega
    have hp2v : vp + 1 ≤ w13.heap.size := hrv.lh.1
    clear hpv
    clear hb
    have Sv_0 : Hid (HSS w13 (vp) (vp + 1) (vp + 1) (w13.heap.size) (.slice va Zs.length vc) Zs.length Zs) := Lib.hid (hrv)
    clear hrv
    have cBA0 := BA_16.out.c 0 rfl
    have cBA1 := BA_16.out.c 1 rfl
    have cBA2 := BA_16.out.c 2 rfl
    have cBT0 := BT_11.out.c 0 rfl
    have cBT1 := BT_11.out.c 1 rfl
    have cBT2 := BT_11.out.c 2 rfl
    have cBX0 := BX_9.out.c 0 rfl
    have cBX1 := BX_9.out.c 1 rfl
    have cBX2 := BX_9.out.c 2 rfl
    have cBG0 := BG_6.out.c 0 rfl
    have cBG1 := BG_6.out.c 1 rfl
    have cBG2 := BG_6.out.c 2 rfl
    go_wp2_with fail
    refine (eqSS_any ya va yc vc Zs _ Sy_8.out.row Sv_0.out.row hlz Hrl.out).mono ?_
    rintro e w14 ⟨rfl, hb⟩
    clear cBA0 cBA1 cBA2 cBT0 cBT1 cBT2 cBX0 cBX1 cBX2 cBG0 cBG1 cBG2
    have z14 : w13.heap.size + 0 ≤ w14.heap.size := (by have := hb.size; (try simp at this); omega)
    have Bel_18 : Hid (Below w.heap.size w w14) := Lib.hid (Bel_17.out.trans (hb.mono Bel_17.out.size))
    clear Bel_17
    have BA_17 : Hid (Bx w14 (w.heap.size) [.slice a0 D.length c0, .slice a1 n c1, .slice a2 V.length c2]) := Lib.hid (BA_16.out.below hb BA_16.out.1)
    clear BA_16
    have Rt_13 : Hid (RivAt w14 lot hit Lt ta0 ta1 ta2 tc0 tc1 tc2 rn rD rM rV) := Lib.hid (Rt_12.out.below hb Rt_12.out.lh)
    clear Rt_12
    have Gt_13 : Hid (HSS w14 (x1t) (x2t) (x3t) (x4t) (.slice tsa rG.length tsc) rG.length rG) := Lib.hid (Gt_12.out.below hb Gt_12.out.lh)
    clear Gt_12
    have Ut_13 : Hid (HRow w14 2 1 (l2t) (u2t) (.slice tza rS.length tzc) rS.length (ic rS)) := Lib.hid (Ut_12.out.below hb Ut_12.out.2.2)
    clear Ut_12
    have BT_12 : Hid (Bx w14 (w4.heap.size) [.slice ta0 rD.length tc0, .slice ta1 rn tc1, .slice ta2 rV.length tc2]) := Lib.hid (BT_11.out.below hb BT_11.out.1)
    clear BT_11
    have Qx_11 : Hid (RivAt w14 (w4.heap.size + 1) w5.heap.size xL xa0 xa1 xa2 xc0 xc1 xc2 n D M V) := Lib.hid (Qx_10.out.below hb Qx_10.out.lh)
    clear Qx_10
    have BX_10 : Hid (Bx w14 (w5.heap.size) [.slice xa0 D.length xc0, .slice xa1 n xc1, .slice xa2 V.length xc2]) := Lib.hid (BX_9.out.below hb BX_9.out.1)
    clear BX_9
    have Sy_9 : Hid (HSS w14 (yp) (yp + 1) (yp + 1) (w6.heap.size) (.slice ya Zs.length yc) Zs.length Zs) := Lib.hid (Sy_8.out.below hb Sy_8.out.lh)
    clear Sy_8
    have Rg_8 : Hid (RivAt w14 log hig Lg ga0 ga1 ga2 gc0 gc1 gc2 rn rD rM rV) := Lib.hid (Rg_7.out.below hb Rg_7.out.lh)
    clear Rg_7
    have Gg_8 : Hid (HSS w14 (x1g) (x2g) (x3g) (x4g) (.slice gsa rG.length gsc) rG.length rG) := Lib.hid (Gg_7.out.below hb Gg_7.out.lh)
    clear Gg_7
    have Ug_8 : Hid (HRow w14 2 1 (l2g) (u2g) (.slice gza rS.length gzc) rS.length (ic rS)) := Lib.hid (Ug_7.out.below hb Ug_7.out.2.2)
    clear Ug_7
    have BG_7 : Hid (Bx w14 (w7.heap.size) [.slice ga0 rD.length gc0, .slice ga1 rn gc1, .slice ga2 rV.length gc2]) := Lib.hid (BG_6.out.below hb BG_6.out.1)
    clear BG_6
    have Sv_1 : Hid (HSS w14 (vp) (vp + 1) (vp + 1) (w13.heap.size) (.slice va Zs.length vc) Zs.length Zs) := Lib.hid (Sv_0.out.below hb Sv_0.out.lh)
    clear Sv_0
    clear hb
    clear Sv_1
    have cBA0 := BA_17.out.c 0 rfl
    have cBA1 := BA_17.out.c 1 rfl
    have cBA2 := BA_17.out.c 2 rfl
    have cBT0 := BT_12.out.c 0 rfl
    have cBT1 := BT_12.out.c 1 rfl
    have cBT2 := BT_12.out.c 2 rfl
    have cBX0 := BX_10.out.c 0 rfl
    have cBX1 := BX_10.out.c 1 rfl
    have cBX2 := BX_10.out.c 2 rfl
    have cBG0 := BG_7.out.c 0 rfl
    have cBG1 := BG_7.out.c 1 rfl
    have cBG2 := BG_7.out.c 2 rfl
    go_wp2_with fail
    have hmk := markRiver_any (w4.heap.size + 1) w5.heap.size 1 xL xa0 xa1 xa2 xc0 xc1 xc2 n D M V _ Qx_11.out hlD hln hlV (by omega)
    clear Qx_11
    refine (hmk).mono ?_
    rintro e w15 ⟨rfl, hf, hk⟩
    clear cBA0 cBA1 cBA2 cBT0 cBT1 cBT2 cBX0 cBX1 cBX2 cBG0 cBG1 cBG2
    have z15 : w14.heap.size + 0 ≤ w15.heap.size := (by have := hk.size; (try simp at this); omega)
    have Bel_19 : Hid (Below w.heap.size w w15) := Lib.hid (Bel_18.out.trans (hk.below (by omega) (by omega)))
    clear Bel_18
    have BA_18 : Hid (Bx w15 (w.heap.size) [.slice a0 D.length c0, .slice a1 n c1, .slice a2 V.length c2]) := Lib.hid (BA_17.out.kept hk (by first | exact .inl (by omega) | exact .inr (by omega) | omega))
    clear BA_17
    have Rt_14 : Hid (RivAt w15 lot hit Lt ta0 ta1 ta2 tc0 tc1 tc2 rn rD rM rV) := Lib.hid (Rt_13.out.kept hk (by first | exact .inl (by omega) | exact .inr (by omega) | omega))
    clear Rt_13
    have Gt_14 : Hid (HSS w15 (x1t) (x2t) (x3t) (x4t) (.slice tsa rG.length tsc) rG.length rG) := Lib.hid (Gt_13.out.kept hk (by first | exact .inl (by omega) | exact .inr (by omega) | omega))
    clear Gt_13
    have Ut_14 : Hid (HRow w15 2 1 (l2t) (u2t) (.slice tza rS.length tzc) rS.length (ic rS)) := Lib.hid (Ut_13.out.kept hk (by first | exact .inl (by omega) | exact .inr (by omega) | omega))
    clear Ut_13
    have BT_13 : Hid (Bx w15 (w4.heap.size) [.slice ta0 rD.length tc0, .slice ta1 rn tc1, .slice ta2 rV.length tc2]) := Lib.hid (BT_12.out.kept hk (by first | exact .inl (by omega) | exact .inr (by omega) | omega))
    clear BT_12
    have BX_11 : Hid (Bx w15 (w5.heap.size) [.slice xa0 D.length xc0, .slice xa1 n xc1, .slice xa2 V.length xc2]) := Lib.hid (BX_10.out.kept hk (by first | exact .inl (by omega) | exact .inr (by omega) | omega))
    clear BX_10
    have Sy_10 : Hid (HSS w15 (yp) (yp + 1) (yp + 1) (w6.heap.size) (.slice ya Zs.length yc) Zs.length Zs) := Lib.hid (Sy_9.out.kept hk (by first | exact .inl (by omega) | exact .inr (by omega) | omega))
    clear Sy_9
    have Rg_9 : Hid (RivAt w15 log hig Lg ga0 ga1 ga2 gc0 gc1 gc2 rn rD rM rV) := Lib.hid (Rg_8.out.kept hk (by first | exact .inl (by omega) | exact .inr (by omega) | omega))
    clear Rg_8
    have Gg_9 : Hid (HSS w15 (x1g) (x2g) (x3g) (x4g) (.slice gsa rG.length gsc) rG.length rG) := Lib.hid (Gg_8.out.kept hk (by first | exact .inl (by omega) | exact .inr (by omega) | omega))
    clear Gg_8
    have Ug_9 : Hid (HRow w15 2 1 (l2g) (u2g) (.slice gza rS.length gzc) rS.length (ic rS)) := Lib.hid (Ug_8.out.kept hk (by first | exact .inl (by omega) | exact .inr (by omega) | omega))
    clear Ug_8
    have BG_8 : Hid (Bx w15 (w7.heap.size) [.slice ga0 rD.length gc0, .slice ga1 rn gc1, .slice ga2 rV.length gc2]) := Lib.hid (BG_7.out.kept hk (by first | exact .inl (by omega) | exact .inr (by omega) | omega))
    clear BG_7
    clear hk
    have Qx_0 : Hid (MarkedR w15 (w4.heap.size + 1) w5.heap.size xL 1 xa0 xa1 xa2 xc0 xc1 xc2 D.length n V.length) := Lib.hid (hf)
    clear hf
    clear Qx_0
    have cBA0 := BA_18.out.c 0 rfl
    have cBA1 := BA_18.out.c 1 rfl
    have cBA2 := BA_18.out.c 2 rfl
    have cBT0 := BT_13.out.c 0 rfl
    have cBT1 := BT_13.out.c 1 rfl
    have cBT2 := BT_13.out.c 2 rfl
    have cBX0 := BX_11.out.c 0 rfl
    have cBX1 := BX_11.out.c 1 rfl
    have cBX2 := BX_11.out.c 2 rfl
    have cBG0 := BG_8.out.c 0 rfl
    have cBG1 := BG_8.out.c 1 rfl
    have cBG2 := BG_8.out.c 2 rfl
    go_wp2_with fail
    have hmk := markSS_any (yp) (yp + 1) (yp + 1) (w6.heap.size) (1 + D.length + n * 4 + V.length) ya yc Zs _ Sy_10.out hlz Hrl.out (by omega)
    clear Sy_10
    refine (hmk).mono ?_
    rintro e w16 ⟨rfl, hf, hk⟩
    clear cBA0 cBA1 cBA2 cBT0 cBT1 cBT2 cBX0 cBX1 cBX2 cBG0 cBG1 cBG2
    have z16 : w15.heap.size + 0 ≤ w16.heap.size := (by have := hk.size; (try simp at this); omega)
    have Bel_20 : Hid (Below w.heap.size w w16) := Lib.hid (Bel_19.out.trans (hk.below (by omega) (by omega)))
    clear Bel_19
    have BA_19 : Hid (Bx w16 (w.heap.size) [.slice a0 D.length c0, .slice a1 n c1, .slice a2 V.length c2]) := Lib.hid (BA_18.out.kept hk (by first | exact .inl (by omega) | exact .inr (by omega) | omega))
    clear BA_18
    have Rt_15 : Hid (RivAt w16 lot hit Lt ta0 ta1 ta2 tc0 tc1 tc2 rn rD rM rV) := Lib.hid (Rt_14.out.kept hk (by first | exact .inl (by omega) | exact .inr (by omega) | omega))
    clear Rt_14
    have Gt_15 : Hid (HSS w16 (x1t) (x2t) (x3t) (x4t) (.slice tsa rG.length tsc) rG.length rG) := Lib.hid (Gt_14.out.kept hk (by first | exact .inl (by omega) | exact .inr (by omega) | omega))
    clear Gt_14
    have Ut_15 : Hid (HRow w16 2 1 (l2t) (u2t) (.slice tza rS.length tzc) rS.length (ic rS)) := Lib.hid (Ut_14.out.kept hk (by first | exact .inl (by omega) | exact .inr (by omega) | omega))
    clear Ut_14
    have BT_14 : Hid (Bx w16 (w4.heap.size) [.slice ta0 rD.length tc0, .slice ta1 rn tc1, .slice ta2 rV.length tc2]) := Lib.hid (BT_13.out.kept hk (by first | exact .inl (by omega) | exact .inr (by omega) | omega))
    clear BT_13
    have BX_12 : Hid (Bx w16 (w5.heap.size) [.slice xa0 D.length xc0, .slice xa1 n xc1, .slice xa2 V.length xc2]) := Lib.hid (BX_11.out.kept hk (by first | exact .inl (by omega) | exact .inr (by omega) | omega))
    clear BX_11
    have Rg_10 : Hid (RivAt w16 log hig Lg ga0 ga1 ga2 gc0 gc1 gc2 rn rD rM rV) := Lib.hid (Rg_9.out.kept hk (by first | exact .inl (by omega) | exact .inr (by omega) | omega))
    clear Rg_9
    have Gg_10 : Hid (HSS w16 (x1g) (x2g) (x3g) (x4g) (.slice gsa rG.length gsc) rG.length rG) := Lib.hid (Gg_9.out.kept hk (by first | exact .inl (by omega) | exact .inr (by omega) | omega))
    clear Gg_9
    have Ug_10 : Hid (HRow w16 2 1 (l2g) (u2g) (.slice gza rS.length gzc) rS.length (ic rS)) := Lib.hid (Ug_9.out.kept hk (by first | exact .inl (by omega) | exact .inr (by omega) | omega))
    clear Ug_9
    have BG_9 : Hid (Bx w16 (w7.heap.size) [.slice ga0 rD.length gc0, .slice ga1 rn gc1, .slice ga2 rV.length gc2]) := Lib.hid (BG_8.out.kept hk (by first | exact .inl (by omega) | exact .inr (by omega) | omega))
    clear BG_8
    clear hk
    have Sy_0 : Hid (HSS w16 (yp) (yp + 1) (yp + 1) (w6.heap.size) (.slice ya Zs.length yc) Zs.length (marksSS (1 + D.length + n * 4 + V.length) Zs Zs.length)) := Lib.hid (hf)
    clear hf
    clear Sy_0
    have hcn : ¬ ((1 + D.length + n * 4 + V.length + totZ Zs Zs.length : Nat) : Int) < 0 := by omega
    have cBA0 := BA_19.out.c 0 rfl
    have cBA1 := BA_19.out.c 1 rfl
    have cBA2 := BA_19.out.c 2 rfl
    have cBT0 := BT_14.out.c 0 rfl
    have cBT1 := BT_14.out.c 1 rfl
    have cBT2 := BT_14.out.c 2 rfl
    have cBX0 := BX_12.out.c 0 rfl
    have cBX1 := BX_12.out.c 1 rfl
    have cBX2 := BX_12.out.c 2 rfl
    have cBG0 := BG_9.out.c 0 rfl
    have cBG1 := BG_9.out.c 1 rfl
    have cBG2 := BG_9.out.c 2 rfl
    go_wp2_with fail
    refine (eqRiver_any ga0 ga1 ga2 ta0 ta1 ta2 gc0 gc1 gc2 tc0 tc1 tc2 rn rD rM rV _ Rg_10.out.r0.row Rg_10.out.r1.row Rg_10.out.r2.row hlim.1 hlim.2.1 hlim.2.2 HRM.out Rt_15.out.r0.row Rt_15.out.r1.row Rt_15.out.r2.row).mono ?_
    rintro e w17 ⟨rfl, hb⟩
    clear cBA0 cBA1 cBA2 cBT0 cBT1 cBT2 cBX0 cBX1 cBX2 cBG0 cBG1 cBG2
    have z17 : w16.heap.size + 0 ≤ w17.heap.size := (by have := hb.size; (try simp at this); omega)
    have Bel_21 : Hid (Below w.heap.size w w17) := Lib.hid (Bel_20.out.trans (hb.mono Bel_20.out.size))
    clear Bel_20
    have BA_20 : Hid (Bx w17 (w.heap.size) [.slice a0 D.length c0, .slice a1 n c1, .slice a2 V.length c2]) := Lib.hid (BA_19.out.below hb BA_19.out.1)
    clear BA_19
    have Rt_16 : Hid (RivAt w17 lot hit Lt ta0 ta1 ta2 tc0 tc1 tc2 rn rD rM rV) := Lib.hid (Rt_15.out.below hb Rt_15.out.lh)
    clear Rt_15
    have Gt_16 : Hid (HSS w17 (x1t) (x2t) (x3t) (x4t) (.slice tsa rG.length tsc) rG.length rG) := Lib.hid (Gt_15.out.below hb Gt_15.out.lh)
    clear Gt_15
    have Ut_16 : Hid (HRow w17 2 1 (l2t) (u2t) (.slice tza rS.length tzc) rS.length (ic rS)) := Lib.hid (Ut_15.out.below hb Ut_15.out.2.2)
    clear Ut_15
    have BT_15 : Hid (Bx w17 (w4.heap.size) [.slice ta0 rD.length tc0, .slice ta1 rn tc1, .slice ta2 rV.length tc2]) := Lib.hid (BT_14.out.below hb BT_14.out.1)
    clear BT_14
    have BX_13 : Hid (Bx w17 (w5.heap.size) [.slice xa0 D.length xc0, .slice xa1 n xc1, .slice xa2 V.length xc2]) := Lib.hid (BX_12.out.below hb BX_12.out.1)
    clear BX_12
    have Rg_11 : Hid (RivAt w17 log hig Lg ga0 ga1 ga2 gc0 gc1 gc2 rn rD rM rV) := Lib.hid (Rg_10.out.below hb Rg_10.out.lh)
    clear Rg_10
    have Gg_11 : Hid (HSS w17 (x1g) (x2g) (x3g) (x4g) (.slice gsa rG.length gsc) rG.length rG) := Lib.hid (Gg_10.out.below hb Gg_10.out.lh)
    clear Gg_10
    have Ug_11 : Hid (HRow w17 2 1 (l2g) (u2g) (.slice gza rS.length gzc) rS.length (ic rS)) := Lib.hid (Ug_10.out.below hb Ug_10.out.2.2)
    clear Ug_10
    have BG_10 : Hid (Bx w17 (w7.heap.size) [.slice ga0 rD.length gc0, .slice ga1 rn gc1, .slice ga2 rV.length gc2]) := Lib.hid (BG_9.out.below hb BG_9.out.1)
    clear BG_9
    clear hb
    have cBA0 := BA_20.out.c 0 rfl
    have cBA1 := BA_20.out.c 1 rfl
    have cBA2 := BA_20.out.c 2 rfl
    have cBT0 := BT_15.out.c 0 rfl
    have cBT1 := BT_15.out.c 1 rfl
    have cBT2 := BT_15.out.c 2 rfl
    have cBX0 := BX_13.out.c 0 rfl
    have cBX1 := BX_13.out.c 1 rfl
    have cBX2 := BX_13.out.c 2 rfl
    have cBG0 := BG_10.out.c 0 rfl
    have cBG1 := BG_10.out.c 1 rfl
    have cBG2 := BG_10.out.c 2 rfl
    go_wp2_with fail
    refine (eqSS_any gsa tsa gsc tsc rG _ Gg_11.out.row Gt_16.out.row hlG HrG.out).mono ?_
    rintro e w18 ⟨rfl, hb⟩
    clear cBA0 cBA1 cBA2 cBT0 cBT1 cBT2 cBX0 cBX1 cBX2 cBG0 cBG1 cBG2
    have z18 : w17.heap.size + 0 ≤ w18.heap.size := (by have := hb.size; (try simp at this); omega)
    have Bel_22 : Hid (Below w.heap.size w w18) := Lib.hid (Bel_21.out.trans (hb.mono Bel_21.out.size))
    clear Bel_21
    have BA_21 : Hid (Bx w18 (w.heap.size) [.slice a0 D.length c0, .slice a1 n c1, .slice a2 V.length c2]) := Lib.hid (BA_20.out.below hb BA_20.out.1)
    clear BA_20
    have Rt_17 : Hid (RivAt w18 lot hit Lt ta0 ta1 ta2 tc0 tc1 tc2 rn rD rM rV) := Lib.hid (Rt_16.out.below hb Rt_16.out.lh)
    clear Rt_16
    have Gt_17 : Hid (HSS w18 (x1t) (x2t) (x3t) (x4t) (.slice tsa rG.length tsc) rG.length rG) := Lib.hid (Gt_16.out.below hb Gt_16.out.lh)
    clear Gt_16
    have Ut_17 : Hid (HRow w18 2 1 (l2t) (u2t) (.slice tza rS.length tzc) rS.length (ic rS)) := Lib.hid (Ut_16.out.below hb Ut_16.out.2.2)
    clear Ut_16
    have BT_16 : Hid (Bx w18 (w4.heap.size) [.slice ta0 rD.length tc0, .slice ta1 rn tc1, .slice ta2 rV.length tc2]) := Lib.hid (BT_15.out.below hb BT_15.out.1)
    clear BT_15
    have BX_14 : Hid (Bx w18 (w5.heap.size) [.slice xa0 D.length xc0, .slice xa1 n xc1, .slice xa2 V.length xc2]) := Lib.hid (BX_13.out.below hb BX_13.out.1)
    clear BX_13
    have Rg_12 : Hid (RivAt w18 log hig Lg ga0 ga1 ga2 gc0 gc1 gc2 rn rD rM rV) := Lib.hid (Rg_11.out.below hb Rg_11.out.lh)
    clear Rg_11
    have Gg_12 : Hid (HSS w18 (x1g) (x2g) (x3g) (x4g) (.slice gsa rG.length gsc) rG.length rG) := Lib.hid (Gg_11.out.below hb Gg_11.out.lh)
    clear Gg_11
    have Ug_12 : Hid (HRow w18 2 1 (l2g) (u2g) (.slice gza rS.length gzc) rS.length (ic rS)) := Lib.hid (Ug_11.out.below hb Ug_11.out.2.2)
    clear Ug_11
    have BG_11 : Hid (Bx w18 (w7.heap.size) [.slice ga0 rD.length gc0, .slice ga1 rn gc1, .slice ga2 rV.length gc2]) := Lib.hid (BG_10.out.below hb BG_10.out.1)
    clear BG_10
    clear hb
    have cBA0 := BA_21.out.c 0 rfl
    have cBA1 := BA_21.out.c 1 rfl
    have cBA2 := BA_21.out.c 2 rfl
    have cBT0 := BT_16.out.c 0 rfl
    have cBT1 := BT_16.out.c 1 rfl
    have cBT2 := BT_16.out.c 2 rfl
    have cBX0 := BX_14.out.c 0 rfl
    have cBX1 := BX_14.out.c 1 rfl
    have cBX2 := BX_14.out.c 2 rfl
    have cBG0 := BG_11.out.c 0 rfl
    have cBG1 := BG_11.out.c 1 rfl
    have cBG2 := BG_11.out.c 2 rfl
    go_wp2_with fail
    refine (eqZ_any gza tza gzc tzc rS _ Ug_12.out.row Ut_17.out.row hlS).mono ?_
    rintro e w19 ⟨rfl, hb⟩
    clear cBA0 cBA1 cBA2 cBT0 cBT1 cBT2 cBX0 cBX1 cBX2 cBG0 cBG1 cBG2
    have z19 : w18.heap.size + 0 ≤ w19.heap.size := (by have := hb.size; (try simp at this); omega)
    have Bel_23 : Hid (Below w.heap.size w w19) := Lib.hid (Bel_22.out.trans (hb.mono Bel_22.out.size))
    clear Bel_22
    have BA_22 : Hid (Bx w19 (w.heap.size) [.slice a0 D.length c0, .slice a1 n c1, .slice a2 V.length c2]) := Lib.hid (BA_21.out.below hb BA_21.out.1)
    clear BA_21
    have Rt_18 : Hid (RivAt w19 lot hit Lt ta0 ta1 ta2 tc0 tc1 tc2 rn rD rM rV) := Lib.hid (Rt_17.out.below hb Rt_17.out.lh)
    clear Rt_17
    have Gt_18 : Hid (HSS w19 (x1t) (x2t) (x3t) (x4t) (.slice tsa rG.length tsc) rG.length rG) := Lib.hid (Gt_17.out.below hb Gt_17.out.lh)
    clear Gt_17
    have Ut_18 : Hid (HRow w19 2 1 (l2t) (u2t) (.slice tza rS.length tzc) rS.length (ic rS)) := Lib.hid (Ut_17.out.below hb Ut_17.out.2.2)
    clear Ut_17
    have BT_17 : Hid (Bx w19 (w4.heap.size) [.slice ta0 rD.length tc0, .slice ta1 rn tc1, .slice ta2 rV.length tc2]) := Lib.hid (BT_16.out.below hb BT_16.out.1)
    clear BT_16
    have BX_15 : Hid (Bx w19 (w5.heap.size) [.slice xa0 D.length xc0, .slice xa1 n xc1, .slice xa2 V.length xc2]) := Lib.hid (BX_14.out.below hb BX_14.out.1)
    clear BX_14
    have Rg_13 : Hid (RivAt w19 log hig Lg ga0 ga1 ga2 gc0 gc1 gc2 rn rD rM rV) := Lib.hid (Rg_12.out.below hb Rg_12.out.lh)
    clear Rg_12
    have Gg_13 : Hid (HSS w19 (x1g) (x2g) (x3g) (x4g) (.slice gsa rG.length gsc) rG.length rG) := Lib.hid (Gg_12.out.below hb Gg_12.out.lh)
    clear Gg_12
    have Ug_13 : Hid (HRow w19 2 1 (l2g) (u2g) (.slice gza rS.length gzc) rS.length (ic rS)) := Lib.hid (Ug_12.out.below hb Ug_12.out.2.2)
    clear Ug_12
    have BG_12 : Hid (Bx w19 (w7.heap.size) [.slice ga0 rD.length gc0, .slice ga1 rn gc1, .slice ga2 rV.length gc2]) := Lib.hid (BG_11.out.below hb BG_11.out.1)
    clear BG_11
    clear hb
    have cBA0 := BA_22.out.c 0 rfl
    have cBA1 := BA_22.out.c 1 rfl
    have cBA2 := BA_22.out.c 2 rfl
    have cBT0 := BT_17.out.c 0 rfl
    have cBT1 := BT_17.out.c 1 rfl
    have cBT2 := BT_17.out.c 2 rfl
    have cBX0 := BX_15.out.c 0 rfl
    have cBX1 := BX_15.out.c 1 rfl
    have cBX2 := BX_15.out.c 2 rfl
    have cBG0 := BG_12.out.c 0 rfl
    have cBG1 := BG_12.out.c 1 rfl
    have cBG2 := BG_12.out.c 2 rfl
    go_wp2_with fail
    have hmk := markRiver_any log hig 1 Lg ga0 ga1 ga2 gc0 gc1 gc2 rn rD rM rV _ Rg_13.out hlim.1 hlim.2.1 hlim.2.2 (by omega)
    clear Rg_13
    refine (hmk).mono ?_
    rintro e w20 ⟨rfl, hf, hk⟩
    clear cBA0 cBA1 cBA2 cBT0 cBT1 cBT2 cBX0 cBX1 cBX2 cBG0 cBG1 cBG2
    have z20 : w19.heap.size + 0 ≤ w20.heap.size := (by have := hk.size; (try simp at this); omega)
    have Bel_24 : Hid (Below w.heap.size w w20) := Lib.hid (Bel_23.out.trans (hk.below (by omega) (by omega)))
    clear Bel_23
    have BA_23 : Hid (Bx w20 (w.heap.size) [.slice a0 D.length c0, .slice a1 n c1, .slice a2 V.length c2]) := Lib.hid (BA_22.out.kept hk (by first | exact .inl (by omega) | exact .inr (by omega) | omega))
    clear BA_22
    have Rt_19 : Hid (RivAt w20 lot hit Lt ta0 ta1 ta2 tc0 tc1 tc2 rn rD rM rV) := Lib.hid (Rt_18.out.kept hk (by first | exact .inl (by omega) | exact .inr (by omega) | omega))
    clear Rt_18
    have Gt_19 : Hid (HSS w20 (x1t) (x2t) (x3t) (x4t) (.slice tsa rG.length tsc) rG.length rG) := Lib.hid (Gt_18.out.kept hk (by first | exact .inl (by omega) | exact .inr (by omega) | omega))
    clear Gt_18
    have Ut_19 : Hid (HRow w20 2 1 (l2t) (u2t) (.slice tza rS.length tzc) rS.length (ic rS)) := Lib.hid (Ut_18.out.kept hk (by first | exact .inl (by omega) | exact .inr (by omega) | omega))
    clear Ut_18
    have BT_18 : Hid (Bx w20 (w4.heap.size) [.slice ta0 rD.length tc0, .slice ta1 rn tc1, .slice ta2 rV.length tc2]) := Lib.hid (BT_17.out.kept hk (by first | exact .inl (by omega) | exact .inr (by omega) | omega))
    clear BT_17
    have BX_16 : Hid (Bx w20 (w5.heap.size) [.slice xa0 D.length xc0, .slice xa1 n xc1, .slice xa2 V.length xc2]) := Lib.hid (BX_15.out.kept hk (by first | exact .inl (by omega) | exact .inr (by omega) | omega))
    clear BX_15
    have Gg_14 : Hid (HSS w20 (x1g) (x2g) (x3g) (x4g) (.slice gsa rG.length gsc) rG.length rG) := Lib.hid (Gg_13.out.kept hk (by first | exact .inl (by omega) | exact .inr (by omega) | omega))
    clear Gg_13
    have Ug_14 : Hid (HRow w20 2 1 (l2g) (u2g) (.slice gza rS.length gzc) rS.length (ic rS)) := Lib.hid (Ug_13.out.kept hk (by first | exact .inl (by omega) | exact .inr (by omega) | omega))
    clear Ug_13
    have BG_13 : Hid (Bx w20 (w7.heap.size) [.slice ga0 rD.length gc0, .slice ga1 rn gc1, .slice ga2 rV.length gc2]) := Lib.hid (BG_12.out.kept hk (by first | exact .inl (by omega) | exact .inr (by omega) | omega))
    clear BG_12
    clear hk
    have Rg_0 : Hid (MarkedR w20 log hig Lg 1 ga0 ga1 ga2 gc0 gc1 gc2 rD.length rn rV.length) := Lib.hid (hf)
    clear hf
    have cBA0 := BA_23.out.c 0 rfl
    have cBA1 := BA_23.out.c 1 rfl
    have cBA2 := BA_23.out.c 2 rfl
    have cBT0 := BT_18.out.c 0 rfl
    have cBT1 := BT_18.out.c 1 rfl
    have cBT2 := BT_18.out.c 2 rfl
    have cBX0 := BX_16.out.c 0 rfl
    have cBX1 := BX_16.out.c 1 rfl
    have cBX2 := BX_16.out.c 2 rfl
    have cBG0 := BG_13.out.c 0 rfl
    have cBG1 := BG_13.out.c 1 rfl
    have cBG2 := BG_13.out.c 2 rfl
    go_wp2_with fail
    have hmk := markSS_any (x1g) (x2g) (x3g) (x4g) (1 + rD.length + rn * 4 + rV.length) gsa gsc rG _ Gg_14.out hlG HrG.out (by omega)
    clear Gg_14
    refine (hmk).mono ?_
    rintro e w21 ⟨rfl, hf, hk⟩
    clear cBA0 cBA1 cBA2 cBT0 cBT1 cBT2 cBX0 cBX1 cBX2 cBG0 cBG1 cBG2
    have z21 : w20.heap.size + 0 ≤ w21.heap.size := (by have := hk.size; (try simp at this); omega)
    have Bel_25 : Hid (Below w.heap.size w w21) := Lib.hid (Bel_24.out.trans (hk.below (by omega) (by omega)))
    clear Bel_24
    have BA_24 : Hid (Bx w21 (w.heap.size) [.slice a0 D.length c0, .slice a1 n c1, .slice a2 V.length c2]) := Lib.hid (BA_23.out.kept hk (by first | exact .inl (by omega) | exact .inr (by omega) | omega))
    clear BA_23
    have Rt_20 : Hid (RivAt w21 lot hit Lt ta0 ta1 ta2 tc0 tc1 tc2 rn rD rM rV) := Lib.hid (Rt_19.out.kept hk (by first | exact .inl (by omega) | exact .inr (by omega) | omega))
    clear Rt_19
    have Gt_20 : Hid (HSS w21 (x1t) (x2t) (x3t) (x4t) (.slice tsa rG.length tsc) rG.length rG) := Lib.hid (Gt_19.out.kept hk (by first | exact .inl (by omega) | exact .inr (by omega) | omega))
    clear Gt_19
    have Ut_20 : Hid (HRow w21 2 1 (l2t) (u2t) (.slice tza rS.length tzc) rS.length (ic rS)) := Lib.hid (Ut_19.out.kept hk (by first | exact .inl (by omega) | exact .inr (by omega) | omega))
    clear Ut_19
    have BT_19 : Hid (Bx w21 (w4.heap.size) [.slice ta0 rD.length tc0, .slice ta1 rn tc1, .slice ta2 rV.length tc2]) := Lib.hid (BT_18.out.kept hk (by first | exact .inl (by omega) | exact .inr (by omega) | omega))
    clear BT_18
    have BX_17 : Hid (Bx w21 (w5.heap.size) [.slice xa0 D.length xc0, .slice xa1 n xc1, .slice xa2 V.length xc2]) := Lib.hid (BX_16.out.kept hk (by first | exact .inl (by omega) | exact .inr (by omega) | omega))
    clear BX_16
    have Ug_15 : Hid (HRow w21 2 1 (l2g) (u2g) (.slice gza rS.length gzc) rS.length (ic rS)) := Lib.hid (Ug_14.out.kept hk (by first | exact .inl (by omega) | exact .inr (by omega) | omega))
    clear Ug_14
    have BG_14 : Hid (Bx w21 (w7.heap.size) [.slice ga0 rD.length gc0, .slice ga1 rn gc1, .slice ga2 rV.length gc2]) := Lib.hid (BG_13.out.kept hk (by first | exact .inl (by omega) | exact .inr (by omega) | omega))
    clear BG_13
    have Rg_1 : Hid (MarkedR w21 log hig Lg 1 ga0 ga1 ga2 gc0 gc1 gc2 rD.length rn rV.length) := Lib.hid (Rg_0.out.kept hk (by first | exact .inl (by omega) | exact .inr (by omega) | omega))
    clear Rg_0
    clear hk
    have Gg_0 : Hid (HSS w21 (x1g) (x2g) (x3g) (x4g) (.slice gsa rG.length gsc) rG.length (marksSS (1 + rD.length + rn * 4 + rV.length) rG rG.length)) := Lib.hid (hf)
    clear hf
    have cBA0 := BA_24.out.c 0 rfl
    have cBA1 := BA_24.out.c 1 rfl
    have cBA2 := BA_24.out.c 2 rfl
    have cBT0 := BT_19.out.c 0 rfl
    have cBT1 := BT_19.out.c 1 rfl
    have cBT2 := BT_19.out.c 2 rfl
    have cBX0 := BX_17.out.c 0 rfl
    have cBX1 := BX_17.out.c 1 rfl
    have cBX2 := BX_17.out.c 2 rfl
    have cBG0 := BG_14.out.c 0 rfl
    have cBG1 := BG_14.out.c 1 rfl
    have cBG2 := BG_14.out.c 2 rfl
    go_wp2_with fail
    have hmk := markZ_any l2g u2g (1 + rD.length + rn * 4 + rV.length + totZ rG rG.length) gza rS.length gzc rS _ Ug_15.out hlS (by omega)
    clear Ug_15
    refine (hmk).mono ?_
    rintro e w22 ⟨rfl, hf, hk⟩
    clear cBA0 cBA1 cBA2 cBT0 cBT1 cBT2 cBX0 cBX1 cBX2 cBG0 cBG1 cBG2
    have z22 : w21.heap.size + 0 ≤ w22.heap.size := (by have := hk.size; (try simp at this); omega)
    have Bel_26 : Hid (Below w.heap.size w w22) := Lib.hid (Bel_25.out.trans (hk.below (by omega) (by omega)))
    clear Bel_25
    have BA_25 : Hid (Bx w22 (w.heap.size) [.slice a0 D.length c0, .slice a1 n c1, .slice a2 V.length c2]) := Lib.hid (BA_24.out.kept hk (by first | exact .inl (by omega) | exact .inr (by omega) | omega))
    clear BA_24
    have Rt_21 : Hid (RivAt w22 lot hit Lt ta0 ta1 ta2 tc0 tc1 tc2 rn rD rM rV) := Lib.hid (Rt_20.out.kept hk (by first | exact .inl (by omega) | exact .inr (by omega) | omega))
    clear Rt_20
    have Gt_21 : Hid (HSS w22 (x1t) (x2t) (x3t) (x4t) (.slice tsa rG.length tsc) rG.length rG) := Lib.hid (Gt_20.out.kept hk (by first | exact .inl (by omega) | exact .inr (by omega) | omega))
    clear Gt_20
    have Ut_21 : Hid (HRow w22 2 1 (l2t) (u2t) (.slice tza rS.length tzc) rS.length (ic rS)) := Lib.hid (Ut_20.out.kept hk (by first | exact .inl (by omega) | exact .inr (by omega) | omega))
    clear Ut_20
    have BT_20 : Hid (Bx w22 (w4.heap.size) [.slice ta0 rD.length tc0, .slice ta1 rn tc1, .slice ta2 rV.length tc2]) := Lib.hid (BT_19.out.kept hk (by first | exact .inl (by omega) | exact .inr (by omega) | omega))
    clear BT_19
    have BX_18 : Hid (Bx w22 (w5.heap.size) [.slice xa0 D.length xc0, .slice xa1 n xc1, .slice xa2 V.length xc2]) := Lib.hid (BX_17.out.kept hk (by first | exact .inl (by omega) | exact .inr (by omega) | omega))
    clear BX_17
    have BG_15 : Hid (Bx w22 (w7.heap.size) [.slice ga0 rD.length gc0, .slice ga1 rn gc1, .slice ga2 rV.length gc2]) := Lib.hid (BG_14.out.kept hk (by first | exact .inl (by omega) | exact .inr (by omega) | omega))
    clear BG_14
    have Rg_2 : Hid (MarkedR w22 log hig Lg 1 ga0 ga1 ga2 gc0 gc1 gc2 rD.length rn rV.length) := Lib.hid (Rg_1.out.kept hk (by first | exact .inl (by omega) | exact .inr (by omega) | omega))
    clear Rg_1
    have Gg_1 : Hid (HSS w22 (x1g) (x2g) (x3g) (x4g) (.slice gsa rG.length gsc) rG.length (marksSS (1 + rD.length + rn * 4 + rV.length) rG rG.length)) := Lib.hid (Gg_0.out.kept hk (by first | exact .inl (by omega) | exact .inr (by omega) | omega))
    clear Gg_0
    clear hk
    have Ug_0 : Hid (HRow w22 2 1 (l2g) (u2g) (.slice gza rS.length gzc) rS.length (ic (marksZ (1 + rD.length + rn * 4 + rV.length + totZ rG rG.length) rS.length))) := Lib.hid (hf)
    clear hf
    have hcm : ¬ ((1 + rD.length + rn * 4 + rV.length : Nat) : Int) < 0 := by omega
    have hcm2 : ¬ ((1 + rD.length + rn * 4 + rV.length + totZ rG rG.length : Nat) : Int) < 0 := by omega
    have hcm3 : ¬ ((1 + rD.length + rn * 4 + rV.length + totZ rG rG.length + rS.length : Nat) : Int) < 0 := by omega
    have cBA0 := BA_25.out.c 0 rfl
    have cBA1 := BA_25.out.c 1 rfl
    have cBA2 := BA_25.out.c 2 rfl
    have cBT0 := BT_20.out.c 0 rfl
    have cBT1 := BT_20.out.c 1 rfl
    have cBT2 := BT_20.out.c 2 rfl
    have cBX0 := BX_18.out.c 0 rfl
    have cBX1 := BX_18.out.c 1 rfl
    have cBX2 := BX_18.out.c 2 rfl
    have cBG0 := BG_15.out.c 0 rfl
    have cBG1 := BG_15.out.c 1 rfl
    have cBG2 := BG_15.out.c 2 rfl
    go_wp2_with fail
    refine (heldRiver_any log hig 1 Lg ga0 ga1 ga2 gc0 gc1 gc2 rD.length rn rV.length _ Rg_2.out hlim.1 hlim.2.1 hlim.2.2 (by omega)).mono ?_
    rintro e w23 ⟨rfl, hb⟩
    clear cBA0 cBA1 cBA2 cBT0 cBT1 cBT2 cBX0 cBX1 cBX2 cBG0 cBG1 cBG2
    have z23 : w22.heap.size + 0 ≤ w23.heap.size := (by have := hb.size; (try simp at this); omega)
    have Bel_27 : Hid (Below w.heap.size w w23) := Lib.hid (Bel_26.out.trans (hb.mono Bel_26.out.size))
    clear Bel_26
    have BA_26 : Hid (Bx w23 (w.heap.size) [.slice a0 D.length c0, .slice a1 n c1, .slice a2 V.length c2]) := Lib.hid (BA_25.out.below hb BA_25.out.1)
    clear BA_25
    have Rt_22 : Hid (RivAt w23 lot hit Lt ta0 ta1 ta2 tc0 tc1 tc2 rn rD rM rV) := Lib.hid (Rt_21.out.below hb Rt_21.out.lh)
    clear Rt_21
    have Gt_22 : Hid (HSS w23 (x1t) (x2t) (x3t) (x4t) (.slice tsa rG.length tsc) rG.length rG) := Lib.hid (Gt_21.out.below hb Gt_21.out.lh)
    clear Gt_21
    have Ut_22 : Hid (HRow w23 2 1 (l2t) (u2t) (.slice tza rS.length tzc) rS.length (ic rS)) := Lib.hid (Ut_21.out.below hb Ut_21.out.2.2)
    clear Ut_21
    have BT_21 : Hid (Bx w23 (w4.heap.size) [.slice ta0 rD.length tc0, .slice ta1 rn tc1, .slice ta2 rV.length tc2]) := Lib.hid (BT_20.out.below hb BT_20.out.1)
    clear BT_20
    have BX_19 : Hid (Bx w23 (w5.heap.size) [.slice xa0 D.length xc0, .slice xa1 n xc1, .slice xa2 V.length xc2]) := Lib.hid (BX_18.out.below hb BX_18.out.1)
    clear BX_18
    have BG_16 : Hid (Bx w23 (w7.heap.size) [.slice ga0 rD.length gc0, .slice ga1 rn gc1, .slice ga2 rV.length gc2]) := Lib.hid (BG_15.out.below hb BG_15.out.1)
    clear BG_15
    have Rg_3 : Hid (MarkedR w23 log hig Lg 1 ga0 ga1 ga2 gc0 gc1 gc2 rD.length rn rV.length) := Lib.hid (Rg_2.out.below hb Rg_2.out.lh)
    clear Rg_2
    have Gg_2 : Hid (HSS w23 (x1g) (x2g) (x3g) (x4g) (.slice gsa rG.length gsc) rG.length (marksSS (1 + rD.length + rn * 4 + rV.length) rG rG.length)) := Lib.hid (Gg_1.out.below hb Gg_1.out.lh)
    clear Gg_1
    have Ug_1 : Hid (HRow w23 2 1 (l2g) (u2g) (.slice gza rS.length gzc) rS.length (ic (marksZ (1 + rD.length + rn * 4 + rV.length + totZ rG rG.length) rS.length))) := Lib.hid (Ug_0.out.below hb Ug_0.out.2.2)
    clear Ug_0
    clear hb
    have cBA0 := BA_26.out.c 0 rfl
    have cBA1 := BA_26.out.c 1 rfl
    have cBA2 := BA_26.out.c 2 rfl
    have cBT0 := BT_21.out.c 0 rfl
    have cBT1 := BT_21.out.c 1 rfl
    have cBT2 := BT_21.out.c 2 rfl
    have cBX0 := BX_19.out.c 0 rfl
    have cBX1 := BX_19.out.c 1 rfl
    have cBX2 := BX_19.out.c 2 rfl
    have cBG0 := BG_16.out.c 0 rfl
    have cBG1 := BG_16.out.c 1 rfl
    have cBG2 := BG_16.out.c 2 rfl
    go_wp2_with fail
    refine (heldSS_any (x1g) (x2g) (x3g) (x4g) (1 + rD.length + rn * 4 + rV.length) gsa gsc rG _ Gg_2.out hlG HrG.out (by omega)).mono ?_
    rintro e w' ⟨rfl, rfl⟩
    clear cBA0 cBA1 cBA2 cBT0 cBT1 cBT2 cBX0 cBX1 cBX2 cBG0 cBG1 cBG2
    have cBA0 := BA_26.out.c 0 rfl
    have cBA1 := BA_26.out.c 1 rfl
    have cBA2 := BA_26.out.c 2 rfl
    have cBT0 := BT_21.out.c 0 rfl
    have cBT1 := BT_21.out.c 1 rfl
    have cBT2 := BT_21.out.c 2 rfl
    have cBX0 := BX_19.out.c 0 rfl
    have cBX1 := BX_19.out.c 1 rfl
    have cBX2 := BX_19.out.c 2 rfl
    have cBG0 := BG_16.out.c 0 rfl
    have cBG1 := BG_16.out.c 1 rfl
    have cBG2 := BG_16.out.c 2 rfl
    go_wp2_with fail
    refine (heldZ_any l2g u2g (1 + rD.length + rn * 4 + rV.length + totZ rG rG.length) gza rS.length gzc _ Ug_1.out hlS (by omega)).mono ?_
    rintro e w' ⟨rfl, rfl⟩
    clear cBA0 cBA1 cBA2 cBT0 cBT1 cBT2 cBX0 cBX1 cBX2 cBG0 cBG1 cBG2
    have cBA0 := BA_26.out.c 0 rfl
    have cBA1 := BA_26.out.c 1 rfl
    have cBA2 := BA_26.out.c 2 rfl
    have cBT0 := BT_21.out.c 0 rfl
    have cBT1 := BT_21.out.c 1 rfl
    have cBT2 := BT_21.out.c 2 rfl
    have cBX0 := BX_19.out.c 0 rfl
    have cBX1 := BX_19.out.c 1 rfl
    have cBX2 := BX_19.out.c 2 rfl
    have cBG0 := BG_16.out.c 0 rfl
    have cBG1 := BG_16.out.c 1 rfl
    have cBG2 := BG_16.out.c 2 rfl
    go_wp2_with fail
    refine (toRiver_any a0 a1 a2 c0 c1 c2 n D M V _ (HA0.out.below Bel_27.out (Nat.le_refl _)) (HA1.out.below Bel_27.out (Nat.le_refl _)) (HA2.out.below Bel_27.out (Nat.le_refl _)) hlD hln hlV HM.out).mono ?_
    rintro e w24 ⟨ea0, ec0, ea1, ec1, ea2, ec2, eL, rfl, hb, hre⟩
    clear cBA0 cBA1 cBA2 cBT0 cBT1 cBT2 cBX0 cBX1 cBX2 cBG0 cBG1 cBG2
    have z24 : w23.heap.size + 0 ≤ w24.heap.size := (by have := hb.size; (try simp at this); omega)
    have Bel_28 : Hid (Below w.heap.size w w24) := Lib.hid (Bel_27.out.trans (hb.mono Bel_27.out.size))
    clear Bel_27
    have BA_27 : Hid (Bx w24 (w.heap.size) [.slice a0 D.length c0, .slice a1 n c1, .slice a2 V.length c2]) := Lib.hid (BA_26.out.below hb BA_26.out.1)
    clear BA_26
    have Rt_23 : Hid (RivAt w24 lot hit Lt ta0 ta1 ta2 tc0 tc1 tc2 rn rD rM rV) := Lib.hid (Rt_22.out.below hb Rt_22.out.lh)
    clear Rt_22
    have Gt_23 : Hid (HSS w24 (x1t) (x2t) (x3t) (x4t) (.slice tsa rG.length tsc) rG.length rG) := Lib.hid (Gt_22.out.below hb Gt_22.out.lh)
    clear Gt_22
    have Ut_23 : Hid (HRow w24 2 1 (l2t) (u2t) (.slice tza rS.length tzc) rS.length (ic rS)) := Lib.hid (Ut_22.out.below hb Ut_22.out.2.2)
    clear Ut_22
    have BT_22 : Hid (Bx w24 (w4.heap.size) [.slice ta0 rD.length tc0, .slice ta1 rn tc1, .slice ta2 rV.length tc2]) := Lib.hid (BT_21.out.below hb BT_21.out.1)
    clear BT_21
    have BX_20 : Hid (Bx w24 (w5.heap.size) [.slice xa0 D.length xc0, .slice xa1 n xc1, .slice xa2 V.length xc2]) := Lib.hid (BX_19.out.below hb BX_19.out.1)
    clear BX_19
    have BG_17 : Hid (Bx w24 (w7.heap.size) [.slice ga0 rD.length gc0, .slice ga1 rn gc1, .slice ga2 rV.length gc2]) := Lib.hid (BG_16.out.below hb BG_16.out.1)
    clear BG_16
    have Rg_4 : Hid (MarkedR w24 log hig Lg 1 ga0 ga1 ga2 gc0 gc1 gc2 rD.length rn rV.length) := Lib.hid (Rg_3.out.below hb Rg_3.out.lh)
    clear Rg_3
    have Gg_3 : Hid (HSS w24 (x1g) (x2g) (x3g) (x4g) (.slice gsa rG.length gsc) rG.length (marksSS (1 + rD.length + rn * 4 + rV.length) rG rG.length)) := Lib.hid (Gg_2.out.below hb Gg_2.out.lh)
    clear Gg_2
    have Ug_2 : Hid (HRow w24 2 1 (l2g) (u2g) (.slice gza rS.length gzc) rS.length (ic (marksZ (1 + rD.length + rn * 4 + rV.length + totZ rG rG.length) rS.length))) := Lib.hid (Ug_1.out.below hb Ug_1.out.2.2)
    clear Ug_1
    clear hb
    have Qe_0 : Hid (RivAt w24 w23.heap.size w24.heap.size eL ea0 ea1 ea2 ec0 ec1 ec2 n D M V) := Lib.hid (hre)
    clear hre
    have cBA0 := BA_27.out.c 0 rfl
    have cBA1 := BA_27.out.c 1 rfl
    have cBA2 := BA_27.out.c 2 rfl
    have cBT0 := BT_22.out.c 0 rfl
    have cBT1 := BT_22.out.c 1 rfl
    have cBT2 := BT_22.out.c 2 rfl
    have cBX0 := BX_20.out.c 0 rfl
    have cBX1 := BX_20.out.c 1 rfl
    have cBX2 := BX_20.out.c 2 rfl
    have cBG0 := BG_17.out.c 0 rfl
    have cBG1 := BG_17.out.c 1 rfl
    have cBG2 := BG_17.out.c 2 rfl
    go_wp2_with fail
    refine (copySS_any a cap Zs _ (HAS.out.below Bel_28.out (Nat.le_refl _)) hlz Hrl.out).mono ?_
    rintro e w25 ⟨fa, fc, fp, rfl, hb, hpf, hrf⟩
    clear cBA0 cBA1 cBA2 cBT0 cBT1 cBT2 cBX0 cBX1 cBX2 cBG0 cBG1 cBG2
    have z25 : w24.heap.size + 0 ≤ w25.heap.size := (by have := hb.size; (try simp at this); omega)
    have Bel_29 : Hid (Below w.heap.size w w25) := Lib.hid (Bel_28.out.trans (hb.mono Bel_28.out.size))
    clear Bel_28
    have BA_28 : Hid (Bx w25 (w.heap.size) [.slice a0 D.length c0, .slice a1 n c1, .slice a2 V.length c2]) := Lib.hid (BA_27.out.below hb BA_27.out.1)
    clear BA_27
    have Rt_24 : Hid (RivAt w25 lot hit Lt ta0 ta1 ta2 tc0 tc1 tc2 rn rD rM rV) := Lib.hid (Rt_23.out.below hb Rt_23.out.lh)
    clear Rt_23
    have Gt_24 : Hid (HSS w25 (x1t) (x2t) (x3t) (x4t) (.slice tsa rG.length tsc) rG.length rG) := Lib.hid (Gt_23.out.below hb Gt_23.out.lh)
    clear Gt_23
    have Ut_24 : Hid (HRow w25 2 1 (l2t) (u2t) (.slice tza rS.length tzc) rS.length (ic rS)) := Lib.hid (Ut_23.out.below hb Ut_23.out.2.2)
    clear Ut_23
    have BT_23 : Hid (Bx w25 (w4.heap.size) [.slice ta0 rD.length tc0, .slice ta1 rn tc1, .slice ta2 rV.length tc2]) := Lib.hid (BT_22.out.below hb BT_22.out.1)
    clear BT_22
    have BX_21 : Hid (Bx w25 (w5.heap.size) [.slice xa0 D.length xc0, .slice xa1 n xc1, .slice xa2 V.length xc2]) := Lib.hid (BX_20.out.below hb BX_20.out.1)
    clear BX_20
    have BG_18 : Hid (Bx w25 (w7.heap.size) [.slice ga0 rD.length gc0, .slice ga1 rn gc1, .slice ga2 rV.length gc2]) := Lib.hid (BG_17.out.below hb BG_17.out.1)
    clear BG_17
    have Rg_5 : Hid (MarkedR w25 log hig Lg 1 ga0 ga1 ga2 gc0 gc1 gc2 rD.length rn rV.length) := Lib.hid (Rg_4.out.below hb Rg_4.out.lh)
    clear Rg_4
    have Gg_4 : Hid (HSS w25 (x1g) (x2g) (x3g) (x4g) (.slice gsa rG.length gsc) rG.length (marksSS (1 + rD.length + rn * 4 + rV.length) rG rG.length)) := Lib.hid (Gg_3.out.below hb Gg_3.out.lh)
    clear Gg_3
    have Ug_3 : Hid (HRow w25 2 1 (l2g) (u2g) (.slice gza rS.length gzc) rS.length (ic (marksZ (1 + rD.length + rn * 4 + rV.length + totZ rG rG.length) rS.length))) := Lib.hid (Ug_2.out.below hb Ug_2.out.2.2)
    clear Ug_2
    have Qe_1 : Hid (RivAt w25 w23.heap.size w24.heap.size eL ea0 ea1 ea2 ec0 ec1 ec2 n D M V) := Lib.hid (Qe_0.out.below hb Qe_0.out.lh)
    clear Qe_0
    have hp1f : w24.heap.size + 0 ≤ fp := by (try simp at hpf); omega
    have hp2f : fp + 1 ≤ w25.heap.size := hrf.lh.1
    clear hpf
    clear hb
    have Sf_0 : Hid (HSS w25 (fp) (fp + 1) (fp + 1) (w25.heap.size) (.slice fa Zs.length fc) Zs.length Zs) := Lib.hid (hrf)
    clear hrf
    have cBA0 := BA_28.out.c 0 rfl
    have cBA1 := BA_28.out.c 1 rfl
    have cBA2 := BA_28.out.c 2 rfl
    have cBT0 := BT_23.out.c 0 rfl
    have cBT1 := BT_23.out.c 1 rfl
    have cBT2 := BT_23.out.c 2 rfl
    have cBX0 := BX_21.out.c 0 rfl
    have cBX1 := BX_21.out.c 1 rfl
    have cBX2 := BX_21.out.c 2 rfl
    have cBG0 := BG_18.out.c 0 rfl
    have cBG1 := BG_18.out.c 1 rfl
    have cBG2 := BG_18.out.c 2 rfl
    go_wp2_with fail
    refine (HI.out ea0 ea1 ea2 ec0 ec1 ec2 fa fc _ Qe_1.out.r0.row Qe_1.out.r1.row Qe_1.out.r2.row Sf_0.out.row).mono ?_
    rintro e w26 ⟨loh, hih, Lh, ha0, ha1, ha2, hc0, hc1, hc2, x1h, x2h, x3h, x4h, l2h, u2h, hsa, hza, hsc, hzc, rfl, hb, hrh, hloh, hyh, hzh, hq1h, hq2h, hq3h, hq4h, hq5h, hq6h, hq7h, hq8h⟩
    clear cBA0 cBA1 cBA2 cBT0 cBT1 cBT2 cBX0 cBX1 cBX2 cBG0 cBG1 cBG2
    have z26 : w25.heap.size + 0 ≤ w26.heap.size := (by have := hb.size; (try simp at this); omega)
    have Bel_30 : Hid (Below w.heap.size w w26) := Lib.hid (Bel_29.out.trans (hb.mono Bel_29.out.size))
    clear Bel_29
    have BA_29 : Hid (Bx w26 (w.heap.size) [.slice a0 D.length c0, .slice a1 n c1, .slice a2 V.length c2]) := Lib.hid (BA_28.out.below hb BA_28.out.1)
    clear BA_28
    have Rt_25 : Hid (RivAt w26 lot hit Lt ta0 ta1 ta2 tc0 tc1 tc2 rn rD rM rV) := Lib.hid (Rt_24.out.below hb Rt_24.out.lh)
    clear Rt_24
    have Gt_25 : Hid (HSS w26 (x1t) (x2t) (x3t) (x4t) (.slice tsa rG.length tsc) rG.length rG) := Lib.hid (Gt_24.out.below hb Gt_24.out.lh)
    clear Gt_24
    have Ut_25 : Hid (HRow w26 2 1 (l2t) (u2t) (.slice tza rS.length tzc) rS.length (ic rS)) := Lib.hid (Ut_24.out.below hb Ut_24.out.2.2)
    clear Ut_24
    have BT_24 : Hid (Bx w26 (w4.heap.size) [.slice ta0 rD.length tc0, .slice ta1 rn tc1, .slice ta2 rV.length tc2]) := Lib.hid (BT_23.out.below hb BT_23.out.1)
    clear BT_23
    have BX_22 : Hid (Bx w26 (w5.heap.size) [.slice xa0 D.length xc0, .slice xa1 n xc1, .slice xa2 V.length xc2]) := Lib.hid (BX_21.out.below hb BX_21.out.1)
    clear BX_21
    have BG_19 : Hid (Bx w26 (w7.heap.size) [.slice ga0 rD.length gc0, .slice ga1 rn gc1, .slice ga2 rV.length gc2]) := Lib.hid (BG_18.out.below hb BG_18.out.1)
    clear BG_18
    have Rg_6 : Hid (MarkedR w26 log hig Lg 1 ga0 ga1 ga2 gc0 gc1 gc2 rD.length rn rV.length) := Lib.hid (Rg_5.out.below hb Rg_5.out.lh)
    clear Rg_5
    have Gg_5 : Hid (HSS w26 (x1g) (x2g) (x3g) (x4g) (.slice gsa rG.length gsc) rG.length (marksSS (1 + rD.length + rn * 4 + rV.length) rG rG.length)) := Lib.hid (Gg_4.out.below hb Gg_4.out.lh)
    clear Gg_4
    have Ug_4 : Hid (HRow w26 2 1 (l2g) (u2g) (.slice gza rS.length gzc) rS.length (ic (marksZ (1 + rD.length + rn * 4 + rV.length + totZ rG rG.length) rS.length))) := Lib.hid (Ug_3.out.below hb Ug_3.out.2.2)
    clear Ug_3
    have Qe_2 : Hid (RivAt w26 w23.heap.size w24.heap.size eL ea0 ea1 ea2 ec0 ec1 ec2 n D M V) := Lib.hid (Qe_1.out.below hb Qe_1.out.lh)
    clear Qe_1
    have Sf_1 : Hid (HSS w26 (fp) (fp + 1) (fp + 1) (w25.heap.size) (.slice fa Zs.length fc) Zs.length Zs) := Lib.hid (Sf_0.out.below hb Sf_0.out.lh)
    clear Sf_0
    have hlh : w25.heap.size + 0 ≤ loh := by (try simp at hloh); (try simp); omega
    have hhh : hih ≤ w26.heap.size := hrh.lh
    have hu1h : x2h ≤ w26.heap.size := hyh.lh.1
    have hu2h : x4h ≤ w26.heap.size := hyh.lh.2
    have hu3h : u2h ≤ w26.heap.size := hzh.2.2
    clear hloh
    clear hb
    have Rh_0 : Hid (RivAt w26 loh hih Lh ha0 ha1 ha2 hc0 hc1 hc2 rn rD rM rV) := Lib.hid (hrh)
    have Gh_0 : Hid (HSS w26 (x1h) (x2h) (x3h) (x4h) (.slice hsa rG.length hsc) rG.length rG) := Lib.hid (hyh)
    have Uh_0 : Hid (HRow w26 2 1 (l2h) (u2h) (.slice hza rS.length hzc) rS.length (ic rS)) := Lib.hid (hzh)
    clear hrh hyh hzh
    clear Qe_2 Sf_1
    have Bel_31 : Hid (Below w.heap.size w (w26.alloc (.cells #[.slice ha0 rD.length hc0, .slice ha1 rn hc1, .slice ha2 rV.length hc2] 29))) := Lib.hid (Bel_30.out.alloc Bel_30.out.size _)
    clear Bel_30
    have BA_30 : Hid (Bx (w26.alloc (.cells #[.slice ha0 rD.length hc0, .slice ha1 rn hc1, .slice ha2 rV.length hc2] 29)) (w.heap.size) [.slice a0 D.length c0, .slice a1 n c1, .slice a2 V.length c2]) := Lib.hid (BA_29.out.alloc _)
    clear BA_29
    have Rt_26 : Hid (RivAt (w26.alloc (.cells #[.slice ha0 rD.length hc0, .slice ha1 rn hc1, .slice ha2 rV.length hc2] 29)) lot hit Lt ta0 ta1 ta2 tc0 tc1 tc2 rn rD rM rV) := Lib.hid (Rt_25.out.alloc _)
    clear Rt_25
    have Gt_26 : Hid (HSS (w26.alloc (.cells #[.slice ha0 rD.length hc0, .slice ha1 rn hc1, .slice ha2 rV.length hc2] 29)) (x1t) (x2t) (x3t) (x4t) (.slice tsa rG.length tsc) rG.length rG) := Lib.hid (Gt_25.out.alloc _)
    clear Gt_25
    have Ut_26 : Hid (HRow (w26.alloc (.cells #[.slice ha0 rD.length hc0, .slice ha1 rn hc1, .slice ha2 rV.length hc2] 29)) 2 1 (l2t) (u2t) (.slice tza rS.length tzc) rS.length (ic rS)) := Lib.hid (Ut_25.out.alloc _)
    clear Ut_25
    have BT_25 : Hid (Bx (w26.alloc (.cells #[.slice ha0 rD.length hc0, .slice ha1 rn hc1, .slice ha2 rV.length hc2] 29)) (w4.heap.size) [.slice ta0 rD.length tc0, .slice ta1 rn tc1, .slice ta2 rV.length tc2]) := Lib.hid (BT_24.out.alloc _)
    clear BT_24
    have BX_23 : Hid (Bx (w26.alloc (.cells #[.slice ha0 rD.length hc0, .slice ha1 rn hc1, .slice ha2 rV.length hc2] 29)) (w5.heap.size) [.slice xa0 D.length xc0, .slice xa1 n xc1, .slice xa2 V.length xc2]) := Lib.hid (BX_22.out.alloc _)
    clear BX_22
    have BG_20 : Hid (Bx (w26.alloc (.cells #[.slice ha0 rD.length hc0, .slice ha1 rn hc1, .slice ha2 rV.length hc2] 29)) (w7.heap.size) [.slice ga0 rD.length gc0, .slice ga1 rn gc1, .slice ga2 rV.length gc2]) := Lib.hid (BG_19.out.alloc _)
    clear BG_19
    have Rg_7 : Hid (MarkedR (w26.alloc (.cells #[.slice ha0 rD.length hc0, .slice ha1 rn hc1, .slice ha2 rV.length hc2] 29)) log hig Lg 1 ga0 ga1 ga2 gc0 gc1 gc2 rD.length rn rV.length) := Lib.hid (Rg_6.out.alloc _)
    clear Rg_6
    have Gg_6 : Hid (HSS (w26.alloc (.cells #[.slice ha0 rD.length hc0, .slice ha1 rn hc1, .slice ha2 rV.length hc2] 29)) (x1g) (x2g) (x3g) (x4g) (.slice gsa rG.length gsc) rG.length (marksSS (1 + rD.length + rn * 4 + rV.length) rG rG.length)) := Lib.hid (Gg_5.out.alloc _)
    clear Gg_5
    have Ug_5 : Hid (HRow (w26.alloc (.cells #[.slice ha0 rD.length hc0, .slice ha1 rn hc1, .slice ha2 rV.length hc2] 29)) 2 1 (l2g) (u2g) (.slice gza rS.length gzc) rS.length (ic (marksZ (1 + rD.length + rn * 4 + rV.length + totZ rG rG.length) rS.length))) := Lib.hid (Ug_4.out.alloc _)
    clear Ug_4
    have Rh_1 : Hid (RivAt (w26.alloc (.cells #[.slice ha0 rD.length hc0, .slice ha1 rn hc1, .slice ha2 rV.length hc2] 29)) loh hih Lh ha0 ha1 ha2 hc0 hc1 hc2 rn rD rM rV) := Lib.hid (Rh_0.out.alloc _)
    clear Rh_0
    have Gh_1 : Hid (HSS (w26.alloc (.cells #[.slice ha0 rD.length hc0, .slice ha1 rn hc1, .slice ha2 rV.length hc2] 29)) (x1h) (x2h) (x3h) (x4h) (.slice hsa rG.length hsc) rG.length rG) := Lib.hid (Gh_0.out.alloc _)
    clear Gh_0
    have Uh_1 : Hid (HRow (w26.alloc (.cells #[.slice ha0 rD.length hc0, .slice ha1 rn hc1, .slice ha2 rV.length hc2] 29)) 2 1 (l2h) (u2h) (.slice hza rS.length hzc) rS.length (ic rS)) := Lib.hid (Uh_0.out.alloc _)
    clear Uh_0
    have BH_0 : Hid (Bx (w26.alloc (.cells #[.slice ha0 rD.length hc0, .slice ha1 rn hc1, .slice ha2 rV.length hc2] 29)) (w26.heap.size) [.slice ha0 rD.length hc0, .slice ha1 rn hc1, .slice ha2 rV.length hc2]) := Lib.hid (Bx.new w26 [.slice ha0 rD.length hc0, .slice ha1 rn hc1, .slice ha2 rV.length hc2] 29)
    have cBA0 := BA_30.out.c 0 rfl
    have cBA1 := BA_30.out.c 1 rfl
    have cBA2 := BA_30.out.c 2 rfl
    have cBT0 := BT_25.out.c 0 rfl
    have cBT1 := BT_25.out.c 1 rfl
    have cBT2 := BT_25.out.c 2 rfl
    have cBX0 := BX_23.out.c 0 rfl
    have cBX1 := BX_23.out.c 1 rfl
    have cBX2 := BX_23.out.c 2 rfl
    have cBG0 := BG_20.out.c 0 rfl
    have cBG1 := BG_20.out.c 1 rfl
    have cBG2 := BG_20.out.c 2 rfl
    have cBH0 := BH_0.out.c 0 rfl
    have cBH1 := BH_0.out.c 1 rfl
    have cBH2 := BH_0.out.c 2 rfl
    go_wp2_with fail
    refine (eqRiver_any ha0 ha1 ha2 ta0 ta1 ta2 hc0 hc1 hc2 tc0 tc1 tc2 rn rD rM rV _ Rh_1.out.r0.row Rh_1.out.r1.row Rh_1.out.r2.row hlim.1 hlim.2.1 hlim.2.2 HRM.out Rt_26.out.r0.row Rt_26.out.r1.row Rt_26.out.r2.row).mono ?_
    rintro e w27 ⟨rfl, hb⟩
    clear cBA0 cBA1 cBA2 cBT0 cBT1 cBT2 cBX0 cBX1 cBX2 cBG0 cBG1 cBG2 cBH0 cBH1 cBH2
    have z27 : w26.heap.size + 1 ≤ w27.heap.size := (by have := hb.size; (try simp at this); omega)
    have Bel_32 : Hid (Below w.heap.size w w27) := Lib.hid (Bel_31.out.trans (hb.mono Bel_31.out.size))
    clear Bel_31
    have BA_31 : Hid (Bx w27 (w.heap.size) [.slice a0 D.length c0, .slice a1 n c1, .slice a2 V.length c2]) := Lib.hid (BA_30.out.below hb BA_30.out.1)
    clear BA_30
    have Rt_27 : Hid (RivAt w27 lot hit Lt ta0 ta1 ta2 tc0 tc1 tc2 rn rD rM rV) := Lib.hid (Rt_26.out.below hb Rt_26.out.lh)
    clear Rt_26
    have Gt_27 : Hid (HSS w27 (x1t) (x2t) (x3t) (x4t) (.slice tsa rG.length tsc) rG.length rG) := Lib.hid (Gt_26.out.below hb Gt_26.out.lh)
    clear Gt_26
    have Ut_27 : Hid (HRow w27 2 1 (l2t) (u2t) (.slice tza rS.length tzc) rS.length (ic rS)) := Lib.hid (Ut_26.out.below hb Ut_26.out.2.2)
    clear Ut_26
    have BT_26 : Hid (Bx w27 (w4.heap.size) [.slice ta0 rD.length tc0, .slice ta1 rn tc1, .slice ta2 rV.length tc2]) := Lib.hid (BT_25.out.below hb BT_25.out.1)
    clear BT_25
    have BX_24 : Hid (Bx w27 (w5.heap.size) [.slice xa0 D.length xc0, .slice xa1 n xc1, .slice xa2 V.length xc2]) := Lib.hid (BX_23.out.below hb BX_23.out.1)
    clear BX_23
    have BG_21 : Hid (Bx w27 (w7.heap.size) [.slice ga0 rD.length gc0, .slice ga1 rn gc1, .slice ga2 rV.length gc2]) := Lib.hid (BG_20.out.below hb BG_20.out.1)
    clear BG_20
    have Rg_8 : Hid (MarkedR w27 log hig Lg 1 ga0 ga1 ga2 gc0 gc1 gc2 rD.length rn rV.length) := Lib.hid (Rg_7.out.below hb Rg_7.out.lh)
    clear Rg_7
    have Gg_7 : Hid (HSS w27 (x1g) (x2g) (x3g) (x4g) (.slice gsa rG.length gsc) rG.length (marksSS (1 + rD.length + rn * 4 + rV.length) rG rG.length)) := Lib.hid (Gg_6.out.below hb Gg_6.out.lh)
    clear Gg_6
    have Ug_6 : Hid (HRow w27 2 1 (l2g) (u2g) (.slice gza rS.length gzc) rS.length (ic (marksZ (1 + rD.length + rn * 4 + rV.length + totZ rG rG.length) rS.length))) := Lib.hid (Ug_5.out.below hb Ug_5.out.2.2)
    clear Ug_5
    have Rh_2 : Hid (RivAt w27 loh hih Lh ha0 ha1 ha2 hc0 hc1 hc2 rn rD rM rV) := Lib.hid (Rh_1.out.below hb Rh_1.out.lh)
    clear Rh_1
    have Gh_2 : Hid (HSS w27 (x1h) (x2h) (x3h) (x4h) (.slice hsa rG.length hsc) rG.length rG) := Lib.hid (Gh_1.out.below hb Gh_1.out.lh)
    clear Gh_1
    have Uh_2 : Hid (HRow w27 2 1 (l2h) (u2h) (.slice hza rS.length hzc) rS.length (ic rS)) := Lib.hid (Uh_1.out.below hb Uh_1.out.2.2)
    clear Uh_1
    have BH_1 : Hid (Bx w27 (w26.heap.size) [.slice ha0 rD.length hc0, .slice ha1 rn hc1, .slice ha2 rV.length hc2]) := Lib.hid (BH_0.out.below hb BH_0.out.1)
    clear BH_0
    clear hb
    have cBA0 := BA_31.out.c 0 rfl
    have cBA1 := BA_31.out.c 1 rfl
    have cBA2 := BA_31.out.c 2 rfl
    have cBT0 := BT_26.out.c 0 rfl
    have cBT1 := BT_26.out.c 1 rfl
    have cBT2 := BT_26.out.c 2 rfl
    have cBX0 := BX_24.out.c 0 rfl
    have cBX1 := BX_24.out.c 1 rfl
    have cBX2 := BX_24.out.c 2 rfl
    have cBG0 := BG_21.out.c 0 rfl
    have cBG1 := BG_21.out.c 1 rfl
    have cBG2 := BG_21.out.c 2 rfl
    have cBH0 := BH_1.out.c 0 rfl
    have cBH1 := BH_1.out.c 1 rfl
    have cBH2 := BH_1.out.c 2 rfl
    go_wp2_with fail
    refine (eqSS_any hsa tsa hsc tsc rG _ Gh_2.out.row Gt_27.out.row hlG HrG.out).mono ?_
    rintro e w28 ⟨rfl, hb⟩
    clear cBA0 cBA1 cBA2 cBT0 cBT1 cBT2 cBX0 cBX1 cBX2 cBG0 cBG1 cBG2 cBH0 cBH1 cBH2
    have z28 : w27.heap.size + 0 ≤ w28.heap.size := (by have := hb.size; (try simp at this); omega)
    have Bel_33 : Hid (Below w.heap.size w w28) := Lib.hid (Bel_32.out.trans (hb.mono Bel_32.out.size))
    clear Bel_32
    have BA_32 : Hid (Bx w28 (w.heap.size) [.slice a0 D.length c0, .slice a1 n c1, .slice a2 V.length c2]) := Lib.hid (BA_31.out.below hb BA_31.out.1)
    clear BA_31
    have Rt_28 : Hid (RivAt w28 lot hit Lt ta0 ta1 ta2 tc0 tc1 tc2 rn rD rM rV) := Lib.hid (Rt_27.out.below hb Rt_27.out.lh)
    clear Rt_27
    have Gt_28 : Hid (HSS w28 (x1t) (x2t) (x3t) (x4t) (.slice tsa rG.length tsc) rG.length rG) := Lib.hid (Gt_27.out.below hb Gt_27.out.lh)
    clear Gt_27
    have Ut_28 : Hid (HRow w28 2 1 (l2t) (u2t) (.slice tza rS.length tzc) rS.length (ic rS)) := Lib.hid (Ut_27.out.below hb Ut_27.out.2.2)
    clear Ut_27
    have BT_27 : Hid (Bx w28 (w4.heap.size) [.slice ta0 rD.length tc0, .slice ta1 rn tc1, .slice ta2 rV.length tc2]) := Lib.hid (BT_26.out.below hb BT_26.out.1)
    clear BT_26
    have BX_25 : Hid (Bx w28 (w5.heap.size) [.slice xa0 D.length xc0, .slice xa1 n xc1, .slice xa2 V.length xc2]) := Lib.hid (BX_24.out.below hb BX_24.out.1)
    clear BX_24
    have BG_22 : Hid (Bx w28 (w7.heap.size) [.slice ga0 rD.length gc0, .slice ga1 rn gc1, .slice ga2 rV.length gc2]) := Lib.hid (BG_21.out.below hb BG_21.out.1)
    clear BG_21
    have Rg_9 : Hid (MarkedR w28 log hig Lg 1 ga0 ga1 ga2 gc0 gc1 gc2 rD.length rn rV.length) := Lib.hid (Rg_8.out.below hb Rg_8.out.lh)
    clear Rg_8
    have Gg_8 : Hid (HSS w28 (x1g) (x2g) (x3g) (x4g) (.slice gsa rG.length gsc) rG.length (marksSS (1 + rD.length + rn * 4 + rV.length) rG rG.length)) := Lib.hid (Gg_7.out.below hb Gg_7.out.lh)
    clear Gg_7
    have Ug_7 : Hid (HRow w28 2 1 (l2g) (u2g) (.slice gza rS.length gzc) rS.length (ic (marksZ (1 + rD.length + rn * 4 + rV.length + totZ rG rG.length) rS.length))) := Lib.hid (Ug_6.out.below hb Ug_6.out.2.2)
    clear Ug_6
    have Rh_3 : Hid (RivAt w28 loh hih Lh ha0 ha1 ha2 hc0 hc1 hc2 rn rD rM rV) := Lib.hid (Rh_2.out.below hb Rh_2.out.lh)
    clear Rh_2
    have Gh_3 : Hid (HSS w28 (x1h) (x2h) (x3h) (x4h) (.slice hsa rG.length hsc) rG.length rG) := Lib.hid (Gh_2.out.below hb Gh_2.out.lh)
    clear Gh_2
    have Uh_3 : Hid (HRow w28 2 1 (l2h) (u2h) (.slice hza rS.length hzc) rS.length (ic rS)) := Lib.hid (Uh_2.out.below hb Uh_2.out.2.2)
    clear Uh_2
    have BH_2 : Hid (Bx w28 (w26.heap.size) [.slice ha0 rD.length hc0, .slice ha1 rn hc1, .slice ha2 rV.length hc2]) := Lib.hid (BH_1.out.below hb BH_1.out.1)
    clear BH_1
    clear hb
    have cBA0 := BA_32.out.c 0 rfl
    have cBA1 := BA_32.out.c 1 rfl
    have cBA2 := BA_32.out.c 2 rfl
    have cBT0 := BT_27.out.c 0 rfl
    have cBT1 := BT_27.out.c 1 rfl
    have cBT2 := BT_27.out.c 2 rfl
    have cBX0 := BX_25.out.c 0 rfl
    have cBX1 := BX_25.out.c 1 rfl
    have cBX2 := BX_25.out.c 2 rfl
    have cBG0 := BG_22.out.c 0 rfl
    have cBG1 := BG_22.out.c 1 rfl
    have cBG2 := BG_22.out.c 2 rfl
    have cBH0 := BH_2.out.c 0 rfl
    have cBH1 := BH_2.out.c 1 rfl
    have cBH2 := BH_2.out.c 2 rfl
    go_wp2_with fail
    refine (eqZ_any hza tza hzc tzc rS _ Uh_3.out.row Ut_28.out.row hlS).mono ?_
    rintro e w29 ⟨rfl, hb⟩
    clear cBA0 cBA1 cBA2 cBT0 cBT1 cBT2 cBX0 cBX1 cBX2 cBG0 cBG1 cBG2 cBH0 cBH1 cBH2
    have z29 : w28.heap.size + 0 ≤ w29.heap.size := (by have := hb.size; (try simp at this); omega)
    have Bel_34 : Hid (Below w.heap.size w w29) := Lib.hid (Bel_33.out.trans (hb.mono Bel_33.out.size))
    clear Bel_33
    have BA_33 : Hid (Bx w29 (w.heap.size) [.slice a0 D.length c0, .slice a1 n c1, .slice a2 V.length c2]) := Lib.hid (BA_32.out.below hb BA_32.out.1)
    clear BA_32
    have Rt_29 : Hid (RivAt w29 lot hit Lt ta0 ta1 ta2 tc0 tc1 tc2 rn rD rM rV) := Lib.hid (Rt_28.out.below hb Rt_28.out.lh)
    clear Rt_28
    have Gt_29 : Hid (HSS w29 (x1t) (x2t) (x3t) (x4t) (.slice tsa rG.length tsc) rG.length rG) := Lib.hid (Gt_28.out.below hb Gt_28.out.lh)
    clear Gt_28
    have Ut_29 : Hid (HRow w29 2 1 (l2t) (u2t) (.slice tza rS.length tzc) rS.length (ic rS)) := Lib.hid (Ut_28.out.below hb Ut_28.out.2.2)
    clear Ut_28
    have BT_28 : Hid (Bx w29 (w4.heap.size) [.slice ta0 rD.length tc0, .slice ta1 rn tc1, .slice ta2 rV.length tc2]) := Lib.hid (BT_27.out.below hb BT_27.out.1)
    clear BT_27
    have BX_26 : Hid (Bx w29 (w5.heap.size) [.slice xa0 D.length xc0, .slice xa1 n xc1, .slice xa2 V.length xc2]) := Lib.hid (BX_25.out.below hb BX_25.out.1)
    clear BX_25
    have BG_23 : Hid (Bx w29 (w7.heap.size) [.slice ga0 rD.length gc0, .slice ga1 rn gc1, .slice ga2 rV.length gc2]) := Lib.hid (BG_22.out.below hb BG_22.out.1)
    clear BG_22
    have Rg_10 : Hid (MarkedR w29 log hig Lg 1 ga0 ga1 ga2 gc0 gc1 gc2 rD.length rn rV.length) := Lib.hid (Rg_9.out.below hb Rg_9.out.lh)
    clear Rg_9
    have Gg_9 : Hid (HSS w29 (x1g) (x2g) (x3g) (x4g) (.slice gsa rG.length gsc) rG.length (marksSS (1 + rD.length + rn * 4 + rV.length) rG rG.length)) := Lib.hid (Gg_8.out.below hb Gg_8.out.lh)
    clear Gg_8
    have Ug_8 : Hid (HRow w29 2 1 (l2g) (u2g) (.slice gza rS.length gzc) rS.length (ic (marksZ (1 + rD.length + rn * 4 + rV.length + totZ rG rG.length) rS.length))) := Lib.hid (Ug_7.out.below hb Ug_7.out.2.2)
    clear Ug_7
    have Rh_4 : Hid (RivAt w29 loh hih Lh ha0 ha1 ha2 hc0 hc1 hc2 rn rD rM rV) := Lib.hid (Rh_3.out.below hb Rh_3.out.lh)
    clear Rh_3
    have Gh_4 : Hid (HSS w29 (x1h) (x2h) (x3h) (x4h) (.slice hsa rG.length hsc) rG.length rG) := Lib.hid (Gh_3.out.below hb Gh_3.out.lh)
    clear Gh_3
    have Uh_4 : Hid (HRow w29 2 1 (l2h) (u2h) (.slice hza rS.length hzc) rS.length (ic rS)) := Lib.hid (Uh_3.out.below hb Uh_3.out.2.2)
    clear Uh_3
    have BH_3 : Hid (Bx w29 (w26.heap.size) [.slice ha0 rD.length hc0, .slice ha1 rn hc1, .slice ha2 rV.length hc2]) := Lib.hid (BH_2.out.below hb BH_2.out.1)
    clear BH_2
    clear hb
    have cBA0 := BA_33.out.c 0 rfl
    have cBA1 := BA_33.out.c 1 rfl
    have cBA2 := BA_33.out.c 2 rfl
    have cBT0 := BT_28.out.c 0 rfl
    have cBT1 := BT_28.out.c 1 rfl
    have cBT2 := BT_28.out.c 2 rfl
    have cBX0 := BX_26.out.c 0 rfl
    have cBX1 := BX_26.out.c 1 rfl
    have cBX2 := BX_26.out.c 2 rfl
    have cBG0 := BG_23.out.c 0 rfl
    have cBG1 := BG_23.out.c 1 rfl
    have cBG2 := BG_23.out.c 2 rfl
    have cBH0 := BH_3.out.c 0 rfl
    have cBH1 := BH_3.out.c 1 rfl
    have cBH2 := BH_3.out.c 2 rfl
    go_wp2_with fail
    refine (heldRiver_any log hig 1 Lg ga0 ga1 ga2 gc0 gc1 gc2 rD.length rn rV.length _ Rg_10.out hlim.1 hlim.2.1 hlim.2.2 (by omega)).mono ?_
    rintro e w30 ⟨rfl, hb⟩
    clear cBA0 cBA1 cBA2 cBT0 cBT1 cBT2 cBX0 cBX1 cBX2 cBG0 cBG1 cBG2 cBH0 cBH1 cBH2
    have z30 : w29.heap.size + 0 ≤ w30.heap.size := (by have := hb.size; (try simp at this); omega)
    have Bel_35 : Hid (Below w.heap.size w w30) := Lib.hid (Bel_34.out.trans (hb.mono Bel_34.out.size))
    clear Bel_34
    have BA_34 : Hid (Bx w30 (w.heap.size) [.slice a0 D.length c0, .slice a1 n c1, .slice a2 V.length c2]) := Lib.hid (BA_33.out.below hb BA_33.out.1)
    clear BA_33
    have Rt_30 : Hid (RivAt w30 lot hit Lt ta0 ta1 ta2 tc0 tc1 tc2 rn rD rM rV) := Lib.hid (Rt_29.out.below hb Rt_29.out.lh)
    clear Rt_29
    have Gt_30 : Hid (HSS w30 (x1t) (x2t) (x3t) (x4t) (.slice tsa rG.length tsc) rG.length rG) := Lib.hid (Gt_29.out.below hb Gt_29.out.lh)
    clear Gt_29
    have Ut_30 : Hid (HRow w30 2 1 (l2t) (u2t) (.slice tza rS.length tzc) rS.length (ic rS)) := Lib.hid (Ut_29.out.below hb Ut_29.out.2.2)
    clear Ut_29
    have BT_29 : Hid (Bx w30 (w4.heap.size) [.slice ta0 rD.length tc0, .slice ta1 rn tc1, .slice ta2 rV.length tc2]) := Lib.hid (BT_28.out.below hb BT_28.out.1)
    clear BT_28
    have BX_27 : Hid (Bx w30 (w5.heap.size) [.slice xa0 D.length xc0, .slice xa1 n xc1, .slice xa2 V.length xc2]) := Lib.hid (BX_26.out.below hb BX_26.out.1)
    clear BX_26
    have BG_24 : Hid (Bx w30 (w7.heap.size) [.slice ga0 rD.length gc0, .slice ga1 rn gc1, .slice ga2 rV.length gc2]) := Lib.hid (BG_23.out.below hb BG_23.out.1)
    clear BG_23
    have Rg_11 : Hid (MarkedR w30 log hig Lg 1 ga0 ga1 ga2 gc0 gc1 gc2 rD.length rn rV.length) := Lib.hid (Rg_10.out.below hb Rg_10.out.lh)
    clear Rg_10
    have Gg_10 : Hid (HSS w30 (x1g) (x2g) (x3g) (x4g) (.slice gsa rG.length gsc) rG.length (marksSS (1 + rD.length + rn * 4 + rV.length) rG rG.length)) := Lib.hid (Gg_9.out.below hb Gg_9.out.lh)
    clear Gg_9
    have Ug_9 : Hid (HRow w30 2 1 (l2g) (u2g) (.slice gza rS.length gzc) rS.length (ic (marksZ (1 + rD.length + rn * 4 + rV.length + totZ rG rG.length) rS.length))) := Lib.hid (Ug_8.out.below hb Ug_8.out.2.2)
    clear Ug_8
    have Rh_5 : Hid (RivAt w30 loh hih Lh ha0 ha1 ha2 hc0 hc1 hc2 rn rD rM rV) := Lib.hid (Rh_4.out.below hb Rh_4.out.lh)
    clear Rh_4
    have Gh_5 : Hid (HSS w30 (x1h) (x2h) (x3h) (x4h) (.slice hsa rG.length hsc) rG.length rG) := Lib.hid (Gh_4.out.below hb Gh_4.out.lh)
    clear Gh_4
    have Uh_5 : Hid (HRow w30 2 1 (l2h) (u2h) (.slice hza rS.length hzc) rS.length (ic rS)) := Lib.hid (Uh_4.out.below hb Uh_4.out.2.2)
    clear Uh_4
    have BH_4 : Hid (Bx w30 (w26.heap.size) [.slice ha0 rD.length hc0, .slice ha1 rn hc1, .slice ha2 rV.length hc2]) := Lib.hid (BH_3.out.below hb BH_3.out.1)
    clear BH_3
    clear hb
    have cBA0 := BA_34.out.c 0 rfl
    have cBA1 := BA_34.out.c 1 rfl
    have cBA2 := BA_34.out.c 2 rfl
    have cBT0 := BT_29.out.c 0 rfl
    have cBT1 := BT_29.out.c 1 rfl
    have cBT2 := BT_29.out.c 2 rfl
    have cBX0 := BX_27.out.c 0 rfl
    have cBX1 := BX_27.out.c 1 rfl
    have cBX2 := BX_27.out.c 2 rfl
    have cBG0 := BG_24.out.c 0 rfl
    have cBG1 := BG_24.out.c 1 rfl
    have cBG2 := BG_24.out.c 2 rfl
    have cBH0 := BH_4.out.c 0 rfl
    have cBH1 := BH_4.out.c 1 rfl
    have cBH2 := BH_4.out.c 2 rfl
    go_wp2_with fail
    refine (heldSS_any (x1g) (x2g) (x3g) (x4g) (1 + rD.length + rn * 4 + rV.length) gsa gsc rG _ Gg_10.out hlG HrG.out (by omega)).mono ?_
    rintro e w' ⟨rfl, rfl⟩
    clear cBA0 cBA1 cBA2 cBT0 cBT1 cBT2 cBX0 cBX1 cBX2 cBG0 cBG1 cBG2 cBH0 cBH1 cBH2
    have cBA0 := BA_34.out.c 0 rfl
    have cBA1 := BA_34.out.c 1 rfl
    have cBA2 := BA_34.out.c 2 rfl
    have cBT0 := BT_29.out.c 0 rfl
    have cBT1 := BT_29.out.c 1 rfl
    have cBT2 := BT_29.out.c 2 rfl
    have cBX0 := BX_27.out.c 0 rfl
    have cBX1 := BX_27.out.c 1 rfl
    have cBX2 := BX_27.out.c 2 rfl
    have cBG0 := BG_24.out.c 0 rfl
    have cBG1 := BG_24.out.c 1 rfl
    have cBG2 := BG_24.out.c 2 rfl
    have cBH0 := BH_4.out.c 0 rfl
    have cBH1 := BH_4.out.c 1 rfl
    have cBH2 := BH_4.out.c 2 rfl
    go_wp2_with fail
    refine (heldZ_any l2g u2g (1 + rD.length + rn * 4 + rV.length + totZ rG rG.length) gza rS.length gzc _ Ug_9.out hlS (by omega)).mono ?_
    rintro e w' ⟨rfl, rfl⟩
    clear cBA0 cBA1 cBA2 cBT0 cBT1 cBT2 cBX0 cBX1 cBX2 cBG0 cBG1 cBG2 cBH0 cBH1 cBH2
    have cBA0 := BA_34.out.c 0 rfl
    have cBA1 := BA_34.out.c 1 rfl
    have cBA2 := BA_34.out.c 2 rfl
    have cBT0 := BT_29.out.c 0 rfl
    have cBT1 := BT_29.out.c 1 rfl
    have cBT2 := BT_29.out.c 2 rfl
    have cBX0 := BX_27.out.c 0 rfl
    have cBX1 := BX_27.out.c 1 rfl
    have cBX2 := BX_27.out.c 2 rfl
    have cBG0 := BG_24.out.c 0 rfl
    have cBG1 := BG_24.out.c 1 rfl
    have cBG2 := BG_24.out.c 2 rfl
    have cBH0 := BH_4.out.c 0 rfl
    have cBH1 := BH_4.out.c 1 rfl
    have cBH2 := BH_4.out.c 2 rfl
    go_wp2_with fail
    go_ret
    exact ⟨rfl, Bel_35.out⟩

set_option maxHeartbeats 4000000 in
theorem runDaysLaw_not (a0 a1 a2 a : Option Addr) (c0 c1 c2 n cap : Nat) (D M V : List Int) (Zs : List (List Int)) (w : World) (has : RowSS w a Zs) (hmx : D.length ≤ maxLen ∧ n ≤ maxLen ∧ V.length ≤ maxLen) (hm : Zs.length ≤ maxLen) (hrm : ∀ k, k < Zs.length → (zr Zs k).length ≤ maxLen) (h : ¬ ((D.length : Int) + (n : Int) + (V.length : Int) ≤ 1048576 ∧ (Zs.length : Int) + (totZ Zs Zs.length : Int) ≤ 1048576 - ((D.length : Int) + (n : Int) + (V.length : Int)))) :
    Calls Try.prog 4 #[.agg #[.slice a0 D.length c0, .slice a1 n c1, .slice a2 V.length c2], .slice a Zs.length cap] w fun e w' => e = .returned (.bool true) ∧ Below w.heap.size w w' := by
  unfold maxLen at hmx hm hrm
  have hneg : ((-1 : Int) < 0) := by decide
  have HAS := Lib.hid has
  by_cases h1 : (D.length : Int) + (n : Int) + (V.length : Int) ≤ 1048576
  · have g1 : ¬ (1048576 : Int) - (D.length : Int) - (n : Int) - (V.length : Int) < 0 := by omega
    have hrm2 : ∀ k, k < Zs.length → (zr Zs k).length ≤ 9223372036854775807 := fun k hk => by have := hrm k hk; omega
    have HSz := Lib.hid (szRiver_fits a0 a1 a2 D.length n V.length c0 c1 c2 1048576 (by omega) (by omega) (w.alloc (.cells #[.slice a0 D.length c0, .slice a1 n c1, .slice a2 V.length c2] 25)))
    clear hrm has
    go_enter Try.func4, Try.ntmps4
    go_wp2_with fail
    refine HSz.out.mono ?_
    rintro e w1 ⟨rfl, hb⟩
    have HB1 : Hid (Below w.heap.size w w1) := Lib.hid ((bel1 w _).trans (hb.mono (by simp)))
    clear hb HSz
    go_wp2_with fail
    refine (szSS_not a cap Zs _ _ (HAS.out.below HB1.out (Nat.le_refl _)) (by omega) (by omega) (by omega) (by omega) hrm2).mono ?_
    rintro e w2 ⟨rfl, rfl⟩
    go_wp2_with fail
    go_ret
    exact ⟨rfl, HB1.out⟩
  · have HSz := Lib.hid (szRiver_not a0 a1 a2 D.length n V.length c0 c1 c2 1048576 (by omega) (by omega) (by omega) (by omega) (by omega) (by omega) (w.alloc (.cells #[.slice a0 D.length c0, .slice a1 n c1, .slice a2 V.length c2] 25)))
    clear hmx h has hm hrm
    go_enter Try.func4, Try.ntmps4
    go_wp2_with fail
    refine HSz.out.mono ?_
    rintro e w1 ⟨rfl, hb⟩
    have HB1 : Hid (Below w.heap.size w w1) := Lib.hid ((bel1 w _).trans (hb.mono (by simp)))
    clear hb
    go_wp2_with fail
    go_ret
    exact ⟨rfl, HB1.out⟩
theorem walk_FnExactRunDays (a0 a1 a2 : Option Addr) (l0 n l2 c0 c1 c2 : Nat) (D M V : List Int) (a : Option Addr) (len cap : Nat) (Zs : List (List Int)) (w : World) (ha : IsRiv w a0 a1 a2 l0 n l2 c0 c1 c2 D M V) (hd : IsRowSS w a len cap Zs) :
    Calls Try.prog 4 #[.agg #[.slice a0 l0 c0, .slice a1 n c1, .slice a2 l2 c2], .slice a len cap] w fun e w' => e = .returned (.bool true) ∧ Below w.heap.size w w' := by
  obtain ⟨⟨hl0, hc0, hx0, hr0, _⟩, ⟨hl1, hc1, hx1, hr1, _⟩, ⟨hl2, hc2, hx2, hr2, _⟩⟩ := ha
  obtain ⟨hld, hcd, hxd, hrd, hrm⟩ := hd
  rw [Nat.mul_one] at hl0 hl2
  subst hl0; subst hl2; subst hld
  by_cases h : (D.length : Int) + (n : Int) + (V.length : Int) ≤ 1048576 ∧ (Zs.length : Int) + (totZ Zs Zs.length : Int) ≤ 1048576 - ((D.length : Int) + (n : Int) + (V.length : Int))
  · exact runDaysLaw_fits a0 a1 a2 a c0 c1 c2 n cap D M V Zs w hr0 hr1 hr2 hl1 hrd h.1 h.2
  · exact runDaysLaw_not a0 a1 a2 a c0 c1 c2 n cap D M V Zs w hrd ⟨by omega, by omega, by omega⟩ (by omega) hrm h
end Go.Proofs.Ytckmacnmmloemaa
