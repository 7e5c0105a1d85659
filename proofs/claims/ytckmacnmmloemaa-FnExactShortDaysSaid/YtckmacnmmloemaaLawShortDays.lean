/- The walk of the law on ShortDays. -/
import Derived.Test.YtckmacnmmloemaaShoC
import Derived.Test.YtckmacnmmloemaaRivO
import Derived.Test.YtckmacnmmloemaaRegMk
import Derived.Test.YtckmacnmmloemaaMark2
namespace Go.Proofs.Ytckmacnmmloemaa
open Go.RowKit
set_option linter.unusedVariables false
set_option linter.unusedSimpArgs false
set_option maxRecDepth 100000
attribute [local irreducible] wpV wpList Code.wp

set_option maxHeartbeats 32000000 in
theorem shortDaysLaw_fits (a0 a1 a2 a : Option Addr) (c0 c1 c2 n cap : Nat) (D M V : List Int) (Zs : List (List Int)) (w : World) (ha0 : RowC w a0 (ic D)) (ha1 : RowC w a1 (ic M)) (ha2 : RowC w a2 (ic V)) (hM : M.length = n * 4) (has : RowSS w a Zs) (h1 : (D.length : Int) + (n : Int) + (V.length : Int) ≤ 1048576) (h2 : (Zs.length : Int) + (totZ Zs Zs.length : Int) ≤ 1048576 - ((D.length : Int) + (n : Int) + (V.length : Int))) :
    Calls Try.prog 6 #[.agg #[.slice a0 D.length c0, .slice a1 n c1, .slice a2 V.length c2], .slice a Zs.length cap] w fun e w' => e = .returned (.bool true) ∧ Below w.heap.size w w' := by
  have hlD : D.length ≤ 1048576 := by omega
  have hln : n ≤ 1048576 := by omega
  have hlV : V.length ≤ 1048576 := by omega
  have g1 : ¬ (1048576 : Int) - (D.length : Int) - (n : Int) - (V.length : Int) < 0 := by omega
  have g2 : ¬ (1048576 : Int) - (D.length : Int) - (n : Int) - (V.length : Int) - (Zs.length : Int) - (totZ Zs Zs.length : Int) < 0 := by omega
  have hlz : Zs.length ≤ 1048576 := by omega
  have hrl : ∀ k, k < Zs.length → (zr Zs k).length ≤ 1048576 := fun k hk => by have h9 := row_le (Zs := Zs) hk; omega
  have hlim := shoR_len D M V n Zs
  have HM := Lib.hid hM
  clear hM
  obtain ⟨⟨Z, B⟩, hR⟩ : ∃ R, shoR D M V n Zs = R := ⟨_, rfl⟩
  rw [hR] at hlim
  simp only at hlim
  have hlim : Z.length ≤ 1048576 := by omega
  have HS : Hid (∀ (b0 b1 b2 : Option Addr) (d0 d1 d2 : Nat) (f : Option Addr) (fc : Nat) (W : World), RowC W b0 (ic D) → RowC W b1 (ic M) → RowC W b2 (ic V) → RowSS W f Zs → Calls Try.prog 32 #[.agg #[.slice b0 D.length d0, .slice b1 n d1, .slice b2 V.length d2], .slice f Zs.length fc] W (fun e w' => ∃ lo hi a c, e = .returned (.tuple #[.slice a Z.length c, .bool B]) ∧ Below W.heap.size W w' ∧ HRow w' 2 1 lo hi (.slice a Z.length c) Z.length (ic Z) ∧ W.heap.size ≤ lo)) := Lib.hid fun b0 b1 b2 d0 d1 d2 f fc W k0 k1 k2 kf => by
    have h9 := shortDays_s b0 b1 b2 f D.length n V.length d0 d1 d2 Zs.length fc D M V Zs W k0 k1 k2 rfl HM.out rfl ⟨hlD, hln, hlV⟩ kf rfl hrl hlz
    rw [hR] at h9
    exact h9
  have HI : Hid (∀ (b0 b1 b2 : Option Addr) (d0 d1 d2 : Nat) (f : Option Addr) (fc : Nat) (W : World), RowC W b0 (ic D) → RowC W b1 (ic M) → RowC W b2 (ic V) → RowSS W f Zs → Calls Try.prog 33 #[.agg #[.slice b0 D.length d0, .slice b1 n d1, .slice b2 V.length d2], .slice f Zs.length fc] W (fun e w' => ∃ lo hi a c, e = .returned (.tuple #[.slice a Z.length c, .bool B]) ∧ Below W.heap.size W w' ∧ HRow w' 2 1 lo hi (.slice a Z.length c) Z.length (ic Z) ∧ W.heap.size ≤ lo)) := Lib.hid fun b0 b1 b2 d0 d1 d2 f fc W k0 k1 k2 kf => by
    have h9 := shortDays_i b0 b1 b2 f D.length n V.length d0 d1 d2 Zs.length fc D M V Zs W k0 k1 k2 rfl HM.out rfl ⟨hlD, hln, hlV⟩ kf rfl hrl
    rw [hR] at h9
    exact h9
  clear hR
  have Hrl := Lib.hid hrl
  have HA0 := Lib.hid ha0
  have HA1 := Lib.hid ha1
  have HA2 := Lib.hid ha2
  have HAS := Lib.hid has
  clear ha0 ha1 ha2 has hrl
  cases B
  all_goals
    have Bel_0 : Hid (Below w.heap.size w w) := Lib.hid (Below.refl w.heap.size w)
    have Bel_1 : Hid (Below w.heap.size w (w.alloc (.cells #[.slice a0 D.length c0, .slice a1 n c1, .slice a2 V.length c2] 25))) := Lib.hid (Bel_0.out.alloc Bel_0.out.size _)
    clear Bel_0
    have BA_0 : Hid (Bx (w.alloc (.cells #[.slice a0 D.length c0, .slice a1 n c1, .slice a2 V.length c2] 25)) (w.heap.size) [.slice a0 D.length c0, .slice a1 n c1, .slice a2 V.length c2]) := Lib.hid (Bx.new w [.slice a0 D.length c0, .slice a1 n c1, .slice a2 V.length c2] 25)
    go_enter Try.func6, Try.ntmps6
    have cBA0 := BA_0.out.c 0 rfl
    have cBA1 := BA_0.out.c 1 rfl
    have cBA2 := BA_0.out.c 2 rfl
    go_wp2_with fail
    refine (szRiver_fits a0 a1 a2 D.length n V.length c0 c1 c2 1048576 (by omega) (by omega) _).mono ?_
    rintro e w1 ⟨rfl, hb⟩
    clear cBA0 cBA1 cBA2
    have z1 : w.heap.size + 1 ≤ w1.heap.size := (by have := hb.size; (try simp at this); omega)
    have Bel_2 : Hid (Below w.heap.size w w1) := Lib.hid (Bel_1.out.trans (hb.mono Bel_1.out.size))
    clear Bel_1
    have BA_1 : Hid (Bx w1 (w.heap.size) [.slice a0 D.length c0, .slice a1 n c1, .slice a2 V.length c2]) := Lib.hid (BA_0.out.below hb BA_0.out.1)
    clear BA_0
    clear hb
    have cBA0 := BA_1.out.c 0 rfl
    have cBA1 := BA_1.out.c 1 rfl
    have cBA2 := BA_1.out.c 2 rfl
    go_wp2_with fail
    refine (szSS_fits a cap Zs _ _ (HAS.out.below Bel_2.out (Nat.le_refl _)) (by omega) (by omega)).mono ?_
    rintro e w' ⟨rfl, rfl⟩
    clear cBA0 cBA1 cBA2
    have cBA0 := BA_1.out.c 0 rfl
    have cBA1 := BA_1.out.c 1 rfl
    have cBA2 := BA_1.out.c 2 rfl
    go_wp2_with fail
    refine (toRiver_any a0 a1 a2 c0 c1 c2 n D M V _ (HA0.out.below Bel_2.out (Nat.le_refl _)) (HA1.out.below Bel_2.out (Nat.le_refl _)) (HA2.out.below Bel_2.out (Nat.le_refl _)) hlD hln hlV HM.out).mono ?_
    rintro e w2 ⟨sa0, sc0, sa1, sc1, sa2, sc2, sL, rfl, hb, hrs⟩
    clear cBA0 cBA1 cBA2
    have z2 : w1.heap.size + 0 ≤ w2.heap.size := (by have := hb.size; (try simp at this); omega)
    have Bel_3 : Hid (Below w.heap.size w w2) := Lib.hid (Bel_2.out.trans (hb.mono Bel_2.out.size))
    clear Bel_2
    have BA_2 : Hid (Bx w2 (w.heap.size) [.slice a0 D.length c0, .slice a1 n c1, .slice a2 V.length c2]) := Lib.hid (BA_1.out.below hb BA_1.out.1)
    clear BA_1
    clear hb
    have Qs_0 : Hid (RivAt w2 w1.heap.size w2.heap.size sL sa0 sa1 sa2 sc0 sc1 sc2 n D M V) := Lib.hid (hrs)
    clear hrs
    have cBA0 := BA_2.out.c 0 rfl
    have cBA1 := BA_2.out.c 1 rfl
    have cBA2 := BA_2.out.c 2 rfl
    go_wp2_with fail
    refine (copySS_any a cap Zs _ (HAS.out.below Bel_3.out (Nat.le_refl _)) hlz Hrl.out).mono ?_
    rintro e w3 ⟨ma, mc, mp, rfl, hb, hpm, hrm⟩
    clear cBA0 cBA1 cBA2
    have z3 : w2.heap.size + 0 ≤ w3.heap.size := (by have := hb.size; (try simp at this); omega)
    have Bel_4 : Hid (Below w.heap.size w w3) := Lib.hid (Bel_3.out.trans (hb.mono Bel_3.out.size))
    clear Bel_3
    have BA_3 : Hid (Bx w3 (w.heap.size) [.slice a0 D.length c0, .slice a1 n c1, .slice a2 V.length c2]) := Lib.hid (BA_2.out.below hb BA_2.out.1)
    clear BA_2
    have Qs_1 : Hid (RivAt w3 w1.heap.size w2.heap.size sL sa0 sa1 sa2 sc0 sc1 sc2 n D M V) := Lib.hid (Qs_0.out.below hb Qs_0.out.lh)
    clear Qs_0
    have hp1m : w2.heap.size + 0 ≤ mp := by (try simp at hpm); omega
    have hp2m : mp + 1 ≤ w3.heap.size := hrm.lh.1
    clear hpm
    clear hb
    have Sm_0 : Hid (HSS w3 (mp) (mp + 1) (mp + 1) (w3.heap.size) (.slice ma Zs.length mc) Zs.length Zs) := Lib.hid (hrm)
    clear hrm
    have cBA0 := BA_3.out.c 0 rfl
    have cBA1 := BA_3.out.c 1 rfl
    have cBA2 := BA_3.out.c 2 rfl
    go_wp2_with fail
    refine (HS.out sa0 sa1 sa2 sc0 sc1 sc2 ma mc _ Qs_1.out.r0.row Qs_1.out.r1.row Qs_1.out.r2.row Sm_0.out.row).mono ?_
    rintro e w4 ⟨lot, hit, ta, tc, rfl, hb, hrt, hlot⟩
    clear cBA0 cBA1 cBA2
    have z4 : w3.heap.size + 0 ≤ w4.heap.size := (by have := hb.size; (try simp at this); omega)
    have Bel_5 : Hid (Below w.heap.size w w4) := Lib.hid (Bel_4.out.trans (hb.mono Bel_4.out.size))
    clear Bel_4
    have BA_4 : Hid (Bx w4 (w.heap.size) [.slice a0 D.length c0, .slice a1 n c1, .slice a2 V.length c2]) := Lib.hid (BA_3.out.below hb BA_3.out.1)
    clear BA_3
    have Qs_2 : Hid (RivAt w4 w1.heap.size w2.heap.size sL sa0 sa1 sa2 sc0 sc1 sc2 n D M V) := Lib.hid (Qs_1.out.below hb Qs_1.out.lh)
    clear Qs_1
    have Sm_1 : Hid (HSS w4 (mp) (mp + 1) (mp + 1) (w3.heap.size) (.slice ma Zs.length mc) Zs.length Zs) := Lib.hid (Sm_0.out.below hb Sm_0.out.lh)
    clear Sm_0
    (try simp at hlot)
    have hht : hit ≤ w4.heap.size := hrt.2.2
    clear hb
    have Rt_0 : Hid (HRow w4 2 1 (lot) (hit) (.slice ta Z.length tc) Z.length (ic Z)) := Lib.hid (hrt)
    clear hrt
    clear Qs_2 Sm_1
    have cBA0 := BA_4.out.c 0 rfl
    have cBA1 := BA_4.out.c 1 rfl
    have cBA2 := BA_4.out.c 2 rfl
    go_wp2_with fail
    refine (toRiver_any a0 a1 a2 c0 c1 c2 n D M V _ (HA0.out.below Bel_5.out (Nat.le_refl _)) (HA1.out.below Bel_5.out (Nat.le_refl _)) (HA2.out.below Bel_5.out (Nat.le_refl _)) hlD hln hlV HM.out).mono ?_
    rintro e w5 ⟨xa0, xc0, xa1, xc1, xa2, xc2, xL, rfl, hb, hrx⟩
    clear cBA0 cBA1 cBA2
    have z5 : w4.heap.size + 0 ≤ w5.heap.size := (by have := hb.size; (try simp at this); omega)
    have Bel_6 : Hid (Below w.heap.size w w5) := Lib.hid (Bel_5.out.trans (hb.mono Bel_5.out.size))
    clear Bel_5
    have BA_5 : Hid (Bx w5 (w.heap.size) [.slice a0 D.length c0, .slice a1 n c1, .slice a2 V.length c2]) := Lib.hid (BA_4.out.below hb BA_4.out.1)
    clear BA_4
    have Rt_1 : Hid (HRow w5 2 1 (lot) (hit) (.slice ta Z.length tc) Z.length (ic Z)) := Lib.hid (Rt_0.out.below hb Rt_0.out.2.2)
    clear Rt_0
    clear hb
    have Qx_0 : Hid (RivAt w5 w4.heap.size w5.heap.size xL xa0 xa1 xa2 xc0 xc1 xc2 n D M V) := Lib.hid (hrx)
    clear hrx
    have Bel_7 : Hid (Below w.heap.size w (w5.alloc (.cells #[.slice xa0 D.length xc0, .slice xa1 n xc1, .slice xa2 V.length xc2] 29))) := Lib.hid (Bel_6.out.alloc Bel_6.out.size _)
    clear Bel_6
    have BA_6 : Hid (Bx (w5.alloc (.cells #[.slice xa0 D.length xc0, .slice xa1 n xc1, .slice xa2 V.length xc2] 29)) (w.heap.size) [.slice a0 D.length c0, .slice a1 n c1, .slice a2 V.length c2]) := Lib.hid (BA_5.out.alloc _)
    clear BA_5
    have Rt_2 : Hid (HRow (w5.alloc (.cells #[.slice xa0 D.length xc0, .slice xa1 n xc1, .slice xa2 V.length xc2] 29)) 2 1 (lot) (hit) (.slice ta Z.length tc) Z.length (ic Z)) := Lib.hid (Rt_1.out.alloc _)
    clear Rt_1
    have Qx_1 : Hid (RivAt (w5.alloc (.cells #[.slice xa0 D.length xc0, .slice xa1 n xc1, .slice xa2 V.length xc2] 29)) w4.heap.size w5.heap.size xL xa0 xa1 xa2 xc0 xc1 xc2 n D M V) := Lib.hid (Qx_0.out.alloc _)
    clear Qx_0
    have BX_0 : Hid (Bx (w5.alloc (.cells #[.slice xa0 D.length xc0, .slice xa1 n xc1, .slice xa2 V.length xc2] 29)) (w5.heap.size) [.slice xa0 D.length xc0, .slice xa1 n xc1, .slice xa2 V.length xc2]) := Lib.hid (Bx.new w5 [.slice xa0 D.length xc0, .slice xa1 n xc1, .slice xa2 V.length xc2] 29)
    have cBA0 := BA_6.out.c 0 rfl
    have cBA1 := BA_6.out.c 1 rfl
    have cBA2 := BA_6.out.c 2 rfl
    have cBX0 := BX_0.out.c 0 rfl
    have cBX1 := BX_0.out.c 1 rfl
    have cBX2 := BX_0.out.c 2 rfl
    go_wp2_with fail
    refine (copySS_any a cap Zs _ (HAS.out.below Bel_7.out (Nat.le_refl _)) hlz Hrl.out).mono ?_
    rintro e w6 ⟨ya, yc, yp, rfl, hb, hpy, hry⟩
    clear cBA0 cBA1 cBA2 cBX0 cBX1 cBX2
    have z6 : w5.heap.size + 1 ≤ w6.heap.size := (by have := hb.size; (try simp at this); omega)
    have Bel_8 : Hid (Below w.heap.size w w6) := Lib.hid (Bel_7.out.trans (hb.mono Bel_7.out.size))
    clear Bel_7
    have BA_7 : Hid (Bx w6 (w.heap.size) [.slice a0 D.length c0, .slice a1 n c1, .slice a2 V.length c2]) := Lib.hid (BA_6.out.below hb BA_6.out.1)
    clear BA_6
    have Rt_3 : Hid (HRow w6 2 1 (lot) (hit) (.slice ta Z.length tc) Z.length (ic Z)) := Lib.hid (Rt_2.out.below hb Rt_2.out.2.2)
    clear Rt_2
    have Qx_2 : Hid (RivAt w6 w4.heap.size w5.heap.size xL xa0 xa1 xa2 xc0 xc1 xc2 n D M V) := Lib.hid (Qx_1.out.below hb Qx_1.out.lh)
    clear Qx_1
    have BX_1 : Hid (Bx w6 (w5.heap.size) [.slice xa0 D.length xc0, .slice xa1 n xc1, .slice xa2 V.length xc2]) := Lib.hid (BX_0.out.below hb BX_0.out.1)
    clear BX_0
    have hp1y : w5.heap.size + 1 ≤ yp := by (try simp at hpy); omega
    have hp2y : yp + 1 ≤ w6.heap.size := hry.lh.1
    clear hpy
    clear hb
    have Sy_0 : Hid (HSS w6 (yp) (yp + 1) (yp + 1) (w6.heap.size) (.slice ya Zs.length yc) Zs.length Zs) := Lib.hid (hry)
    clear hry
    have cBA0 := BA_7.out.c 0 rfl
    have cBA1 := BA_7.out.c 1 rfl
    have cBA2 := BA_7.out.c 2 rfl
    have cBX0 := BX_1.out.c 0 rfl
    have cBX1 := BX_1.out.c 1 rfl
    have cBX2 := BX_1.out.c 2 rfl
    go_wp2_with fail
    refine (HI.out xa0 xa1 xa2 xc0 xc1 xc2 ya yc _ Qx_2.out.r0.row Qx_2.out.r1.row Qx_2.out.r2.row Sy_0.out.row).mono ?_
    rintro e w7 ⟨log, hig, ga, gc, rfl, hb, hrg, hlog⟩
    clear cBA0 cBA1 cBA2 cBX0 cBX1 cBX2
    have z7 : w6.heap.size + 0 ≤ w7.heap.size := (by have := hb.size; (try simp at this); omega)
    have Bel_9 : Hid (Below w.heap.size w w7) := Lib.hid (Bel_8.out.trans (hb.mono Bel_8.out.size))
    clear Bel_8
    have BA_8 : Hid (Bx w7 (w.heap.size) [.slice a0 D.length c0, .slice a1 n c1, .slice a2 V.length c2]) := Lib.hid (BA_7.out.below hb BA_7.out.1)
    clear BA_7
    have Rt_4 : Hid (HRow w7 2 1 (lot) (hit) (.slice ta Z.length tc) Z.length (ic Z)) := Lib.hid (Rt_3.out.below hb Rt_3.out.2.2)
    clear Rt_3
    have Qx_3 : Hid (RivAt w7 w4.heap.size w5.heap.size xL xa0 xa1 xa2 xc0 xc1 xc2 n D M V) := Lib.hid (Qx_2.out.below hb Qx_2.out.lh)
    clear Qx_2
    have BX_2 : Hid (Bx w7 (w5.heap.size) [.slice xa0 D.length xc0, .slice xa1 n xc1, .slice xa2 V.length xc2]) := Lib.hid (BX_1.out.below hb BX_1.out.1)
    clear BX_1
    have Sy_1 : Hid (HSS w7 (yp) (yp + 1) (yp + 1) (w6.heap.size) (.slice ya Zs.length yc) Zs.length Zs) := Lib.hid (Sy_0.out.below hb Sy_0.out.lh)
    clear Sy_0
    (try simp at hlog)
    have hhg : hig ≤ w7.heap.size := hrg.2.2
    clear hb
    have Rg_0 : Hid (HRow w7 2 1 (log) (hig) (.slice ga Z.length gc) Z.length (ic Z)) := Lib.hid (hrg)
    clear hrg
    have cBA0 := BA_8.out.c 0 rfl
    have cBA1 := BA_8.out.c 1 rfl
    have cBA2 := BA_8.out.c 2 rfl
    have cBX0 := BX_2.out.c 0 rfl
    have cBX1 := BX_2.out.c 1 rfl
    have cBX2 := BX_2.out.c 2 rfl
    go_wp2_with fail
    refine (eqZ_any ga ta gc tc Z _ Rg_0.out.row Rt_4.out.row hlim).mono ?_
    rintro e w8 ⟨rfl, hb⟩
    clear cBA0 cBA1 cBA2 cBX0 cBX1 cBX2
    have z8 : w7.heap.size + 0 ≤ w8.heap.size := (by have := hb.size; (try simp at this); omega)
    have Bel_10 : Hid (Below w.heap.size w w8) := Lib.hid (Bel_9.out.trans (hb.mono Bel_9.out.size))
    clear Bel_9
    have BA_9 : Hid (Bx w8 (w.heap.size) [.slice a0 D.length c0, .slice a1 n c1, .slice a2 V.length c2]) := Lib.hid (BA_8.out.below hb BA_8.out.1)
    clear BA_8
    have Rt_5 : Hid (HRow w8 2 1 (lot) (hit) (.slice ta Z.length tc) Z.length (ic Z)) := Lib.hid (Rt_4.out.below hb Rt_4.out.2.2)
    clear Rt_4
    have Qx_4 : Hid (RivAt w8 w4.heap.size w5.heap.size xL xa0 xa1 xa2 xc0 xc1 xc2 n D M V) := Lib.hid (Qx_3.out.below hb Qx_3.out.lh)
    clear Qx_3
    have BX_3 : Hid (Bx w8 (w5.heap.size) [.slice xa0 D.length xc0, .slice xa1 n xc1, .slice xa2 V.length xc2]) := Lib.hid (BX_2.out.below hb BX_2.out.1)
    clear BX_2
    have Sy_2 : Hid (HSS w8 (yp) (yp + 1) (yp + 1) (w6.heap.size) (.slice ya Zs.length yc) Zs.length Zs) := Lib.hid (Sy_1.out.below hb Sy_1.out.lh)
    clear Sy_1
    have Rg_1 : Hid (HRow w8 2 1 (log) (hig) (.slice ga Z.length gc) Z.length (ic Z)) := Lib.hid (Rg_0.out.below hb Rg_0.out.2.2)
    clear Rg_0
    clear hb
    have cBA0 := BA_9.out.c 0 rfl
    have cBA1 := BA_9.out.c 1 rfl
    have cBA2 := BA_9.out.c 2 rfl
    have cBX0 := BX_3.out.c 0 rfl
    have cBX1 := BX_3.out.c 1 rfl
    have cBX2 := BX_3.out.c 2 rfl
    go_wp2_with fail
    have HK8 : Hid (w8.cell? ⟨w.heap.size, 0, none⟩ = some (.slice a0 D.length c0) ∧ w8.cell? ⟨w.heap.size, 1, none⟩ = some (.slice a1 n c1) ∧ w8.cell? ⟨w.heap.size, 2, none⟩ = some (.slice a2 V.length c2) ∧ w8.cell? ⟨w5.heap.size, 0, none⟩ = some (.slice xa0 D.length xc0) ∧ w8.cell? ⟨w5.heap.size, 1, none⟩ = some (.slice xa1 n xc1) ∧ w8.cell? ⟨w5.heap.size, 2, none⟩ = some (.slice xa2 V.length xc2)) := Lib.hid ⟨BA_9.out.c 0 rfl, BA_9.out.c 1 rfl, BA_9.out.c 2 rfl, BX_3.out.c 0 rfl, BX_3.out.c 1 rfl, BX_3.out.c 2 rfl⟩
    go_region_held3 (fun w' => w'.cell? ⟨w.heap.size, 0, none⟩ = some (.slice a0 D.length c0) ∧ w'.cell? ⟨w.heap.size, 1, none⟩ = some (.slice a1 n c1) ∧ w'.cell? ⟨w.heap.size, 2, none⟩ = some (.slice a2 V.length c2) ∧ w'.cell? ⟨w5.heap.size, 0, none⟩ = some (.slice xa0 D.length xc0) ∧ w'.cell? ⟨w5.heap.size, 1, none⟩ = some (.slice xa1 n xc1) ∧ w'.cell? ⟨w5.heap.size, 2, none⟩ = some (.slice xa2 V.length xc2))
      (first | with_reducible exact HK10.out | with_reducible exact HK9.out | exact HK8.out)
      (first | (go_at_call 14; refine (toRiver_any a0 a1 a2 c0 c1 c2 n D M V _ (by first | with_reducible exact HA0.out.below Bel_10.out (Nat.le_refl _) | with_reducible exact (HA0.out.below Bel_10.out (Nat.le_refl _)).drewN 1 | exact HA0.out.below Bel_10.out.drew (Nat.le_refl _)) (by first | with_reducible exact HA1.out.below Bel_10.out (Nat.le_refl _) | with_reducible exact (HA1.out.below Bel_10.out (Nat.le_refl _)).drewN 1 | exact HA1.out.below Bel_10.out.drew (Nat.le_refl _)) (by first | with_reducible exact HA2.out.below Bel_10.out (Nat.le_refl _) | with_reducible exact (HA2.out.below Bel_10.out (Nat.le_refl _)).drewN 1 | exact HA2.out.below Bel_10.out.drew (Nat.le_refl _)) hlD hln hlV HM.out).mono ?_; rintro e w9 ⟨za0, zc0, za1, zc1, za2, zc2, zL, rfl, hb, hr⟩; have hst : Below w8.heap.size w8 w9 := (by first | with_reducible exact hb | with_reducible exact (Below.refl _ _).drew.trans (hb.mono (le_drew _))); have z9 : w8.heap.size ≤ w9.heap.size := hst.size; have Bel_11 : Hid (Below w.heap.size w w9) := Lib.hid (Bel_10.out.trans (hst.mono Bel_10.out.size)); clear Bel_10; have BA_10 : Hid (Bx w9 (w.heap.size) [.slice a0 D.length c0, .slice a1 n c1, .slice a2 V.length c2]) := Lib.hid (BA_9.out.below hst BA_9.out.1); clear BA_9; have Rt_6 : Hid (HRow w9 2 1 (lot) (hit) (.slice ta Z.length tc) Z.length (ic Z)) := Lib.hid (Rt_5.out.below hst Rt_5.out.2.2); clear Rt_5; have Qx_5 : Hid (RivAt w9 w4.heap.size w5.heap.size xL xa0 xa1 xa2 xc0 xc1 xc2 n D M V) := Lib.hid (Qx_4.out.below hst Qx_4.out.lh); clear Qx_4; have BX_4 : Hid (Bx w9 (w5.heap.size) [.slice xa0 D.length xc0, .slice xa1 n xc1, .slice xa2 V.length xc2]) := Lib.hid (BX_3.out.below hst BX_3.out.1); clear BX_3; have Sy_3 : Hid (HSS w9 (yp) (yp + 1) (yp + 1) (w6.heap.size) (.slice ya Zs.length yc) Zs.length Zs) := Lib.hid (Sy_2.out.below hst Sy_2.out.lh); clear Sy_2; have Rg_2 : Hid (HRow w9 2 1 (log) (hig) (.slice ga Z.length gc) Z.length (ic Z)) := Lib.hid (Rg_1.out.below hst Rg_1.out.2.2); clear Rg_1; have HK9 : Hid (w9.cell? ⟨w.heap.size, 0, none⟩ = some (.slice a0 D.length c0) ∧ w9.cell? ⟨w.heap.size, 1, none⟩ = some (.slice a1 n c1) ∧ w9.cell? ⟨w.heap.size, 2, none⟩ = some (.slice a2 V.length c2) ∧ w9.cell? ⟨w5.heap.size, 0, none⟩ = some (.slice xa0 D.length xc0) ∧ w9.cell? ⟨w5.heap.size, 1, none⟩ = some (.slice xa1 n xc1) ∧ w9.cell? ⟨w5.heap.size, 2, none⟩ = some (.slice xa2 V.length xc2)) := Lib.hid ⟨BA_10.out.c 0 rfl, BA_10.out.c 1 rfl, BA_10.out.c 2 rfl, BX_4.out.c 0 rfl, BX_4.out.c 1 rfl, BX_4.out.c 2 rfl⟩; have RZ9 := Lib.hid hr; clear hr; clear hb hst) | (go_at_call 17; refine (eqRiver_any xa0 xa1 xa2 za0 za1 za2 xc0 xc1 xc2 zc0 zc1 zc2 n D M V _ Qx_5.out.r0.row Qx_5.out.r1.row Qx_5.out.r2.row hlD hln hlV HM.out RZ9.out.r0.row RZ9.out.r1.row RZ9.out.r2.row).mono ?_; rintro e w10 ⟨rfl, hb⟩; have hst : Below w9.heap.size w9 w10 := (by first | with_reducible exact hb | with_reducible exact (Below.refl _ _).drew.trans (hb.mono (le_drew _))); have z10 : w9.heap.size ≤ w10.heap.size := hst.size; have Bel_12 : Hid (Below w.heap.size w w10) := Lib.hid (Bel_11.out.trans (hst.mono Bel_11.out.size)); clear Bel_11; have BA_11 : Hid (Bx w10 (w.heap.size) [.slice a0 D.length c0, .slice a1 n c1, .slice a2 V.length c2]) := Lib.hid (BA_10.out.below hst BA_10.out.1); clear BA_10; have Rt_7 : Hid (HRow w10 2 1 (lot) (hit) (.slice ta Z.length tc) Z.length (ic Z)) := Lib.hid (Rt_6.out.below hst Rt_6.out.2.2); clear Rt_6; have Qx_6 : Hid (RivAt w10 w4.heap.size w5.heap.size xL xa0 xa1 xa2 xc0 xc1 xc2 n D M V) := Lib.hid (Qx_5.out.below hst Qx_5.out.lh); clear Qx_5; have BX_5 : Hid (Bx w10 (w5.heap.size) [.slice xa0 D.length xc0, .slice xa1 n xc1, .slice xa2 V.length xc2]) := Lib.hid (BX_4.out.below hst BX_4.out.1); clear BX_4; have Sy_4 : Hid (HSS w10 (yp) (yp + 1) (yp + 1) (w6.heap.size) (.slice ya Zs.length yc) Zs.length Zs) := Lib.hid (Sy_3.out.below hst Sy_3.out.lh); clear Sy_3; have Rg_3 : Hid (HRow w10 2 1 (log) (hig) (.slice ga Z.length gc) Z.length (ic Z)) := Lib.hid (Rg_2.out.below hst Rg_2.out.2.2); clear Rg_2; have HK10 : Hid (w10.cell? ⟨w.heap.size, 0, none⟩ = some (.slice a0 D.length c0) ∧ w10.cell? ⟨w.heap.size, 1, none⟩ = some (.slice a1 n c1) ∧ w10.cell? ⟨w.heap.size, 2, none⟩ = some (.slice a2 V.length c2) ∧ w10.cell? ⟨w5.heap.size, 0, none⟩ = some (.slice xa0 D.length xc0) ∧ w10.cell? ⟨w5.heap.size, 1, none⟩ = some (.slice xa1 n xc1) ∧ w10.cell? ⟨w5.heap.size, 2, none⟩ = some (.slice xa2 V.length xc2)) := Lib.hid ⟨BA_11.out.c 0 rfl, BA_11.out.c 1 rfl, BA_11.out.c 2 rfl, BX_5.out.c 0 rfl, BX_5.out.c 1 rfl, BX_5.out.c 2 rfl⟩; clear RZ9; clear hb hst))
    try clear HK8
    try clear HK9
    try clear HK10
    clear cBA0 cBA1 cBA2 cBX0 cBX1 cBX2
    have cBA0 := BA_11.out.c 0 rfl
    have cBA1 := BA_11.out.c 1 rfl
    have cBA2 := BA_11.out.c 2 rfl
    have cBX0 := BX_5.out.c 0 rfl
    have cBX1 := BX_5.out.c 1 rfl
    have cBX2 := BX_5.out.c 2 rfl
    go_wp2_with fail
    refine (copySS_any a cap Zs _ (HAS.out.below Bel_12.out (Nat.le_refl _)) hlz Hrl.out).mono ?_
    rintro e w11 ⟨va, vc, vp, rfl, hb, hpv, hrv⟩
    clear cBA0 cBA1 cBA2 cBX0 cBX1 cBX2
    have z11 : w10.heap.size + 0 ≤ w11.heap.size := (by have := hb.size; (try simp at this); omega)
    have Bel_13 : Hid (Below w.heap.size w w11) := Lib.hid (Bel_12.out.trans (hb.mono Bel_12.out.size))
    clear Bel_12
    have BA_12 : Hid (Bx w11 (w.heap.size) [.slice a0 D.length c0, .slice a1 n c1, .slice a2 V.length c2]) := Lib.hid (BA_11.out.below hb BA_11.out.1)
    clear BA_11
    have Rt_8 : Hid (HRow w11 2 1 (lot) (hit) (.slice ta Z.length tc) Z.length (ic Z)) := Lib.hid (Rt_7.out.below hb Rt_7.out.2.2)
    clear Rt_7
    have Qx_7 : Hid (RivAt w11 w4.heap.size w5.heap.size xL xa0 xa1 xa2 xc0 xc1 xc2 n D M V) := Lib.hid (Qx_6.out.below hb Qx_6.out.lh)
    clear Qx_6
    have BX_6 : Hid (Bx w11 (w5.heap.size) [.slice xa0 D.length xc0, .slice xa1 n xc1, .slice xa2 V.length xc2]) := Lib.hid (BX_5.out.below hb BX_5.out.1)
    clear BX_5
    have Sy_5 : Hid (HSS w11 (yp) (yp + 1) (yp + 1) (w6.heap.size) (.slice ya Zs.length yc) Zs.length Zs) := Lib.hid (Sy_4.out.below hb Sy_4.out.lh)
    clear Sy_4
    have Rg_4 : Hid (HRow w11 2 1 (log) (hig) (.slice ga Z.length gc) Z.length (ic Z)) := Lib.hid (Rg_3.out.below hb Rg_3.out.2.2)
    clear Rg_3
    have hp1v : w10.heap.size + 0 ≤ vp := by (try simp at hpv); omega
    have hp2v : vp + 1 ≤ w11.heap.size := hrv.lh.1
    clear hpv
    clear hb
    have Sv_0 : Hid (HSS w11 (vp) (vp + 1) (vp + 1) (w11.heap.size) (.slice va Zs.length vc) Zs.length Zs) := Lib.hid (hrv)
    clear hrv
    have cBA0 := BA_12.out.c 0 rfl
    have cBA1 := BA_12.out.c 1 rfl
    have cBA2 := BA_12.out.c 2 rfl
    have cBX0 := BX_6.out.c 0 rfl
    have cBX1 := BX_6.out.c 1 rfl
    have cBX2 := BX_6.out.c 2 rfl
    go_wp2_with fail
    refine (eqSS_any ya va yc vc Zs _ Sy_5.out.row Sv_0.out.row hlz Hrl.out).mono ?_
    rintro e w12 ⟨rfl, hb⟩
    clear cBA0 cBA1 cBA2 cBX0 cBX1 cBX2
    have z12 : w11.heap.size + 0 ≤ w12.heap.size := (by have := hb.size; (try simp at this); omega)
    have Bel_14 : Hid (Below w.heap.size w w12) := Lib.hid (Bel_13.out.trans (hb.mono Bel_13.out.size))
    clear Bel_13
    have BA_13 : Hid (Bx w12 (w.heap.size) [.slice a0 D.length c0, .slice a1 n c1, .slice a2 V.length c2]) := Lib.hid (BA_12.out.below hb BA_12.out.1)
    clear BA_12
    have Rt_9 : Hid (HRow w12 2 1 (lot) (hit) (.slice ta Z.length tc) Z.length (ic Z)) := Lib.hid (Rt_8.out.below hb Rt_8.out.2.2)
    clear Rt_8
    have Qx_8 : Hid (RivAt w12 w4.heap.size w5.heap.size xL xa0 xa1 xa2 xc0 xc1 xc2 n D M V) := Lib.hid (Qx_7.out.below hb Qx_7.out.lh)
    clear Qx_7
    have BX_7 : Hid (Bx w12 (w5.heap.size) [.slice xa0 D.length xc0, .slice xa1 n xc1, .slice xa2 V.length xc2]) := Lib.hid (BX_6.out.below hb BX_6.out.1)
    clear BX_6
    have Sy_6 : Hid (HSS w12 (yp) (yp + 1) (yp + 1) (w6.heap.size) (.slice ya Zs.length yc) Zs.length Zs) := Lib.hid (Sy_5.out.below hb Sy_5.out.lh)
    clear Sy_5
    have Rg_5 : Hid (HRow w12 2 1 (log) (hig) (.slice ga Z.length gc) Z.length (ic Z)) := Lib.hid (Rg_4.out.below hb Rg_4.out.2.2)
    clear Rg_4
    have Sv_1 : Hid (HSS w12 (vp) (vp + 1) (vp + 1) (w11.heap.size) (.slice va Zs.length vc) Zs.length Zs) := Lib.hid (Sv_0.out.below hb Sv_0.out.lh)
    clear Sv_0
    clear hb
    clear Sv_1
    have cBA0 := BA_13.out.c 0 rfl
    have cBA1 := BA_13.out.c 1 rfl
    have cBA2 := BA_13.out.c 2 rfl
    have cBX0 := BX_7.out.c 0 rfl
    have cBX1 := BX_7.out.c 1 rfl
    have cBX2 := BX_7.out.c 2 rfl
    go_wp2_with fail
    have hmk := markRiver_any w4.heap.size w5.heap.size 1 xL xa0 xa1 xa2 xc0 xc1 xc2 n D M V _ Qx_8.out hlD hln hlV (by omega)
    clear Qx_8
    refine (hmk).mono ?_
    rintro e w13 ⟨rfl, hf, hk⟩
    clear cBA0 cBA1 cBA2 cBX0 cBX1 cBX2
    have z13 : w12.heap.size + 0 ≤ w13.heap.size := (by have := hk.size; (try simp at this); omega)
    have Bel_15 : Hid (Below w.heap.size w w13) := Lib.hid (Bel_14.out.trans (hk.below (by omega) (by omega)))
    clear Bel_14
    have BA_14 : Hid (Bx w13 (w.heap.size) [.slice a0 D.length c0, .slice a1 n c1, .slice a2 V.length c2]) := Lib.hid (BA_13.out.kept hk (by first | exact .inl (by omega) | exact .inr (by omega) | omega))
    clear BA_13
    have Rt_10 : Hid (HRow w13 2 1 (lot) (hit) (.slice ta Z.length tc) Z.length (ic Z)) := Lib.hid (Rt_9.out.kept hk (by first | exact .inl (by omega) | exact .inr (by omega) | omega))
    clear Rt_9
    have BX_8 : Hid (Bx w13 (w5.heap.size) [.slice xa0 D.length xc0, .slice xa1 n xc1, .slice xa2 V.length xc2]) := Lib.hid (BX_7.out.kept hk (by first | exact .inl (by omega) | exact .inr (by omega) | omega))
    clear BX_7
    have Sy_7 : Hid (HSS w13 (yp) (yp + 1) (yp + 1) (w6.heap.size) (.slice ya Zs.length yc) Zs.length Zs) := Lib.hid (Sy_6.out.kept hk (by first | exact .inl (by omega) | exact .inr (by omega) | omega))
    clear Sy_6
    have Rg_6 : Hid (HRow w13 2 1 (log) (hig) (.slice ga Z.length gc) Z.length (ic Z)) := Lib.hid (Rg_5.out.kept hk (by first | exact .inl (by omega) | exact .inr (by omega) | omega))
    clear Rg_5
    clear hk
    have Qx_0 : Hid (MarkedR w13 w4.heap.size w5.heap.size xL 1 xa0 xa1 xa2 xc0 xc1 xc2 D.length n V.length) := Lib.hid (hf)
    clear hf
    clear Qx_0
    have cBA0 := BA_14.out.c 0 rfl
    have cBA1 := BA_14.out.c 1 rfl
    have cBA2 := BA_14.out.c 2 rfl
    have cBX0 := BX_8.out.c 0 rfl
    have cBX1 := BX_8.out.c 1 rfl
    have cBX2 := BX_8.out.c 2 rfl
    go_wp2_with fail
    have hmk := markSS_any (yp) (yp + 1) (yp + 1) (w6.heap.size) (1 + D.length + n * 4 + V.length) ya yc Zs _ Sy_7.out hlz Hrl.out (by omega)
    clear Sy_7
    refine (hmk).mono ?_
    rintro e w14 ⟨rfl, hf, hk⟩
    clear cBA0 cBA1 cBA2 cBX0 cBX1 cBX2
    have z14 : w13.heap.size + 0 ≤ w14.heap.size := (by have := hk.size; (try simp at this); omega)
    have Bel_16 : Hid (Below w.heap.size w w14) := Lib.hid (Bel_15.out.trans (hk.below (by omega) (by omega)))
    clear Bel_15
    have BA_15 : Hid (Bx w14 (w.heap.size) [.slice a0 D.length c0, .slice a1 n c1, .slice a2 V.length c2]) := Lib.hid (BA_14.out.kept hk (by first | exact .inl (by omega) | exact .inr (by omega) | omega))
    clear BA_14
    have Rt_11 : Hid (HRow w14 2 1 (lot) (hit) (.slice ta Z.length tc) Z.length (ic Z)) := Lib.hid (Rt_10.out.kept hk (by first | exact .inl (by omega) | exact .inr (by omega) | omega))
    clear Rt_10
    have BX_9 : Hid (Bx w14 (w5.heap.size) [.slice xa0 D.length xc0, .slice xa1 n xc1, .slice xa2 V.length xc2]) := Lib.hid (BX_8.out.kept hk (by first | exact .inl (by omega) | exact .inr (by omega) | omega))
    clear BX_8
    have Rg_7 : Hid (HRow w14 2 1 (log) (hig) (.slice ga Z.length gc) Z.length (ic Z)) := Lib.hid (Rg_6.out.kept hk (by first | exact .inl (by omega) | exact .inr (by omega) | omega))
    clear Rg_6
    clear hk
    have Sy_0 : Hid (HSS w14 (yp) (yp + 1) (yp + 1) (w6.heap.size) (.slice ya Zs.length yc) Zs.length (marksSS (1 + D.length + n * 4 + V.length) Zs Zs.length)) := Lib.hid (hf)
    clear hf
    clear Sy_0
    have hcn : ¬ ((1 + D.length + n * 4 + V.length + totZ Zs Zs.length : Nat) : Int) < 0 := by omega
    have cBA0 := BA_15.out.c 0 rfl
    have cBA1 := BA_15.out.c 1 rfl
    have cBA2 := BA_15.out.c 2 rfl
    have cBX0 := BX_9.out.c 0 rfl
    have cBX1 := BX_9.out.c 1 rfl
    have cBX2 := BX_9.out.c 2 rfl
    go_wp2_with fail
    refine (eqZ_any ga ta gc tc Z _ Rg_7.out.row Rt_11.out.row hlim).mono ?_
    rintro e w15 ⟨rfl, hb⟩
    clear cBA0 cBA1 cBA2 cBX0 cBX1 cBX2
    have z15 : w14.heap.size + 0 ≤ w15.heap.size := (by have := hb.size; (try simp at this); omega)
    have Bel_17 : Hid (Below w.heap.size w w15) := Lib.hid (Bel_16.out.trans (hb.mono Bel_16.out.size))
    clear Bel_16
    have BA_16 : Hid (Bx w15 (w.heap.size) [.slice a0 D.length c0, .slice a1 n c1, .slice a2 V.length c2]) := Lib.hid (BA_15.out.below hb BA_15.out.1)
    clear BA_15
    have Rt_12 : Hid (HRow w15 2 1 (lot) (hit) (.slice ta Z.length tc) Z.length (ic Z)) := Lib.hid (Rt_11.out.below hb Rt_11.out.2.2)
    clear Rt_11
    have BX_10 : Hid (Bx w15 (w5.heap.size) [.slice xa0 D.length xc0, .slice xa1 n xc1, .slice xa2 V.length xc2]) := Lib.hid (BX_9.out.below hb BX_9.out.1)
    clear BX_9
    have Rg_8 : Hid (HRow w15 2 1 (log) (hig) (.slice ga Z.length gc) Z.length (ic Z)) := Lib.hid (Rg_7.out.below hb Rg_7.out.2.2)
    clear Rg_7
    clear hb
    have hcm : ¬ ((1 + Z.length : Nat) : Int) < 0 := by omega
    have cBA0 := BA_16.out.c 0 rfl
    have cBA1 := BA_16.out.c 1 rfl
    have cBA2 := BA_16.out.c 2 rfl
    have cBX0 := BX_10.out.c 0 rfl
    have cBX1 := BX_10.out.c 1 rfl
    have cBX2 := BX_10.out.c 2 rfl
    go_wp2_with fail
    have hmk := markZ_any log hig 1 ga Z.length gc Z _ Rg_8.out hlim (by omega)
    clear Rg_8
    refine (hmk).mono ?_
    rintro e w16 ⟨rfl, hf, hk⟩
    clear cBA0 cBA1 cBA2 cBX0 cBX1 cBX2
    have z16 : w15.heap.size + 0 ≤ w16.heap.size := (by have := hk.size; (try simp at this); omega)
    have Bel_18 : Hid (Below w.heap.size w w16) := Lib.hid (Bel_17.out.trans (hk.below (by omega) (by omega)))
    clear Bel_17
    have BA_17 : Hid (Bx w16 (w.heap.size) [.slice a0 D.length c0, .slice a1 n c1, .slice a2 V.length c2]) := Lib.hid (BA_16.out.kept hk (by first | exact .inl (by omega) | exact .inr (by omega) | omega))
    clear BA_16
    have Rt_13 : Hid (HRow w16 2 1 (lot) (hit) (.slice ta Z.length tc) Z.length (ic Z)) := Lib.hid (Rt_12.out.kept hk (by first | exact .inl (by omega) | exact .inr (by omega) | omega))
    clear Rt_12
    have BX_11 : Hid (Bx w16 (w5.heap.size) [.slice xa0 D.length xc0, .slice xa1 n xc1, .slice xa2 V.length xc2]) := Lib.hid (BX_10.out.kept hk (by first | exact .inl (by omega) | exact .inr (by omega) | omega))
    clear BX_10
    clear hk
    have Rg_0 : Hid (HRow w16 2 1 (log) (hig) (.slice ga Z.length gc) Z.length (ic (marksZ 1 Z.length))) := Lib.hid (hf)
    clear hf
    have cBA0 := BA_17.out.c 0 rfl
    have cBA1 := BA_17.out.c 1 rfl
    have cBA2 := BA_17.out.c 2 rfl
    have cBX0 := BX_11.out.c 0 rfl
    have cBX1 := BX_11.out.c 1 rfl
    have cBX2 := BX_11.out.c 2 rfl
    go_wp2_with fail
    refine (heldZ_any log hig 1 ga Z.length gc _ Rg_0.out hlim (by omega)).mono ?_
    rintro e w' ⟨rfl, rfl⟩
    clear cBA0 cBA1 cBA2 cBX0 cBX1 cBX2
    have cBA0 := BA_17.out.c 0 rfl
    have cBA1 := BA_17.out.c 1 rfl
    have cBA2 := BA_17.out.c 2 rfl
    have cBX0 := BX_11.out.c 0 rfl
    have cBX1 := BX_11.out.c 1 rfl
    have cBX2 := BX_11.out.c 2 rfl
    go_wp2_with fail
    refine (toRiver_any a0 a1 a2 c0 c1 c2 n D M V _ (HA0.out.below Bel_18.out (Nat.le_refl _)) (HA1.out.below Bel_18.out (Nat.le_refl _)) (HA2.out.below Bel_18.out (Nat.le_refl _)) hlD hln hlV HM.out).mono ?_
    rintro e w17 ⟨ea0, ec0, ea1, ec1, ea2, ec2, eL, rfl, hb, hre⟩
    clear cBA0 cBA1 cBA2 cBX0 cBX1 cBX2
    have z17 : w16.heap.size + 0 ≤ w17.heap.size := (by have := hb.size; (try simp at this); omega)
    have Bel_19 : Hid (Below w.heap.size w w17) := Lib.hid (Bel_18.out.trans (hb.mono Bel_18.out.size))
    clear Bel_18
    have BA_18 : Hid (Bx w17 (w.heap.size) [.slice a0 D.length c0, .slice a1 n c1, .slice a2 V.length c2]) := Lib.hid (BA_17.out.below hb BA_17.out.1)
    clear BA_17
    have Rt_14 : Hid (HRow w17 2 1 (lot) (hit) (.slice ta Z.length tc) Z.length (ic Z)) := Lib.hid (Rt_13.out.below hb Rt_13.out.2.2)
    clear Rt_13
    have BX_12 : Hid (Bx w17 (w5.heap.size) [.slice xa0 D.length xc0, .slice xa1 n xc1, .slice xa2 V.length xc2]) := Lib.hid (BX_11.out.below hb BX_11.out.1)
    clear BX_11
    have Rg_1 : Hid (HRow w17 2 1 (log) (hig) (.slice ga Z.length gc) Z.length (ic (marksZ 1 Z.length))) := Lib.hid (Rg_0.out.below hb Rg_0.out.2.2)
    clear Rg_0
    clear hb
    have Qe_0 : Hid (RivAt w17 w16.heap.size w17.heap.size eL ea0 ea1 ea2 ec0 ec1 ec2 n D M V) := Lib.hid (hre)
    clear hre
    have cBA0 := BA_18.out.c 0 rfl
    have cBA1 := BA_18.out.c 1 rfl
    have cBA2 := BA_18.out.c 2 rfl
    have cBX0 := BX_12.out.c 0 rfl
    have cBX1 := BX_12.out.c 1 rfl
    have cBX2 := BX_12.out.c 2 rfl
    go_wp2_with fail
    refine (copySS_any a cap Zs _ (HAS.out.below Bel_19.out (Nat.le_refl _)) hlz Hrl.out).mono ?_
    rintro e w18 ⟨fa, fc, fp, rfl, hb, hpf, hrf⟩
    clear cBA0 cBA1 cBA2 cBX0 cBX1 cBX2
    have z18 : w17.heap.size + 0 ≤ w18.heap.size := (by have := hb.size; (try simp at this); omega)
    have Bel_20 : Hid (Below w.heap.size w w18) := Lib.hid (Bel_19.out.trans (hb.mono Bel_19.out.size))
    clear Bel_19
    have BA_19 : Hid (Bx w18 (w.heap.size) [.slice a0 D.length c0, .slice a1 n c1, .slice a2 V.length c2]) := Lib.hid (BA_18.out.below hb BA_18.out.1)
    clear BA_18
    have Rt_15 : Hid (HRow w18 2 1 (lot) (hit) (.slice ta Z.length tc) Z.length (ic Z)) := Lib.hid (Rt_14.out.below hb Rt_14.out.2.2)
    clear Rt_14
    have BX_13 : Hid (Bx w18 (w5.heap.size) [.slice xa0 D.length xc0, .slice xa1 n xc1, .slice xa2 V.length xc2]) := Lib.hid (BX_12.out.below hb BX_12.out.1)
    clear BX_12
    have Rg_2 : Hid (HRow w18 2 1 (log) (hig) (.slice ga Z.length gc) Z.length (ic (marksZ 1 Z.length))) := Lib.hid (Rg_1.out.below hb Rg_1.out.2.2)
    clear Rg_1
    have Qe_1 : Hid (RivAt w18 w16.heap.size w17.heap.size eL ea0 ea1 ea2 ec0 ec1 ec2 n D M V) := Lib.hid (Qe_0.out.below hb Qe_0.out.lh)
    clear Qe_0
    have hp1f : w17.heap.size + 0 ≤ fp := by (try simp at hpf); omega
    have hp2f : fp + 1 ≤ w18.heap.size := hrf.lh.1
    clear hpf
    clear hb
    have Sf_0 : Hid (HSS w18 (fp) (fp + 1) (fp + 1) (w18.heap.size) (.slice fa Zs.length fc) Zs.length Zs) := Lib.hid (hrf)
    clear hrf
    have cBA0 := BA_19.out.c 0 rfl
    have cBA1 := BA_19.out.c 1 rfl
    have cBA2 := BA_19.out.c 2 rfl
    have cBX0 := BX_13.out.c 0 rfl
    have cBX1 := BX_13.out.c 1 rfl
    have cBX2 := BX_13.out.c 2 rfl
    go_wp2_with fail
    refine (HI.out ea0 ea1 ea2 ec0 ec1 ec2 fa fc _ Qe_1.out.r0.row Qe_1.out.r1.row Qe_1.out.r2.row Sf_0.out.row).mono ?_
    rintro e w19 ⟨loh, hih, ha, hc, rfl, hb, hrh, hloh⟩
    clear cBA0 cBA1 cBA2 cBX0 cBX1 cBX2
    have z19 : w18.heap.size + 0 ≤ w19.heap.size := (by have := hb.size; (try simp at this); omega)
    have Bel_21 : Hid (Below w.heap.size w w19) := Lib.hid (Bel_20.out.trans (hb.mono Bel_20.out.size))
    clear Bel_20
    have BA_20 : Hid (Bx w19 (w.heap.size) [.slice a0 D.length c0, .slice a1 n c1, .slice a2 V.length c2]) := Lib.hid (BA_19.out.below hb BA_19.out.1)
    clear BA_19
    have Rt_16 : Hid (HRow w19 2 1 (lot) (hit) (.slice ta Z.length tc) Z.length (ic Z)) := Lib.hid (Rt_15.out.below hb Rt_15.out.2.2)
    clear Rt_15
    have BX_14 : Hid (Bx w19 (w5.heap.size) [.slice xa0 D.length xc0, .slice xa1 n xc1, .slice xa2 V.length xc2]) := Lib.hid (BX_13.out.below hb BX_13.out.1)
    clear BX_13
    have Rg_3 : Hid (HRow w19 2 1 (log) (hig) (.slice ga Z.length gc) Z.length (ic (marksZ 1 Z.length))) := Lib.hid (Rg_2.out.below hb Rg_2.out.2.2)
    clear Rg_2
    have Qe_2 : Hid (RivAt w19 w16.heap.size w17.heap.size eL ea0 ea1 ea2 ec0 ec1 ec2 n D M V) := Lib.hid (Qe_1.out.below hb Qe_1.out.lh)
    clear Qe_1
    have Sf_1 : Hid (HSS w19 (fp) (fp + 1) (fp + 1) (w18.heap.size) (.slice fa Zs.length fc) Zs.length Zs) := Lib.hid (Sf_0.out.below hb Sf_0.out.lh)
    clear Sf_0
    (try simp at hloh)
    have hhh : hih ≤ w19.heap.size := hrh.2.2
    clear hb
    have Rh_0 : Hid (HRow w19 2 1 (loh) (hih) (.slice ha Z.length hc) Z.length (ic Z)) := Lib.hid (hrh)
    clear hrh
    clear Qe_2 Sf_1
    have cBA0 := BA_20.out.c 0 rfl
    have cBA1 := BA_20.out.c 1 rfl
    have cBA2 := BA_20.out.c 2 rfl
    have cBX0 := BX_14.out.c 0 rfl
    have cBX1 := BX_14.out.c 1 rfl
    have cBX2 := BX_14.out.c 2 rfl
    go_wp2_with fail
    refine (eqZ_any ha ta hc tc Z _ Rh_0.out.row Rt_16.out.row hlim).mono ?_
    rintro e w20 ⟨rfl, hb⟩
    clear cBA0 cBA1 cBA2 cBX0 cBX1 cBX2
    have z20 : w19.heap.size + 0 ≤ w20.heap.size := (by have := hb.size; (try simp at this); omega)
    have Bel_22 : Hid (Below w.heap.size w w20) := Lib.hid (Bel_21.out.trans (hb.mono Bel_21.out.size))
    clear Bel_21
    have BA_21 : Hid (Bx w20 (w.heap.size) [.slice a0 D.length c0, .slice a1 n c1, .slice a2 V.length c2]) := Lib.hid (BA_20.out.below hb BA_20.out.1)
    clear BA_20
    have Rt_17 : Hid (HRow w20 2 1 (lot) (hit) (.slice ta Z.length tc) Z.length (ic Z)) := Lib.hid (Rt_16.out.below hb Rt_16.out.2.2)
    clear Rt_16
    have BX_15 : Hid (Bx w20 (w5.heap.size) [.slice xa0 D.length xc0, .slice xa1 n xc1, .slice xa2 V.length xc2]) := Lib.hid (BX_14.out.below hb BX_14.out.1)
    clear BX_14
    have Rg_4 : Hid (HRow w20 2 1 (log) (hig) (.slice ga Z.length gc) Z.length (ic (marksZ 1 Z.length))) := Lib.hid (Rg_3.out.below hb Rg_3.out.2.2)
    clear Rg_3
    have Rh_1 : Hid (HRow w20 2 1 (loh) (hih) (.slice ha Z.length hc) Z.length (ic Z)) := Lib.hid (Rh_0.out.below hb Rh_0.out.2.2)
    clear Rh_0
    clear hb
    have cBA0 := BA_21.out.c 0 rfl
    have cBA1 := BA_21.out.c 1 rfl
    have cBA2 := BA_21.out.c 2 rfl
    have cBX0 := BX_15.out.c 0 rfl
    have cBX1 := BX_15.out.c 1 rfl
    have cBX2 := BX_15.out.c 2 rfl
    go_wp2_with fail
    refine (heldZ_any log hig 1 ga Z.length gc _ Rg_4.out hlim (by omega)).mono ?_
    rintro e w' ⟨rfl, rfl⟩
    clear cBA0 cBA1 cBA2 cBX0 cBX1 cBX2
    have cBA0 := BA_21.out.c 0 rfl
    have cBA1 := BA_21.out.c 1 rfl
    have cBA2 := BA_21.out.c 2 rfl
    have cBX0 := BX_15.out.c 0 rfl
    have cBX1 := BX_15.out.c 1 rfl
    have cBX2 := BX_15.out.c 2 rfl
    go_wp2_with fail
    go_ret
    exact ⟨rfl, Bel_22.out⟩

set_option maxHeartbeats 4000000 in
theorem shortDaysLaw_not (a0 a1 a2 a : Option Addr) (c0 c1 c2 n cap : Nat) (D M V : List Int) (Zs : List (List Int)) (w : World) (has : RowSS w a Zs) (hmx : D.length ≤ maxLen ∧ n ≤ maxLen ∧ V.length ≤ maxLen) (hm : Zs.length ≤ maxLen) (hrm : ∀ k, k < Zs.length → (zr Zs k).length ≤ maxLen) (h : ¬ ((D.length : Int) + (n : Int) + (V.length : Int) ≤ 1048576 ∧ (Zs.length : Int) + (totZ Zs Zs.length : Int) ≤ 1048576 - ((D.length : Int) + (n : Int) + (V.length : Int)))) :
    Calls Try.prog 6 #[.agg #[.slice a0 D.length c0, .slice a1 n c1, .slice a2 V.length c2], .slice a Zs.length cap] w fun e w' => e = .returned (.bool true) ∧ Below w.heap.size w w' := by
  unfold maxLen at hmx hm hrm
  have hneg : ((-1 : Int) < 0) := by decide
  have HAS := Lib.hid has
  by_cases h1 : (D.length : Int) + (n : Int) + (V.length : Int) ≤ 1048576
  · have g1 : ¬ (1048576 : Int) - (D.length : Int) - (n : Int) - (V.length : Int) < 0 := by omega
    have hrm2 : ∀ k, k < Zs.length → (zr Zs k).length ≤ 9223372036854775807 := fun k hk => by have := hrm k hk; omega
    have HSz := Lib.hid (szRiver_fits a0 a1 a2 D.length n V.length c0 c1 c2 1048576 (by omega) (by omega) (w.alloc (.cells #[.slice a0 D.length c0, .slice a1 n c1, .slice a2 V.length c2] 25)))
    clear hrm has
    go_enter Try.func6, Try.ntmps6
    go_wp2_with fail
    refine HSz.out.mono ?_
    rintro e w1 ⟨rfl, hb⟩
    have HB1 : Hid (Below w.heap.size w w1) := Lib.hid ((bel1 w _).trans (hb.mono (by simp)))
    clear hb HSz
    go_wp2_with fail
    refine (szSS_not a cap Zs _ _ (HAS.out.below HB1.out (Nat.le_refl _)) (by omega) (by omega) (by omega) (by omega) hrm2).mono ?_
    rintro e w2 ⟨rfl, rfl⟩
    go_wp2_with fail
    go_ret
    exact ⟨rfl, HB1.out⟩
  · have HSz := Lib.hid (szRiver_not a0 a1 a2 D.length n V.length c0 c1 c2 1048576 (by omega) (by omega) (by omega) (by omega) (by omega) (by omega) (w.alloc (.cells #[.slice a0 D.length c0, .slice a1 n c1, .slice a2 V.length c2] 25)))
    clear hmx h has hm hrm
    go_enter Try.func6, Try.ntmps6
    go_wp2_with fail
    refine HSz.out.mono ?_
    rintro e w1 ⟨rfl, hb⟩
    have HB1 : Hid (Below w.heap.size w w1) := Lib.hid ((bel1 w _).trans (hb.mono (by simp)))
    clear hb
    go_wp2_with fail
    go_ret
    exact ⟨rfl, HB1.out⟩
theorem walk_FnExactShortDays (a0 a1 a2 : Option Addr) (l0 n l2 c0 c1 c2 : Nat) (D M V : List Int) (a : Option Addr) (len cap : Nat) (Zs : List (List Int)) (w : World) (ha : IsRiv w a0 a1 a2 l0 n l2 c0 c1 c2 D M V) (hd : IsRowSS w a len cap Zs) :
    Calls Try.prog 6 #[.agg #[.slice a0 l0 c0, .slice a1 n c1, .slice a2 l2 c2], .slice a len cap] w fun e w' => e = .returned (.bool true) ∧ Below w.heap.size w w' := by
  obtain ⟨⟨hl0, hc0, hx0, hr0, _⟩, ⟨hl1, hc1, hx1, hr1, _⟩, ⟨hl2, hc2, hx2, hr2, _⟩⟩ := ha
  obtain ⟨hld, hcd, hxd, hrd, hrm⟩ := hd
  rw [Nat.mul_one] at hl0 hl2
  subst hl0; subst hl2; subst hld
  by_cases h : (D.length : Int) + (n : Int) + (V.length : Int) ≤ 1048576 ∧ (Zs.length : Int) + (totZ Zs Zs.length : Int) ≤ 1048576 - ((D.length : Int) + (n : Int) + (V.length : Int))
  · exact shortDaysLaw_fits a0 a1 a2 a c0 c1 c2 n cap D M V Zs w hr0 hr1 hr2 hl1 hrd h.1 h.2
  · exact shortDaysLaw_not a0 a1 a2 a c0 c1 c2 n cap D M V Zs w hrd ⟨by omega, by omega, by omega⟩ (by omega) hrm h
end Go.Proofs.Ytckmacnmmloemaa
