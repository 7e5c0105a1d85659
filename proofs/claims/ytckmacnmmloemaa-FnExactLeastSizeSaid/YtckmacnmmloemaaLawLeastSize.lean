/- The walk of the law on LeastSize. -/
import Derived.Test.YtckmacnmmloemaaLeaA
import Derived.Test.YtckmacnmmloemaaRivO
import Derived.Test.YtckmacnmmloemaaRegMk
namespace Go.Proofs.Ytckmacnmmloemaa
open Go.RowKit
set_option linter.unusedVariables false
set_option linter.unusedSimpArgs false
set_option maxRecDepth 100000
attribute [local irreducible] wpV wpList Code.wp

set_option maxHeartbeats 32000000 in
theorem leastSizeLaw_fits (a0 a1 a2 a : Option Addr) (c0 c1 c2 n cap : Nat) (D M V : List Int) (Zs : List (List Int)) (i : Int) (most : Int) (w : World) (ha0 : RowC w a0 (ic D)) (ha1 : RowC w a1 (ic M)) (ha2 : RowC w a2 (ic V)) (hM : M.length = n * 4) (has : RowSS w a Zs) (hwi : (Lit.int .i64 i).wf = true) (hwmost : (Lit.int .i64 most).wf = true) (h1 : (D.length : Int) + (n : Int) + (V.length : Int) ≤ 1048576) (h2 : (Zs.length : Int) + (totZ Zs Zs.length : Int) ≤ 1048576 - ((D.length : Int) + (n : Int) + (V.length : Int))) :
    Calls Try.prog 7 #[.agg #[.slice a0 D.length c0, .slice a1 n c1, .slice a2 V.length c2], .int .i64 i, .slice a Zs.length cap, .int .i64 most] w fun e w' => e = .returned (.bool true) ∧ Below w.heap.size w w' := by
  have hlD : D.length ≤ 1048576 := by omega
  have hln : n ≤ 1048576 := by omega
  have hlV : V.length ≤ 1048576 := by omega
  have g1 : ¬ (1048576 : Int) - (D.length : Int) - (n : Int) - (V.length : Int) < 0 := by omega
  have g2 : ¬ (1048576 : Int) - (D.length : Int) - (n : Int) - (V.length : Int) - (Zs.length : Int) - (totZ Zs Zs.length : Int) < 0 := by omega
  have hlz : Zs.length ≤ 1048576 := by omega
  have hrl : ∀ k, k < Zs.length → (zr Zs k).length ≤ 1048576 := fun k hk => by have h9 := row_le (Zs := Zs) hk; omega
  have HM := Lib.hid hM
  clear hM
  obtain ⟨⟨Z, B⟩, hR⟩ : ∃ R, leaR D M V n Zs i most = R := ⟨_, rfl⟩
  have HS : Hid (∀ (b0 b1 b2 : Option Addr) (d0 d1 d2 : Nat) (f : Option Addr) (fc : Nat) (W : World), RowC W b0 (ic D) → RowC W b1 (ic M) → RowC W b2 (ic V) → RowSS W f Zs → Calls Try.prog 34 #[.agg #[.slice b0 D.length d0, .slice b1 n d1, .slice b2 V.length d2], .int .i64 i, .slice f Zs.length fc, .int .i64 most] W (fun e w' => e = .returned (.tuple #[.int .i64 Z, .bool B]) ∧ Below W.heap.size W w')) := Lib.hid fun b0 b1 b2 d0 d1 d2 f fc W k0 k1 k2 kf => by
    have h9 := leastSize_s b0 b1 b2 f D.length n V.length d0 d1 d2 Zs.length fc D M V Zs i most W hwi hwmost k0 k1 k2 rfl HM.out rfl ⟨hlD, hln, hlV⟩ kf rfl hrl hlz
    rw [hR] at h9
    exact h9
  have HI : Hid (∀ (b0 b1 b2 : Option Addr) (d0 d1 d2 : Nat) (f : Option Addr) (fc : Nat) (W : World), RowC W b0 (ic D) → RowC W b1 (ic M) → RowC W b2 (ic V) → RowSS W f Zs → Calls Try.prog 35 #[.agg #[.slice b0 D.length d0, .slice b1 n d1, .slice b2 V.length d2], .int .i64 i, .slice f Zs.length fc, .int .i64 most] W (fun e w' => e = .returned (.tuple #[.int .i64 Z, .bool B]) ∧ Below W.heap.size W w')) := Lib.hid fun b0 b1 b2 d0 d1 d2 f fc W k0 k1 k2 kf => by
    have h9 := leastSize_i b0 b1 b2 f D.length n V.length d0 d1 d2 Zs.length fc D M V Zs i most W hwi hwmost k0 k1 k2 rfl HM.out rfl ⟨hlD, hln, hlV⟩ kf rfl hrl
    rw [hR] at h9
    exact h9
  clear hR hwi hwmost
  have Hrl := Lib.hid hrl
  have HA0 := Lib.hid ha0
  have HA1 := Lib.hid ha1
  have HA2 := Lib.hid ha2
  have HAS := Lib.hid has
  clear ha0 ha1 ha2 has hrl
  cases B
  all_goals
    have Bel_0 : Hid (Below w.heap.size w w) := Lib.hid (Below.refl w.heap.size w)
    have Bel_1 : Hid (Below w.heap.size w (w.alloc (.cells #[.slice a0 D.length c0, .slice a1 n c1, .slice a2 V.length c2] 25))) := Lib.hid (Bel_0.out.alloc Bel_0.out.size _)
    clear Bel_0
    have BA_0 : Hid (Bx (w.alloc (.cells #[.slice a0 D.length c0, .slice a1 n c1, .slice a2 V.length c2] 25)) (w.heap.size) [.slice a0 D.length c0, .slice a1 n c1, .slice a2 V.length c2]) := Lib.hid (Bx.new w [.slice a0 D.length c0, .slice a1 n c1, .slice a2 V.length c2] 25)
    go_enter Try.func7, Try.ntmps7
    have cBA0 := BA_0.out.c 0 rfl
    have cBA1 := BA_0.out.c 1 rfl
    have cBA2 := BA_0.out.c 2 rfl
    go_wp2_with fail
    refine (szRiver_fits a0 a1 a2 D.length n V.length c0 c1 c2 1048576 (by omega) (by omega) _).mono ?_
    rintro e w1 ⟨rfl, hb⟩
    clear cBA0 cBA1 cBA2
    have z1 : w.heap.size + 1 ≤ w1.heap.size := (by have := hb.size; (try simp at this); omega)
    have Bel_2 : Hid (Below w.heap.size w w1) := Lib.hid (Bel_1.out.trans (hb.mono Bel_1.out.size))
    clear Bel_1
    have BA_1 : Hid (Bx w1 (w.heap.size) [.slice a0 D.length c0, .slice a1 n c1, .slice a2 V.length c2]) := Lib.hid (BA_0.out.below hb BA_0.out.1)
    clear BA_0
    clear hb
    have cBA0 := BA_1.out.c 0 rfl
    have cBA1 := BA_1.out.c 1 rfl
    have cBA2 := BA_1.out.c 2 rfl
    go_wp2_with fail
    refine (szSS_fits a cap Zs _ _ (HAS.out.below Bel_2.out (Nat.le_refl _)) (by omega) (by omega)).mono ?_
    rintro e w' ⟨rfl, rfl⟩
    clear cBA0 cBA1 cBA2
    have cBA0 := BA_1.out.c 0 rfl
    have cBA1 := BA_1.out.c 1 rfl
    have cBA2 := BA_1.out.c 2 rfl
    go_wp2_with fail
    refine (toRiver_any a0 a1 a2 c0 c1 c2 n D M V _ (HA0.out.below Bel_2.out (Nat.le_refl _)) (HA1.out.below Bel_2.out (Nat.le_refl _)) (HA2.out.below Bel_2.out (Nat.le_refl _)) hlD hln hlV HM.out).mono ?_
    rintro e w2 ⟨sa0, sc0, sa1, sc1, sa2, sc2, sL, rfl, hb, hrs⟩
    clear cBA0 cBA1 cBA2
    have z2 : w1.heap.size + 0 ≤ w2.heap.size := (by have := hb.size; (try simp at this); omega)
    have Bel_3 : Hid (Below w.heap.size w w2) := Lib.hid (Bel_2.out.trans (hb.mono Bel_2.out.size))
    clear Bel_2
    have BA_2 : Hid (Bx w2 (w.heap.size) [.slice a0 D.length c0, .slice a1 n c1, .slice a2 V.length c2]) := Lib.hid (BA_1.out.below hb BA_1.out.1)
    clear BA_1
    clear hb
    have Qs_0 : Hid (RivAt w2 w1.heap.size w2.heap.size sL sa0 sa1 sa2 sc0 sc1 sc2 n D M V) := Lib.hid (hrs)
    clear hrs
    have cBA0 := BA_2.out.c 0 rfl
    have cBA1 := BA_2.out.c 1 rfl
    have cBA2 := BA_2.out.c 2 rfl
    go_wp2_with fail
    refine (copySS_any a cap Zs _ (HAS.out.below Bel_3.out (Nat.le_refl _)) hlz Hrl.out).mono ?_
    rintro e w3 ⟨ma, mc, mp, rfl, hb, hpm, hrm⟩
    clear cBA0 cBA1 cBA2
    have z3 : w2.heap.size + 0 ≤ w3.heap.size := (by have := hb.size; (try simp at this); omega)
    have Bel_4 : Hid (Below w.heap.size w w3) := Lib.hid (Bel_3.out.trans (hb.mono Bel_3.out.size))
    clear Bel_3
    have BA_3 : Hid (Bx w3 (w.heap.size) [.slice a0 D.length c0, .slice a1 n c1, .slice a2 V.length c2]) := Lib.hid (BA_2.out.below hb BA_2.out.1)
    clear BA_2
    have Qs_1 : Hid (RivAt w3 w1.heap.size w2.heap.size sL sa0 sa1 sa2 sc0 sc1 sc2 n D M V) := Lib.hid (Qs_0.out.below hb Qs_0.out.lh)
    clear Qs_0
    have hp1m : w2.heap.size + 0 ≤ mp := by (try simp at hpm); omega
    have hp2m : mp + 1 ≤ w3.heap.size := hrm.lh.1
    clear hpm
    clear hb
    have Sm_0 : Hid (HSS w3 (mp) (mp + 1) (mp + 1) (w3.heap.size) (.slice ma Zs.length mc) Zs.length Zs) := Lib.hid (hrm)
    clear hrm
    have cBA0 := BA_3.out.c 0 rfl
    have cBA1 := BA_3.out.c 1 rfl
    have cBA2 := BA_3.out.c 2 rfl
    go_wp2_with fail
    refine (HS.out sa0 sa1 sa2 sc0 sc1 sc2 ma mc _ Qs_1.out.r0.row Qs_1.out.r1.row Qs_1.out.r2.row Sm_0.out.row).mono ?_
    rintro e w4 ⟨rfl, hb⟩
    clear cBA0 cBA1 cBA2
    have z4 : w3.heap.size + 0 ≤ w4.heap.size := (by have := hb.size; (try simp at this); omega)
    have Bel_5 : Hid (Below w.heap.size w w4) := Lib.hid (Bel_4.out.trans (hb.mono Bel_4.out.size))
    clear Bel_4
    have BA_4 : Hid (Bx w4 (w.heap.size) [.slice a0 D.length c0, .slice a1 n c1, .slice a2 V.length c2]) := Lib.hid (BA_3.out.below hb BA_3.out.1)
    clear BA_3
    have Qs_2 : Hid (RivAt w4 w1.heap.size w2.heap.size sL sa0 sa1 sa2 sc0 sc1 sc2 n D M V) := Lib.hid (Qs_1.out.below hb Qs_1.out.lh)
    clear Qs_1
    have Sm_1 : Hid (HSS w4 (mp) (mp + 1) (mp + 1) (w3.heap.size) (.slice ma Zs.length mc) Zs.length Zs) := Lib.hid (Sm_0.out.below hb Sm_0.out.lh)
    clear Sm_0
    clear hb
    clear Qs_2 Sm_1
    have cBA0 := BA_4.out.c 0 rfl
    have cBA1 := BA_4.out.c 1 rfl
    have cBA2 := BA_4.out.c 2 rfl
    go_wp2_with fail
    refine (toRiver_any a0 a1 a2 c0 c1 c2 n D M V _ (HA0.out.below Bel_5.out (Nat.le_refl _)) (HA1.out.below Bel_5.out (Nat.le_refl _)) (HA2.out.below Bel_5.out (Nat.le_refl _)) hlD hln hlV HM.out).mono ?_
    rintro e w5 ⟨xa0, xc0, xa1, xc1, xa2, xc2, xL, rfl, hb, hrx⟩
    clear cBA0 cBA1 cBA2
    have z5 : w4.heap.size + 0 ≤ w5.heap.size := (by have := hb.size; (try simp at this); omega)
    have Bel_6 : Hid (Below w.heap.size w w5) := Lib.hid (Bel_5.out.trans (hb.mono Bel_5.out.size))
    clear Bel_5
    have BA_5 : Hid (Bx w5 (w.heap.size) [.slice a0 D.length c0, .slice a1 n c1, .slice a2 V.length c2]) := Lib.hid (BA_4.out.below hb BA_4.out.1)
    clear BA_4
    clear hb
    have Qx_0 : Hid (RivAt w5 w4.heap.size w5.heap.size xL xa0 xa1 xa2 xc0 xc1 xc2 n D M V) := Lib.hid (hrx)
    clear hrx
    have Bel_7 : Hid (Below w.heap.size w (w5.alloc (.cells #[.slice xa0 D.length xc0, .slice xa1 n xc1, .slice xa2 V.length xc2] 29))) := Lib.hid (Bel_6.out.alloc Bel_6.out.size _)
    clear Bel_6
    have BA_6 : Hid (Bx (w5.alloc (.cells #[.slice xa0 D.length xc0, .slice xa1 n xc1, .slice xa2 V.length xc2] 29)) (w.heap.size) [.slice a0 D.length c0, .slice a1 n c1, .slice a2 V.length c2]) := Lib.hid (BA_5.out.alloc _)
    clear BA_5
    have Qx_1 : Hid (RivAt (w5.alloc (.cells #[.slice xa0 D.length xc0, .slice xa1 n xc1, .slice xa2 V.length xc2] 29)) w4.heap.size w5.heap.size xL xa0 xa1 xa2 xc0 xc1 xc2 n D M V) := Lib.hid (Qx_0.out.alloc _)
    clear Qx_0
    have BX_0 : Hid (Bx (w5.alloc (.cells #[.slice xa0 D.length xc0, .slice xa1 n xc1, .slice xa2 V.length xc2] 29)) (w5.heap.size) [.slice xa0 D.length xc0, .slice xa1 n xc1, .slice xa2 V.length xc2]) := Lib.hid (Bx.new w5 [.slice xa0 D.length xc0, .slice xa1 n xc1, .slice xa2 V.length xc2] 29)
    have cBA0 := BA_6.out.c 0 rfl
    have cBA1 := BA_6.out.c 1 rfl
    have cBA2 := BA_6.out.c 2 rfl
    have cBX0 := BX_0.out.c 0 rfl
    have cBX1 := BX_0.out.c 1 rfl
    have cBX2 := BX_0.out.c 2 rfl
    go_wp2_with fail
    refine (copySS_any a cap Zs _ (HAS.out.below Bel_7.out (Nat.le_refl _)) hlz Hrl.out).mono ?_
    rintro e w6 ⟨ya, yc, yp, rfl, hb, hpy, hry⟩
    clear cBA0 cBA1 cBA2 cBX0 cBX1 cBX2
    have z6 : w5.heap.size + 1 ≤ w6.heap.size := (by have := hb.size; (try simp at this); omega)
    have Bel_8 : Hid (Below w.heap.size w w6) := Lib.hid (Bel_7.out.trans (hb.mono Bel_7.out.size))
    clear Bel_7
    have BA_7 : Hid (Bx w6 (w.heap.size) [.slice a0 D.length c0, .slice a1 n c1, .slice a2 V.length c2]) := Lib.hid (BA_6.out.below hb BA_6.out.1)
    clear BA_6
    have Qx_2 : Hid (RivAt w6 w4.heap.size w5.heap.size xL xa0 xa1 xa2 xc0 xc1 xc2 n D M V) := Lib.hid (Qx_1.out.below hb Qx_1.out.lh)
    clear Qx_1
    have BX_1 : Hid (Bx w6 (w5.heap.size) [.slice xa0 D.length xc0, .slice xa1 n xc1, .slice xa2 V.length xc2]) := Lib.hid (BX_0.out.below hb BX_0.out.1)
    clear BX_0
    have hp1y : w5.heap.size + 1 ≤ yp := by (try simp at hpy); omega
    have hp2y : yp + 1 ≤ w6.heap.size := hry.lh.1
    clear hpy
    clear hb
    have Sy_0 : Hid (HSS w6 (yp) (yp + 1) (yp + 1) (w6.heap.size) (.slice ya Zs.length yc) Zs.length Zs) := Lib.hid (hry)
    clear hry
    have cBA0 := BA_7.out.c 0 rfl
    have cBA1 := BA_7.out.c 1 rfl
    have cBA2 := BA_7.out.c 2 rfl
    have cBX0 := BX_1.out.c 0 rfl
    have cBX1 := BX_1.out.c 1 rfl
    have cBX2 := BX_1.out.c 2 rfl
    go_wp2_with fail
    refine (HI.out xa0 xa1 xa2 xc0 xc1 xc2 ya yc _ Qx_2.out.r0.row Qx_2.out.r1.row Qx_2.out.r2.row Sy_0.out.row).mono ?_
    rintro e w7 ⟨rfl, hb⟩
    clear cBA0 cBA1 cBA2 cBX0 cBX1 cBX2
    have z7 : w6.heap.size + 0 ≤ w7.heap.size := (by have := hb.size; (try simp at this); omega)
    have Bel_9 : Hid (Below w.heap.size w w7) := Lib.hid (Bel_8.out.trans (hb.mono Bel_8.out.size))
    clear Bel_8
    have BA_8 : Hid (Bx w7 (w.heap.size) [.slice a0 D.length c0, .slice a1 n c1, .slice a2 V.length c2]) := Lib.hid (BA_7.out.below hb BA_7.out.1)
    clear BA_7
    have Qx_3 : Hid (RivAt w7 w4.heap.size w5.heap.size xL xa0 xa1 xa2 xc0 xc1 xc2 n D M V) := Lib.hid (Qx_2.out.below hb Qx_2.out.lh)
    clear Qx_2
    have BX_2 : Hid (Bx w7 (w5.heap.size) [.slice xa0 D.length xc0, .slice xa1 n xc1, .slice xa2 V.length xc2]) := Lib.hid (BX_1.out.below hb BX_1.out.1)
    clear BX_1
    have Sy_1 : Hid (HSS w7 (yp) (yp + 1) (yp + 1) (w6.heap.size) (.slice ya Zs.length yc) Zs.length Zs) := Lib.hid (Sy_0.out.below hb Sy_0.out.lh)
    clear Sy_0
    clear hb
    have cBA0 := BA_8.out.c 0 rfl
    have cBA1 := BA_8.out.c 1 rfl
    have cBA2 := BA_8.out.c 2 rfl
    have cBX0 := BX_2.out.c 0 rfl
    have cBX1 := BX_2.out.c 1 rfl
    have cBX2 := BX_2.out.c 2 rfl
    go_wp2_with fail
    have HK7 : Hid (w7.cell? ⟨w.heap.size, 0, none⟩ = some (.slice a0 D.length c0) ∧ w7.cell? ⟨w.heap.size, 1, none⟩ = some (.slice a1 n c1) ∧ w7.cell? ⟨w.heap.size, 2, none⟩ = some (.slice a2 V.length c2) ∧ w7.cell? ⟨w5.heap.size, 0, none⟩ = some (.slice xa0 D.length xc0) ∧ w7.cell? ⟨w5.heap.size, 1, none⟩ = some (.slice xa1 n xc1) ∧ w7.cell? ⟨w5.heap.size, 2, none⟩ = some (.slice xa2 V.length xc2)) := Lib.hid ⟨BA_8.out.c 0 rfl, BA_8.out.c 1 rfl, BA_8.out.c 2 rfl, BX_2.out.c 0 rfl, BX_2.out.c 1 rfl, BX_2.out.c 2 rfl⟩
    go_region_held3 (fun w' => w'.cell? ⟨w.heap.size, 0, none⟩ = some (.slice a0 D.length c0) ∧ w'.cell? ⟨w.heap.size, 1, none⟩ = some (.slice a1 n c1) ∧ w'.cell? ⟨w.heap.size, 2, none⟩ = some (.slice a2 V.length c2) ∧ w'.cell? ⟨w5.heap.size, 0, none⟩ = some (.slice xa0 D.length xc0) ∧ w'.cell? ⟨w5.heap.size, 1, none⟩ = some (.slice xa1 n xc1) ∧ w'.cell? ⟨w5.heap.size, 2, none⟩ = some (.slice xa2 V.length xc2))
      (first | with_reducible exact HK9.out | with_reducible exact HK8.out | exact HK7.out)
      (first | (go_at_call 14; refine (toRiver_any a0 a1 a2 c0 c1 c2 n D M V _ (by first | with_reducible exact HA0.out.below Bel_9.out (Nat.le_refl _) | with_reducible exact (HA0.out.below Bel_9.out (Nat.le_refl _)).drewN 1 | exact HA0.out.below Bel_9.out.drew (Nat.le_refl _)) (by first | with_reducible exact HA1.out.below Bel_9.out (Nat.le_refl _) | with_reducible exact (HA1.out.below Bel_9.out (Nat.le_refl _)).drewN 1 | exact HA1.out.below Bel_9.out.drew (Nat.le_refl _)) (by first | with_reducible exact HA2.out.below Bel_9.out (Nat.le_refl _) | with_reducible exact (HA2.out.below Bel_9.out (Nat.le_refl _)).drewN 1 | exact HA2.out.below Bel_9.out.drew (Nat.le_refl _)) hlD hln hlV HM.out).mono ?_; rintro e w8 ⟨za0, zc0, za1, zc1, za2, zc2, zL, rfl, hb, hr⟩; have hst : Below w7.heap.size w7 w8 := (by first | with_reducible exact hb | with_reducible exact (Below.refl _ _).drew.trans (hb.mono (le_drew _))); have z8 : w7.heap.size ≤ w8.heap.size := hst.size; have Bel_10 : Hid (Below w.heap.size w w8) := Lib.hid (Bel_9.out.trans (hst.mono Bel_9.out.size)); clear Bel_9; have BA_9 : Hid (Bx w8 (w.heap.size) [.slice a0 D.length c0, .slice a1 n c1, .slice a2 V.length c2]) := Lib.hid (BA_8.out.below hst BA_8.out.1); clear BA_8; have Qx_4 : Hid (RivAt w8 w4.heap.size w5.heap.size xL xa0 xa1 xa2 xc0 xc1 xc2 n D M V) := Lib.hid (Qx_3.out.below hst Qx_3.out.lh); clear Qx_3; have BX_3 : Hid (Bx w8 (w5.heap.size) [.slice xa0 D.length xc0, .slice xa1 n xc1, .slice xa2 V.length xc2]) := Lib.hid (BX_2.out.below hst BX_2.out.1); clear BX_2; have Sy_2 : Hid (HSS w8 (yp) (yp + 1) (yp + 1) (w6.heap.size) (.slice ya Zs.length yc) Zs.length Zs) := Lib.hid (Sy_1.out.below hst Sy_1.out.lh); clear Sy_1; have HK8 : Hid (w8.cell? ⟨w.heap.size, 0, none⟩ = some (.slice a0 D.length c0) ∧ w8.cell? ⟨w.heap.size, 1, none⟩ = some (.slice a1 n c1) ∧ w8.cell? ⟨w.heap.size, 2, none⟩ = some (.slice a2 V.length c2) ∧ w8.cell? ⟨w5.heap.size, 0, none⟩ = some (.slice xa0 D.length xc0) ∧ w8.cell? ⟨w5.heap.size, 1, none⟩ = some (.slice xa1 n xc1) ∧ w8.cell? ⟨w5.heap.size, 2, none⟩ = some (.slice xa2 V.length xc2)) := Lib.hid ⟨BA_9.out.c 0 rfl, BA_9.out.c 1 rfl, BA_9.out.c 2 rfl, BX_3.out.c 0 rfl, BX_3.out.c 1 rfl, BX_3.out.c 2 rfl⟩; have RZ8 := Lib.hid hr; clear hr; clear hb hst) | (go_at_call 17; refine (eqRiver_any xa0 xa1 xa2 za0 za1 za2 xc0 xc1 xc2 zc0 zc1 zc2 n D M V _ Qx_4.out.r0.row Qx_4.out.r1.row Qx_4.out.r2.row hlD hln hlV HM.out RZ8.out.r0.row RZ8.out.r1.row RZ8.out.r2.row).mono ?_; rintro e w9 ⟨rfl, hb⟩; have hst : Below w8.heap.size w8 w9 := (by first | with_reducible exact hb | with_reducible exact (Below.refl _ _).drew.trans (hb.mono (le_drew _))); have z9 : w8.heap.size ≤ w9.heap.size := hst.size; have Bel_11 : Hid (Below w.heap.size w w9) := Lib.hid (Bel_10.out.trans (hst.mono Bel_10.out.size)); clear Bel_10; have BA_10 : Hid (Bx w9 (w.heap.size) [.slice a0 D.length c0, .slice a1 n c1, .slice a2 V.length c2]) := Lib.hid (BA_9.out.below hst BA_9.out.1); clear BA_9; have Qx_5 : Hid (RivAt w9 w4.heap.size w5.heap.size xL xa0 xa1 xa2 xc0 xc1 xc2 n D M V) := Lib.hid (Qx_4.out.below hst Qx_4.out.lh); clear Qx_4; have BX_4 : Hid (Bx w9 (w5.heap.size) [.slice xa0 D.length xc0, .slice xa1 n xc1, .slice xa2 V.length xc2]) := Lib.hid (BX_3.out.below hst BX_3.out.1); clear BX_3; have Sy_3 : Hid (HSS w9 (yp) (yp + 1) (yp + 1) (w6.heap.size) (.slice ya Zs.length yc) Zs.length Zs) := Lib.hid (Sy_2.out.below hst Sy_2.out.lh); clear Sy_2; have HK9 : Hid (w9.cell? ⟨w.heap.size, 0, none⟩ = some (.slice a0 D.length c0) ∧ w9.cell? ⟨w.heap.size, 1, none⟩ = some (.slice a1 n c1) ∧ w9.cell? ⟨w.heap.size, 2, none⟩ = some (.slice a2 V.length c2) ∧ w9.cell? ⟨w5.heap.size, 0, none⟩ = some (.slice xa0 D.length xc0) ∧ w9.cell? ⟨w5.heap.size, 1, none⟩ = some (.slice xa1 n xc1) ∧ w9.cell? ⟨w5.heap.size, 2, none⟩ = some (.slice xa2 V.length xc2)) := Lib.hid ⟨BA_10.out.c 0 rfl, BA_10.out.c 1 rfl, BA_10.out.c 2 rfl, BX_4.out.c 0 rfl, BX_4.out.c 1 rfl, BX_4.out.c 2 rfl⟩; clear RZ8; clear hb hst))
    try clear HK7
    try clear HK8
    try clear HK9
    clear cBA0 cBA1 cBA2 cBX0 cBX1 cBX2
    have cBA0 := BA_10.out.c 0 rfl
    have cBA1 := BA_10.out.c 1 rfl
    have cBA2 := BA_10.out.c 2 rfl
    have cBX0 := BX_4.out.c 0 rfl
    have cBX1 := BX_4.out.c 1 rfl
    have cBX2 := BX_4.out.c 2 rfl
    go_wp2_with fail
    refine (copySS_any a cap Zs _ (HAS.out.below Bel_11.out (Nat.le_refl _)) hlz Hrl.out).mono ?_
    rintro e w10 ⟨va, vc, vp, rfl, hb, hpv, hrv⟩
    clear cBA0 cBA1 cBA2 cBX0 cBX1 cBX2
    have z10 : w9.heap.size + 0 ≤ w10.heap.size := (by have := hb.size; (try simp at this); omega)
    have Bel_12 : Hid (Below w.heap.size w w10) := Lib.hid (Bel_11.out.trans (hb.mono Bel_11.out.size))
    clear Bel_11
    have BA_11 : Hid (Bx w10 (w.heap.size) [.slice a0 D.length c0, .slice a1 n c1, .slice a2 V.length c2]) := Lib.hid (BA_10.out.below hb BA_10.out.1)
    clear BA_10
    have Qx_6 : Hid (RivAt w10 w4.heap.size w5.heap.size xL xa0 xa1 xa2 xc0 xc1 xc2 n D M V) := Lib.hid (Qx_5.out.below hb Qx_5.out.lh)
    clear Qx_5
    have BX_5 : Hid (Bx w10 (w5.heap.size) [.slice xa0 D.length xc0, .slice xa1 n xc1, .slice xa2 V.length xc2]) := Lib.hid (BX_4.out.below hb BX_4.out.1)
    clear BX_4
    have Sy_4 : Hid (HSS w10 (yp) (yp + 1) (yp + 1) (w6.heap.size) (.slice ya Zs.length yc) Zs.length Zs) := Lib.hid (Sy_3.out.below hb Sy_3.out.lh)
    clear Sy_3
    have hp1v : w9.heap.size + 0 ≤ vp := by (try simp at hpv); omega
    have hp2v : vp + 1 ≤ w10.heap.size := hrv.lh.1
    clear hpv
    clear hb
    have Sv_0 : Hid (HSS w10 (vp) (vp + 1) (vp + 1) (w10.heap.size) (.slice va Zs.length vc) Zs.length Zs) := Lib.hid (hrv)
    clear hrv
    have cBA0 := BA_11.out.c 0 rfl
    have cBA1 := BA_11.out.c 1 rfl
    have cBA2 := BA_11.out.c 2 rfl
    have cBX0 := BX_5.out.c 0 rfl
    have cBX1 := BX_5.out.c 1 rfl
    have cBX2 := BX_5.out.c 2 rfl
    go_wp2_with fail
    refine (eqSS_any ya va yc vc Zs _ Sy_4.out.row Sv_0.out.row hlz Hrl.out).mono ?_
    rintro e w11 ⟨rfl, hb⟩
    clear cBA0 cBA1 cBA2 cBX0 cBX1 cBX2
    have z11 : w10.heap.size + 0 ≤ w11.heap.size := (by have := hb.size; (try simp at this); omega)
    have Bel_13 : Hid (Below w.heap.size w w11) := Lib.hid (Bel_12.out.trans (hb.mono Bel_12.out.size))
    clear Bel_12
    have BA_12 : Hid (Bx w11 (w.heap.size) [.slice a0 D.length c0, .slice a1 n c1, .slice a2 V.length c2]) := Lib.hid (BA_11.out.below hb BA_11.out.1)
    clear BA_11
    have Qx_7 : Hid (RivAt w11 w4.heap.size w5.heap.size xL xa0 xa1 xa2 xc0 xc1 xc2 n D M V) := Lib.hid (Qx_6.out.below hb Qx_6.out.lh)
    clear Qx_6
    have BX_6 : Hid (Bx w11 (w5.heap.size) [.slice xa0 D.length xc0, .slice xa1 n xc1, .slice xa2 V.length xc2]) := Lib.hid (BX_5.out.below hb BX_5.out.1)
    clear BX_5
    have Sy_5 : Hid (HSS w11 (yp) (yp + 1) (yp + 1) (w6.heap.size) (.slice ya Zs.length yc) Zs.length Zs) := Lib.hid (Sy_4.out.below hb Sy_4.out.lh)
    clear Sy_4
    have Sv_1 : Hid (HSS w11 (vp) (vp + 1) (vp + 1) (w10.heap.size) (.slice va Zs.length vc) Zs.length Zs) := Lib.hid (Sv_0.out.below hb Sv_0.out.lh)
    clear Sv_0
    clear hb
    have cBA0 := BA_12.out.c 0 rfl
    have cBA1 := BA_12.out.c 1 rfl
    have cBA2 := BA_12.out.c 2 rfl
    have cBX0 := BX_6.out.c 0 rfl
    have cBX1 := BX_6.out.c 1 rfl
    have cBX2 := BX_6.out.c 2 rfl
    go_wp2_with fail
    go_ret
    exact ⟨rfl, Bel_13.out⟩

set_option maxHeartbeats 4000000 in
theorem leastSizeLaw_not (a0 a1 a2 a : Option Addr) (c0 c1 c2 n cap : Nat) (D M V : List Int) (Zs : List (List Int)) (i : Int) (most : Int) (w : World) (has : RowSS w a Zs) (hmx : D.length ≤ maxLen ∧ n ≤ maxLen ∧ V.length ≤ maxLen) (hm : Zs.length ≤ maxLen) (hrm : ∀ k, k < Zs.length → (zr Zs k).length ≤ maxLen) (h : ¬ ((D.length : Int) + (n : Int) + (V.length : Int) ≤ 1048576 ∧ (Zs.length : Int) + (totZ Zs Zs.length : Int) ≤ 1048576 - ((D.length : Int) + (n : Int) + (V.length : Int)))) :
    Calls Try.prog 7 #[.agg #[.slice a0 D.length c0, .slice a1 n c1, .slice a2 V.length c2], .int .i64 i, .slice a Zs.length cap, .int .i64 most] w fun e w' => e = .returned (.bool true) ∧ Below w.heap.size w w' := by
  unfold maxLen at hmx hm hrm
  have hneg : ((-1 : Int) < 0) := by decide
  have HAS := Lib.hid has
  by_cases h1 : (D.length : Int) + (n : Int) + (V.length : Int) ≤ 1048576
  · have g1 : ¬ (1048576 : Int) - (D.length : Int) - (n : Int) - (V.length : Int) < 0 := by omega
    have hrm2 : ∀ k, k < Zs.length → (zr Zs k).length ≤ 9223372036854775807 := fun k hk => by have := hrm k hk; omega
    have HSz := Lib.hid (szRiver_fits a0 a1 a2 D.length n V.length c0 c1 c2 1048576 (by omega) (by omega) (w.alloc (.cells #[.slice a0 D.length c0, .slice a1 n c1, .slice a2 V.length c2] 25)))
    clear hrm has
    go_enter Try.func7, Try.ntmps7
    go_wp2_with fail
    refine HSz.out.mono ?_
    rintro e w1 ⟨rfl, hb⟩
    have HB1 : Hid (Below w.heap.size w w1) := Lib.hid ((bel1 w _).trans (hb.mono (by simp)))
    clear hb HSz
    go_wp2_with fail
    refine (szSS_not a cap Zs _ _ (HAS.out.below HB1.out (Nat.le_refl _)) (by omega) (by omega) (by omega) (by omega) hrm2).mono ?_
    rintro e w2 ⟨rfl, rfl⟩
    go_wp2_with fail
    go_ret
    exact ⟨rfl, HB1.out⟩
  · have HSz := Lib.hid (szRiver_not a0 a1 a2 D.length n V.length c0 c1 c2 1048576 (by omega) (by omega) (by omega) (by omega) (by omega) (by omega) (w.alloc (.cells #[.slice a0 D.length c0, .slice a1 n c1, .slice a2 V.length c2] 25)))
    clear hmx h has hm hrm
    go_enter Try.func7, Try.ntmps7
    go_wp2_with fail
    refine HSz.out.mono ?_
    rintro e w1 ⟨rfl, hb⟩
    have HB1 : Hid (Below w.heap.size w w1) := Lib.hid ((bel1 w _).trans (hb.mono (by simp)))
    clear hb
    go_wp2_with fail
    go_ret
    exact ⟨rfl, HB1.out⟩
theorem walk_FnExactLeastSize (a0 a1 a2 : Option Addr) (l0 n l2 c0 c1 c2 : Nat) (D M V : List Int) (i : Int) (a : Option Addr) (len cap : Nat) (Zs : List (List Int)) (most : Int) (w : World) (ha : IsRiv w a0 a1 a2 l0 n l2 c0 c1 c2 D M V) (hwi : (Lit.int .i64 i).wf = true) (hd : IsRowSS w a len cap Zs) (hwmost : (Lit.int .i64 most).wf = true) :
    Calls Try.prog 7 #[.agg #[.slice a0 l0 c0, .slice a1 n c1, .slice a2 l2 c2], .int .i64 i, .slice a len cap, .int .i64 most] w fun e w' => e = .returned (.bool true) ∧ Below w.heap.size w w' := by
  obtain ⟨⟨hl0, hc0, hx0, hr0, _⟩, ⟨hl1, hc1, hx1, hr1, _⟩, ⟨hl2, hc2, hx2, hr2, _⟩⟩ := ha
  obtain ⟨hld, hcd, hxd, hrd, hrm⟩ := hd
  rw [Nat.mul_one] at hl0 hl2
  subst hl0; subst hl2; subst hld
  by_cases h : (D.length : Int) + (n : Int) + (V.length : Int) ≤ 1048576 ∧ (Zs.length : Int) + (totZ Zs Zs.length : Int) ≤ 1048576 - ((D.length : Int) + (n : Int) + (V.length : Int))
  · exact leastSizeLaw_fits a0 a1 a2 a c0 c1 c2 n cap D M V Zs i most w hr0 hr1 hr2 hl1 hrd hwi hwmost h.1 h.2
  · exact leastSizeLaw_not a0 a1 a2 a c0 c1 c2 n cap D M V Zs i most w hrd ⟨by omega, by omega, by omega⟩ (by omega) hrm h
end Go.Proofs.Ytckmacnmmloemaa
