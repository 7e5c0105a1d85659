/- The walk of the law on UpFrom. -/
import Derived.Test.YtnmmhaadkclogaaUpR
import Derived.Test.YtnmmhaadkclogaaRivO
namespace Go.Proofs.Ytnmmhaadkclogaa
open Go.RowKit
set_option linter.unusedVariables false
set_option linter.unusedSimpArgs false
set_option maxRecDepth 100000
attribute [local irreducible] wpV wpList Code.wp

set_option maxHeartbeats 16000000 in
theorem upFromLaw_fits (a0 a1 a2 : Option Addr) (c0 c1 c2 n : Nat) (D M V : List Int) (x : Int) (w : World) (ha0 : RowC w a0 (ic D)) (ha1 : RowC w a1 (ic M)) (ha2 : RowC w a2 (ic V)) (hM : M.length = n * 4) (hwx : (Lit.int .i64 x).wf = true) (hc : D.length ≤ c0 ∧ n ≤ c1 ∧ V.length ≤ c2) (h1 : (D.length : Int) + (n : Int) + (V.length : Int) ≤ 1048576) :
    Calls Try.prog 8 #[.agg #[.slice a0 D.length c0, .slice a1 n c1, .slice a2 V.length c2], .int .i64 x] w fun e w' => e = .returned (.bool true) ∧ Below w.heap.size w w' := by
  have hlD : D.length ≤ 1048576 := by omega
  have hln : n ≤ 1048576 := by omega
  have hlV : V.length ≤ 1048576 := by omega
  have g1 : ¬ (1048576 : Int) - (D.length : Int) - (n : Int) - (V.length : Int) < 0 := by omega
  have HM := Lib.hid hM
  have HCp := Lib.hid hc
  clear hM hc
  obtain ⟨⟨Z, B⟩, hR⟩ : ∃ R, upR D M V n x = R := ⟨_, rfl⟩
  have hlim := upR_len D M V n x
  rw [hR] at hlim
  simp only at hlim
  have HS : Hid (∀ (b0 b1 b2 : Option Addr) (d0 d1 d2 : Nat) (W : World), RowC W b0 (ic D) → RowC W b1 (ic M) → RowC W b2 (ic V) → Calls Try.prog 34 #[.agg #[.slice b0 D.length d0, .slice b1 n d1, .slice b2 V.length d2], .int .i64 x] W (fun e w' => ∃ lo hi a c, e = .returned (.tuple #[.slice a Z.length c, .bool B]) ∧ Below W.heap.size W w' ∧ HRow w' 2 1 lo hi (.slice a Z.length c) Z.length (ic Z) ∧ W.heap.size ≤ lo)) := Lib.hid fun b0 b1 b2 d0 d1 d2 W k0 k1 k2 => by
    have h9 := upFrom_s b0 b1 b2 D.length n V.length d0 d1 d2 D M V x W hwx k0 k1 k2 rfl HM.out rfl ⟨hlD, hln, hlV⟩
    rw [hR] at h9
    exact h9
  have HI : Hid (∀ (b0 b1 b2 : Option Addr) (d0 d1 d2 : Nat) (W : World), RowC W b0 (ic D) → RowC W b1 (ic M) → RowC W b2 (ic V) → Calls Try.prog 35 #[.agg #[.slice b0 D.length d0, .slice b1 n d1, .slice b2 V.length d2], .int .i64 x] W (fun e w' => ∃ lo hi a c, e = .returned (.tuple #[.slice a Z.length c, .bool B]) ∧ Below W.heap.size W w' ∧ HRow w' 2 1 lo hi (.slice a Z.length c) Z.length (ic Z) ∧ W.heap.size ≤ lo)) := Lib.hid fun b0 b1 b2 d0 d1 d2 W k0 k1 k2 => by
    have h9 := upFrom_i b0 b1 b2 D.length n V.length d0 d1 d2 D M V x W hwx k0 k1 k2 rfl HM.out rfl ⟨hlD, hln, hlV⟩
    rw [hR] at h9
    exact h9
  clear hR hwx
  have HA0 := Lib.hid ha0
  have HA1 := Lib.hid ha1
  have HA2 := Lib.hid ha2
  clear ha0 ha1 ha2
  cases B
  all_goals
    have Bel_0 : Hid (Below w.heap.size w w) := Lib.hid (Below.refl w.heap.size w)
    have Bel_1 : Hid (Below w.heap.size w (w.alloc (.cells #[.slice a0 D.length c0, .slice a1 n c1, .slice a2 V.length c2] 25))) := Lib.hid (Bel_0.out.alloc Bel_0.out.size _)
    clear Bel_0
    have BA_0 : Hid (Bx (w.alloc (.cells #[.slice a0 D.length c0, .slice a1 n c1, .slice a2 V.length c2] 25)) (w.heap.size) [.slice a0 D.length c0, .slice a1 n c1, .slice a2 V.length c2]) := Lib.hid (Bx.new w [.slice a0 D.length c0, .slice a1 n c1, .slice a2 V.length c2] 25)
    go_enter Try.func8, Try.ntmps8
    have cBA0 := BA_0.out.c 0 rfl
    have cBA1 := BA_0.out.c 1 rfl
    have cBA2 := BA_0.out.c 2 rfl
    go_wp2_with fail
    refine (szRiver_fits a0 a1 a2 D.length n V.length c0 c1 c2 1048576 (by omega) (by omega) _).mono ?_
    rintro e w1 ⟨rfl, hb⟩
    clear cBA0 cBA1 cBA2
    have z1 : w.heap.size + 1 ≤ w1.heap.size := (by have := hb.size; (try simp at this); omega)
    have Bel_2 : Hid (Below w.heap.size w w1) := Lib.hid (Bel_1.out.trans (hb.mono Bel_1.out.size))
    clear Bel_1
    have BA_1 : Hid (Bx w1 (w.heap.size) [.slice a0 D.length c0, .slice a1 n c1, .slice a2 V.length c2]) := Lib.hid (BA_0.out.below hb BA_0.out.1)
    clear BA_0
    clear hb
    have cBA0 := BA_1.out.c 0 rfl
    have cBA1 := BA_1.out.c 1 rfl
    have cBA2 := BA_1.out.c 2 rfl
    go_wp2_with fail
    refine (toRiver_any a0 a1 a2 c0 c1 c2 n D M V _ (HA0.out.below Bel_2.out (Nat.le_refl _)) (HA1.out.below Bel_2.out (Nat.le_refl _)) (HA2.out.below Bel_2.out (Nat.le_refl _)) hlD hln hlV HM.out).mono ?_
    rintro e w2 ⟨sa0, sc0, sa1, sc1, sa2, sc2, sL, rfl, hb, hrs⟩
    clear cBA0 cBA1 cBA2
    have z2 : w1.heap.size + 0 ≤ w2.heap.size := (by have := hb.size; (try simp at this); omega)
    have Bel_3 : Hid (Below w.heap.size w w2) := Lib.hid (Bel_2.out.trans (hb.mono Bel_2.out.size))
    clear Bel_2
    have BA_2 : Hid (Bx w2 (w.heap.size) [.slice a0 D.length c0, .slice a1 n c1, .slice a2 V.length c2]) := Lib.hid (BA_1.out.below hb BA_1.out.1)
    clear BA_1
    clear hb
    have Qs_0 : Hid (RivAt w2 w1.heap.size w2.heap.size sL sa0 sa1 sa2 sc0 sc1 sc2 n D M V) := Lib.hid (hrs)
    clear hrs
    have cBA0 := BA_2.out.c 0 rfl
    have cBA1 := BA_2.out.c 1 rfl
    have cBA2 := BA_2.out.c 2 rfl
    go_wp2_with fail
    refine (HS.out sa0 sa1 sa2 sc0 sc1 sc2 _ Qs_0.out.r0.row Qs_0.out.r1.row Qs_0.out.r2.row).mono ?_
    rintro e w3 ⟨lot, hit, ta, tc, rfl, hb, hrt, hlot⟩
    clear cBA0 cBA1 cBA2
    have z3 : w2.heap.size + 0 ≤ w3.heap.size := (by have := hb.size; (try simp at this); omega)
    have Bel_4 : Hid (Below w.heap.size w w3) := Lib.hid (Bel_3.out.trans (hb.mono Bel_3.out.size))
    clear Bel_3
    have BA_3 : Hid (Bx w3 (w.heap.size) [.slice a0 D.length c0, .slice a1 n c1, .slice a2 V.length c2]) := Lib.hid (BA_2.out.below hb BA_2.out.1)
    clear BA_2
    have Qs_1 : Hid (RivAt w3 w1.heap.size w2.heap.size sL sa0 sa1 sa2 sc0 sc1 sc2 n D M V) := Lib.hid (Qs_0.out.below hb Qs_0.out.lh)
    clear Qs_0
    (try simp at hlot)
    have hht : hit ≤ w3.heap.size := hrt.2.2
    clear hb
    have Rt_0 : Hid (HRow w3 2 1 (lot) (hit) (.slice ta Z.length tc) Z.length (ic Z)) := Lib.hid (hrt)
    clear hrt
    clear Qs_1
    have cBA0 := BA_3.out.c 0 rfl
    have cBA1 := BA_3.out.c 1 rfl
    have cBA2 := BA_3.out.c 2 rfl
    go_wp2_with fail
    refine (toRiver_any a0 a1 a2 c0 c1 c2 n D M V _ (HA0.out.below Bel_4.out (Nat.le_refl _)) (HA1.out.below Bel_4.out (Nat.le_refl _)) (HA2.out.below Bel_4.out (Nat.le_refl _)) hlD hln hlV HM.out).mono ?_
    rintro e w4 ⟨xa0, xc0, xa1, xc1, xa2, xc2, xL, rfl, hb, hrx⟩
    clear cBA0 cBA1 cBA2
    have z4 : w3.heap.size + 0 ≤ w4.heap.size := (by have := hb.size; (try simp at this); omega)
    have Bel_5 : Hid (Below w.heap.size w w4) := Lib.hid (Bel_4.out.trans (hb.mono Bel_4.out.size))
    clear Bel_4
    have BA_4 : Hid (Bx w4 (w.heap.size) [.slice a0 D.length c0, .slice a1 n c1, .slice a2 V.length c2]) := Lib.hid (BA_3.out.below hb BA_3.out.1)
    clear BA_3
    have Rt_1 : Hid (HRow w4 2 1 (lot) (hit) (.slice ta Z.length tc) Z.length (ic Z)) := Lib.hid (Rt_0.out.below hb Rt_0.out.2.2)
    clear Rt_0
    clear hb
    have Qx_0 : Hid (RivAt w4 w3.heap.size w4.heap.size xL xa0 xa1 xa2 xc0 xc1 xc2 n D M V) := Lib.hid (hrx)
    clear hrx
    have Bel_6 : Hid (Below w.heap.size w (w4.alloc (.cells #[.slice xa0 D.length xc0, .slice xa1 n xc1, .slice xa2 V.length xc2] 30))) := Lib.hid (Bel_5.out.alloc Bel_5.out.size _)
    clear Bel_5
    have BA_5 : Hid (Bx (w4.alloc (.cells #[.slice xa0 D.length xc0, .slice xa1 n xc1, .slice xa2 V.length xc2] 30)) (w.heap.size) [.slice a0 D.length c0, .slice a1 n c1, .slice a2 V.length c2]) := Lib.hid (BA_4.out.alloc _)
    clear BA_4
    have Rt_2 : Hid (HRow (w4.alloc (.cells #[.slice xa0 D.length xc0, .slice xa1 n xc1, .slice xa2 V.length xc2] 30)) 2 1 (lot) (hit) (.slice ta Z.length tc) Z.length (ic Z)) := Lib.hid (Rt_1.out.alloc _)
    clear Rt_1
    have Qx_1 : Hid (RivAt (w4.alloc (.cells #[.slice xa0 D.length xc0, .slice xa1 n xc1, .slice xa2 V.length xc2] 30)) w3.heap.size w4.heap.size xL xa0 xa1 xa2 xc0 xc1 xc2 n D M V) := Lib.hid (Qx_0.out.alloc _)
    clear Qx_0
    have BX_0 : Hid (Bx (w4.alloc (.cells #[.slice xa0 D.length xc0, .slice xa1 n xc1, .slice xa2 V.length xc2] 30)) (w4.heap.size) [.slice xa0 D.length xc0, .slice xa1 n xc1, .slice xa2 V.length xc2]) := Lib.hid (Bx.new w4 [.slice xa0 D.length xc0, .slice xa1 n xc1, .slice xa2 V.length xc2] 30)
    have cBA0 := BA_5.out.c 0 rfl
    have cBA1 := BA_5.out.c 1 rfl
    have cBA2 := BA_5.out.c 2 rfl
    have cBX0 := BX_0.out.c 0 rfl
    have cBX1 := BX_0.out.c 1 rfl
    have cBX2 := BX_0.out.c 2 rfl
    go_wp2_with fail
    refine (HI.out xa0 xa1 xa2 xc0 xc1 xc2 _ Qx_1.out.r0.row Qx_1.out.r1.row Qx_1.out.r2.row).mono ?_
    rintro e w5 ⟨log, hig, ga, gc, rfl, hb, hrg, hlog⟩
    clear cBA0 cBA1 cBA2 cBX0 cBX1 cBX2
    have z5 : w4.heap.size + 1 ≤ w5.heap.size := (by have := hb.size; (try simp at this); omega)
    have Bel_7 : Hid (Below w.heap.size w w5) := Lib.hid (Bel_6.out.trans (hb.mono Bel_6.out.size))
    clear Bel_6
    have BA_6 : Hid (Bx w5 (w.heap.size) [.slice a0 D.length c0, .slice a1 n c1, .slice a2 V.length c2]) := Lib.hid (BA_5.out.below hb BA_5.out.1)
    clear BA_5
    have Rt_3 : Hid (HRow w5 2 1 (lot) (hit) (.slice ta Z.length tc) Z.length (ic Z)) := Lib.hid (Rt_2.out.below hb Rt_2.out.2.2)
    clear Rt_2
    have Qx_2 : Hid (RivAt w5 w3.heap.size w4.heap.size xL xa0 xa1 xa2 xc0 xc1 xc2 n D M V) := Lib.hid (Qx_1.out.below hb Qx_1.out.lh)
    clear Qx_1
    have BX_1 : Hid (Bx w5 (w4.heap.size) [.slice xa0 D.length xc0, .slice xa1 n xc1, .slice xa2 V.length xc2]) := Lib.hid (BX_0.out.below hb BX_0.out.1)
    clear BX_0
    (try simp at hlog)
    have hhg : hig ≤ w5.heap.size := hrg.2.2
    clear hb
    have Rg_0 : Hid (HRow w5 2 1 (log) (hig) (.slice ga Z.length gc) Z.length (ic Z)) := Lib.hid (hrg)
    clear hrg
    have cBA0 := BA_6.out.c 0 rfl
    have cBA1 := BA_6.out.c 1 rfl
    have cBA2 := BA_6.out.c 2 rfl
    have cBX0 := BX_1.out.c 0 rfl
    have cBX1 := BX_1.out.c 1 rfl
    have cBX2 := BX_1.out.c 2 rfl
    go_wp2_with fail
    refine (eqZ_any ga ta gc tc Z _ Rg_0.out.row Rt_3.out.row hlim).mono ?_
    rintro e w6 ⟨rfl, hb⟩
    clear cBA0 cBA1 cBA2 cBX0 cBX1 cBX2
    have z6 : w5.heap.size + 0 ≤ w6.heap.size := (by have := hb.size; (try simp at this); omega)
    have Bel_8 : Hid (Below w.heap.size w w6) := Lib.hid (Bel_7.out.trans (hb.mono Bel_7.out.size))
    clear Bel_7
    have BA_7 : Hid (Bx w6 (w.heap.size) [.slice a0 D.length c0, .slice a1 n c1, .slice a2 V.length c2]) := Lib.hid (BA_6.out.below hb BA_6.out.1)
    clear BA_6
    have Rt_4 : Hid (HRow w6 2 1 (lot) (hit) (.slice ta Z.length tc) Z.length (ic Z)) := Lib.hid (Rt_3.out.below hb Rt_3.out.2.2)
    clear Rt_3
    have Qx_3 : Hid (RivAt w6 w3.heap.size w4.heap.size xL xa0 xa1 xa2 xc0 xc1 xc2 n D M V) := Lib.hid (Qx_2.out.below hb Qx_2.out.lh)
    clear Qx_2
    have BX_2 : Hid (Bx w6 (w4.heap.size) [.slice xa0 D.length xc0, .slice xa1 n xc1, .slice xa2 V.length xc2]) := Lib.hid (BX_1.out.below hb BX_1.out.1)
    clear BX_1
    have Rg_1 : Hid (HRow w6 2 1 (log) (hig) (.slice ga Z.length gc) Z.length (ic Z)) := Lib.hid (Rg_0.out.below hb Rg_0.out.2.2)
    clear Rg_0
    clear hb
    have cBA0 := BA_7.out.c 0 rfl
    have cBA1 := BA_7.out.c 1 rfl
    have cBA2 := BA_7.out.c 2 rfl
    have cBX0 := BX_2.out.c 0 rfl
    have cBX1 := BX_2.out.c 1 rfl
    have cBX2 := BX_2.out.c 2 rfl
    go_wp2_with fail
    have HK6 : Hid (w6.cell? ⟨w.heap.size, 0, none⟩ = some (.slice a0 D.length c0) ∧ w6.cell? ⟨w.heap.size, 1, none⟩ = some (.slice a1 n c1) ∧ w6.cell? ⟨w.heap.size, 2, none⟩ = some (.slice a2 V.length c2) ∧ w6.cell? ⟨w4.heap.size, 0, none⟩ = some (.slice xa0 D.length xc0) ∧ w6.cell? ⟨w4.heap.size, 1, none⟩ = some (.slice xa1 n xc1) ∧ w6.cell? ⟨w4.heap.size, 2, none⟩ = some (.slice xa2 V.length xc2)) := Lib.hid ⟨BA_7.out.c 0 rfl, BA_7.out.c 1 rfl, BA_7.out.c 2 rfl, BX_2.out.c 0 rfl, BX_2.out.c 1 rfl, BX_2.out.c 2 rfl⟩
    go_region_held3 (fun w' => w'.cell? ⟨w.heap.size, 0, none⟩ = some (.slice a0 D.length c0) ∧ w'.cell? ⟨w.heap.size, 1, none⟩ = some (.slice a1 n c1) ∧ w'.cell? ⟨w.heap.size, 2, none⟩ = some (.slice a2 V.length c2) ∧ w'.cell? ⟨w4.heap.size, 0, none⟩ = some (.slice xa0 D.length xc0) ∧ w'.cell? ⟨w4.heap.size, 1, none⟩ = some (.slice xa1 n xc1) ∧ w'.cell? ⟨w4.heap.size, 2, none⟩ = some (.slice xa2 V.length xc2))
      (first | with_reducible exact HK8.out | with_reducible exact HK7.out | exact HK6.out)
      (first | (go_at_call 17; refine (toRiver_any a0 a1 a2 c0 c1 c2 n D M V _ (by first | with_reducible exact HA0.out.below Bel_8.out (Nat.le_refl _) | with_reducible exact (HA0.out.below Bel_8.out (Nat.le_refl _)).drewN 1 | exact HA0.out.below Bel_8.out.drew (Nat.le_refl _)) (by first | with_reducible exact HA1.out.below Bel_8.out (Nat.le_refl _) | with_reducible exact (HA1.out.below Bel_8.out (Nat.le_refl _)).drewN 1 | exact HA1.out.below Bel_8.out.drew (Nat.le_refl _)) (by first | with_reducible exact HA2.out.below Bel_8.out (Nat.le_refl _) | with_reducible exact (HA2.out.below Bel_8.out (Nat.le_refl _)).drewN 1 | exact HA2.out.below Bel_8.out.drew (Nat.le_refl _)) hlD hln hlV HM.out).mono ?_; rintro e w7 ⟨za0, zc0, za1, zc1, za2, zc2, zL, rfl, hb, hr⟩; have hst : Below w6.heap.size w6 w7 := (by first | with_reducible exact hb | with_reducible exact (Below.refl _ _).drew.trans (hb.mono (le_drew _))); have z7 : w6.heap.size ≤ w7.heap.size := hst.size; have Bel_9 : Hid (Below w.heap.size w w7) := Lib.hid (Bel_8.out.trans (hst.mono Bel_8.out.size)); clear Bel_8; have BA_8 : Hid (Bx w7 (w.heap.size) [.slice a0 D.length c0, .slice a1 n c1, .slice a2 V.length c2]) := Lib.hid (BA_7.out.below hst BA_7.out.1); clear BA_7; have Rt_5 : Hid (HRow w7 2 1 (lot) (hit) (.slice ta Z.length tc) Z.length (ic Z)) := Lib.hid (Rt_4.out.below hst Rt_4.out.2.2); clear Rt_4; have Qx_4 : Hid (RivAt w7 w3.heap.size w4.heap.size xL xa0 xa1 xa2 xc0 xc1 xc2 n D M V) := Lib.hid (Qx_3.out.below hst Qx_3.out.lh); clear Qx_3; have BX_3 : Hid (Bx w7 (w4.heap.size) [.slice xa0 D.length xc0, .slice xa1 n xc1, .slice xa2 V.length xc2]) := Lib.hid (BX_2.out.below hst BX_2.out.1); clear BX_2; have Rg_2 : Hid (HRow w7 2 1 (log) (hig) (.slice ga Z.length gc) Z.length (ic Z)) := Lib.hid (Rg_1.out.below hst Rg_1.out.2.2); clear Rg_1; have HK7 : Hid (w7.cell? ⟨w.heap.size, 0, none⟩ = some (.slice a0 D.length c0) ∧ w7.cell? ⟨w.heap.size, 1, none⟩ = some (.slice a1 n c1) ∧ w7.cell? ⟨w.heap.size, 2, none⟩ = some (.slice a2 V.length c2) ∧ w7.cell? ⟨w4.heap.size, 0, none⟩ = some (.slice xa0 D.length xc0) ∧ w7.cell? ⟨w4.heap.size, 1, none⟩ = some (.slice xa1 n xc1) ∧ w7.cell? ⟨w4.heap.size, 2, none⟩ = some (.slice xa2 V.length xc2)) := Lib.hid ⟨BA_8.out.c 0 rfl, BA_8.out.c 1 rfl, BA_8.out.c 2 rfl, BX_3.out.c 0 rfl, BX_3.out.c 1 rfl, BX_3.out.c 2 rfl⟩; have RZ7 := Lib.hid hr; clear hr; clear hb hst) | (go_at_call 19; refine (eqRiver_any xa0 xa1 xa2 za0 za1 za2 xc0 xc1 xc2 zc0 zc1 zc2 n D M V _ Qx_4.out.r0.row Qx_4.out.r1.row Qx_4.out.r2.row hlD hln hlV HM.out RZ7.out.r0.row RZ7.out.r1.row RZ7.out.r2.row).mono ?_; rintro e w8 ⟨rfl, hb⟩; have hst : Below w7.heap.size w7 w8 := (by first | with_reducible exact hb | with_reducible exact (Below.refl _ _).drew.trans (hb.mono (le_drew _))); have z8 : w7.heap.size ≤ w8.heap.size := hst.size; have Bel_10 : Hid (Below w.heap.size w w8) := Lib.hid (Bel_9.out.trans (hst.mono Bel_9.out.size)); clear Bel_9; have BA_9 : Hid (Bx w8 (w.heap.size) [.slice a0 D.length c0, .slice a1 n c1, .slice a2 V.length c2]) := Lib.hid (BA_8.out.below hst BA_8.out.1); clear BA_8; have Rt_6 : Hid (HRow w8 2 1 (lot) (hit) (.slice ta Z.length tc) Z.length (ic Z)) := Lib.hid (Rt_5.out.below hst Rt_5.out.2.2); clear Rt_5; have Qx_5 : Hid (RivAt w8 w3.heap.size w4.heap.size xL xa0 xa1 xa2 xc0 xc1 xc2 n D M V) := Lib.hid (Qx_4.out.below hst Qx_4.out.lh); clear Qx_4; have BX_4 : Hid (Bx w8 (w4.heap.size) [.slice xa0 D.length xc0, .slice xa1 n xc1, .slice xa2 V.length xc2]) := Lib.hid (BX_3.out.below hst BX_3.out.1); clear BX_3; have Rg_3 : Hid (HRow w8 2 1 (log) (hig) (.slice ga Z.length gc) Z.length (ic Z)) := Lib.hid (Rg_2.out.below hst Rg_2.out.2.2); clear Rg_2; have HK8 : Hid (w8.cell? ⟨w.heap.size, 0, none⟩ = some (.slice a0 D.length c0) ∧ w8.cell? ⟨w.heap.size, 1, none⟩ = some (.slice a1 n c1) ∧ w8.cell? ⟨w.heap.size, 2, none⟩ = some (.slice a2 V.length c2) ∧ w8.cell? ⟨w4.heap.size, 0, none⟩ = some (.slice xa0 D.length xc0) ∧ w8.cell? ⟨w4.heap.size, 1, none⟩ = some (.slice xa1 n xc1) ∧ w8.cell? ⟨w4.heap.size, 2, none⟩ = some (.slice xa2 V.length xc2)) := Lib.hid ⟨BA_9.out.c 0 rfl, BA_9.out.c 1 rfl, BA_9.out.c 2 rfl, BX_4.out.c 0 rfl, BX_4.out.c 1 rfl, BX_4.out.c 2 rfl⟩; clear RZ7; clear hb hst))
    try clear HK6
    try clear HK7
    try clear HK8
    clear cBA0 cBA1 cBA2 cBX0 cBX1 cBX2
    have hcn : ¬ ((1 + D.length + n * 4 + V.length : Nat) : Int) < 0 := by omega
    have cBA0 := BA_9.out.c 0 rfl
    have cBA1 := BA_9.out.c 1 rfl
    have cBA2 := BA_9.out.c 2 rfl
    have cBX0 := BX_4.out.c 0 rfl
    have cBX1 := BX_4.out.c 1 rfl
    have cBX2 := BX_4.out.c 2 rfl
    go_wp2_with fail
    have hmk := markRiver_any w3.heap.size w4.heap.size 1 xL xa0 xa1 xa2 xc0 xc1 xc2 n D M V _ Qx_5.out hlD hln hlV (by omega)
    clear Qx_5
    refine (hmk).mono ?_
    rintro e w9 ⟨rfl, hf, hk⟩
    clear cBA0 cBA1 cBA2 cBX0 cBX1 cBX2
    have z9 : w8.heap.size + 0 ≤ w9.heap.size := (by have := hk.size; (try simp at this); omega)
    have Bel_11 : Hid (Below w.heap.size w w9) := Lib.hid (Bel_10.out.trans (hk.below (by omega) (by omega)))
    clear Bel_10
    have BA_10 : Hid (Bx w9 (w.heap.size) [.slice a0 D.length c0, .slice a1 n c1, .slice a2 V.length c2]) := Lib.hid (BA_9.out.kept hk (by first | exact .inl (by omega) | exact .inr (by omega) | omega))
    clear BA_9
    have Rt_7 : Hid (HRow w9 2 1 (lot) (hit) (.slice ta Z.length tc) Z.length (ic Z)) := Lib.hid (Rt_6.out.kept hk (by first | exact .inl (by omega) | exact .inr (by omega) | omega))
    clear Rt_6
    have BX_5 : Hid (Bx w9 (w4.heap.size) [.slice xa0 D.length xc0, .slice xa1 n xc1, .slice xa2 V.length xc2]) := Lib.hid (BX_4.out.kept hk (by first | exact .inl (by omega) | exact .inr (by omega) | omega))
    clear BX_4
    have Rg_4 : Hid (HRow w9 2 1 (log) (hig) (.slice ga Z.length gc) Z.length (ic Z)) := Lib.hid (Rg_3.out.kept hk (by first | exact .inl (by omega) | exact .inr (by omega) | omega))
    clear Rg_3
    clear hk
    have Qx_0 : Hid (MarkedR w9 w3.heap.size w4.heap.size xL 1 xa0 xa1 xa2 xc0 xc1 xc2 D.length n V.length) := Lib.hid (hf)
    clear hf
    clear Qx_0
    have cBA0 := BA_10.out.c 0 rfl
    have cBA1 := BA_10.out.c 1 rfl
    have cBA2 := BA_10.out.c 2 rfl
    have cBX0 := BX_5.out.c 0 rfl
    have cBX1 := BX_5.out.c 1 rfl
    have cBX2 := BX_5.out.c 2 rfl
    go_wp2_with fail
    refine (eqZ_any ga ta gc tc Z _ Rg_4.out.row Rt_7.out.row hlim).mono ?_
    rintro e w10 ⟨rfl, hb⟩
    clear cBA0 cBA1 cBA2 cBX0 cBX1 cBX2
    have z10 : w9.heap.size + 0 ≤ w10.heap.size := (by have := hb.size; (try simp at this); omega)
    have Bel_12 : Hid (Below w.heap.size w w10) := Lib.hid (Bel_11.out.trans (hb.mono Bel_11.out.size))
    clear Bel_11
    have BA_11 : Hid (Bx w10 (w.heap.size) [.slice a0 D.length c0, .slice a1 n c1, .slice a2 V.length c2]) := Lib.hid (BA_10.out.below hb BA_10.out.1)
    clear BA_10
    have Rt_8 : Hid (HRow w10 2 1 (lot) (hit) (.slice ta Z.length tc) Z.length (ic Z)) := Lib.hid (Rt_7.out.below hb Rt_7.out.2.2)
    clear Rt_7
    have BX_6 : Hid (Bx w10 (w4.heap.size) [.slice xa0 D.length xc0, .slice xa1 n xc1, .slice xa2 V.length xc2]) := Lib.hid (BX_5.out.below hb BX_5.out.1)
    clear BX_5
    have Rg_5 : Hid (HRow w10 2 1 (log) (hig) (.slice ga Z.length gc) Z.length (ic Z)) := Lib.hid (Rg_4.out.below hb Rg_4.out.2.2)
    clear Rg_4
    clear hb
    have cBA0 := BA_11.out.c 0 rfl
    have cBA1 := BA_11.out.c 1 rfl
    have cBA2 := BA_11.out.c 2 rfl
    have cBX0 := BX_6.out.c 0 rfl
    have cBX1 := BX_6.out.c 1 rfl
    have cBX2 := BX_6.out.c 2 rfl
    go_wp2_with fail
    have hmk := markZ_any log hig 1 ga Z.length gc Z _ Rg_5.out hlim (by omega)
    clear Rg_5
    refine (hmk).mono ?_
    rintro e w11 ⟨rfl, hf, hk⟩
    clear cBA0 cBA1 cBA2 cBX0 cBX1 cBX2
    have z11 : w10.heap.size + 0 ≤ w11.heap.size := (by have := hk.size; (try simp at this); omega)
    have Bel_13 : Hid (Below w.heap.size w w11) := Lib.hid (Bel_12.out.trans (hk.below (by omega) (by omega)))
    clear Bel_12
    have BA_12 : Hid (Bx w11 (w.heap.size) [.slice a0 D.length c0, .slice a1 n c1, .slice a2 V.length c2]) := Lib.hid (BA_11.out.kept hk (by first | exact .inl (by omega) | exact .inr (by omega) | omega))
    clear BA_11
    have Rt_9 : Hid (HRow w11 2 1 (lot) (hit) (.slice ta Z.length tc) Z.length (ic Z)) := Lib.hid (Rt_8.out.kept hk (by first | exact .inl (by omega) | exact .inr (by omega) | omega))
    clear Rt_8
    have BX_7 : Hid (Bx w11 (w4.heap.size) [.slice xa0 D.length xc0, .slice xa1 n xc1, .slice xa2 V.length xc2]) := Lib.hid (BX_6.out.kept hk (by first | exact .inl (by omega) | exact .inr (by omega) | omega))
    clear BX_6
    clear hk
    have Rg_0 : Hid (HRow w11 2 1 (log) (hig) (.slice ga Z.length gc) Z.length (ic (marksZ 1 Z.length))) := Lib.hid (hf)
    clear hf
    have hcm : ¬ ((1 + Z.length : Nat) : Int) < 0 := by omega
    have cBA0 := BA_12.out.c 0 rfl
    have cBA1 := BA_12.out.c 1 rfl
    have cBA2 := BA_12.out.c 2 rfl
    have cBX0 := BX_7.out.c 0 rfl
    have cBX1 := BX_7.out.c 1 rfl
    have cBX2 := BX_7.out.c 2 rfl
    go_wp2_with fail
    refine (heldZ_any log hig 1 ga Z.length gc _ Rg_0.out hlim (by omega)).mono ?_
    rintro e w' ⟨rfl, rfl⟩
    clear cBA0 cBA1 cBA2 cBX0 cBX1 cBX2
    have cBA0 := BA_12.out.c 0 rfl
    have cBA1 := BA_12.out.c 1 rfl
    have cBA2 := BA_12.out.c 2 rfl
    have cBX0 := BX_7.out.c 0 rfl
    have cBX1 := BX_7.out.c 1 rfl
    have cBX2 := BX_7.out.c 2 rfl
    go_wp2_with fail
    refine (toRiver_any a0 a1 a2 c0 c1 c2 n D M V _ (HA0.out.below Bel_13.out (Nat.le_refl _)) (HA1.out.below Bel_13.out (Nat.le_refl _)) (HA2.out.below Bel_13.out (Nat.le_refl _)) hlD hln hlV HM.out).mono ?_
    rintro e w12 ⟨ea0, ec0, ea1, ec1, ea2, ec2, eL, rfl, hb, hre⟩
    clear cBA0 cBA1 cBA2 cBX0 cBX1 cBX2
    have z12 : w11.heap.size + 0 ≤ w12.heap.size := (by have := hb.size; (try simp at this); omega)
    have Bel_14 : Hid (Below w.heap.size w w12) := Lib.hid (Bel_13.out.trans (hb.mono Bel_13.out.size))
    clear Bel_13
    have BA_13 : Hid (Bx w12 (w.heap.size) [.slice a0 D.length c0, .slice a1 n c1, .slice a2 V.length c2]) := Lib.hid (BA_12.out.below hb BA_12.out.1)
    clear BA_12
    have Rt_10 : Hid (HRow w12 2 1 (lot) (hit) (.slice ta Z.length tc) Z.length (ic Z)) := Lib.hid (Rt_9.out.below hb Rt_9.out.2.2)
    clear Rt_9
    have BX_8 : Hid (Bx w12 (w4.heap.size) [.slice xa0 D.length xc0, .slice xa1 n xc1, .slice xa2 V.length xc2]) := Lib.hid (BX_7.out.below hb BX_7.out.1)
    clear BX_7
    have Rg_1 : Hid (HRow w12 2 1 (log) (hig) (.slice ga Z.length gc) Z.length (ic (marksZ 1 Z.length))) := Lib.hid (Rg_0.out.below hb Rg_0.out.2.2)
    clear Rg_0
    clear hb
    have Qe_0 : Hid (RivAt w12 w11.heap.size w12.heap.size eL ea0 ea1 ea2 ec0 ec1 ec2 n D M V) := Lib.hid (hre)
    clear hre
    have cBA0 := BA_13.out.c 0 rfl
    have cBA1 := BA_13.out.c 1 rfl
    have cBA2 := BA_13.out.c 2 rfl
    have cBX0 := BX_8.out.c 0 rfl
    have cBX1 := BX_8.out.c 1 rfl
    have cBX2 := BX_8.out.c 2 rfl
    go_wp2_with fail
    refine (HI.out ea0 ea1 ea2 ec0 ec1 ec2 _ Qe_0.out.r0.row Qe_0.out.r1.row Qe_0.out.r2.row).mono ?_
    rintro e w13 ⟨loh, hih, ha, hc, rfl, hb, hrh, hloh⟩
    clear cBA0 cBA1 cBA2 cBX0 cBX1 cBX2
    have z13 : w12.heap.size + 0 ≤ w13.heap.size := (by have := hb.size; (try simp at this); omega)
    have Bel_15 : Hid (Below w.heap.size w w13) := Lib.hid (Bel_14.out.trans (hb.mono Bel_14.out.size))
    clear Bel_14
    have BA_14 : Hid (Bx w13 (w.heap.size) [.slice a0 D.length c0, .slice a1 n c1, .slice a2 V.length c2]) := Lib.hid (BA_13.out.below hb BA_13.out.1)
    clear BA_13
    have Rt_11 : Hid (HRow w13 2 1 (lot) (hit) (.slice ta Z.length tc) Z.length (ic Z)) := Lib.hid (Rt_10.out.below hb Rt_10.out.2.2)
    clear Rt_10
    have BX_9 : Hid (Bx w13 (w4.heap.size) [.slice xa0 D.length xc0, .slice xa1 n xc1, .slice xa2 V.length xc2]) := Lib.hid (BX_8.out.below hb BX_8.out.1)
    clear BX_8
    have Rg_2 : Hid (HRow w13 2 1 (log) (hig) (.slice ga Z.length gc) Z.length (ic (marksZ 1 Z.length))) := Lib.hid (Rg_1.out.below hb Rg_1.out.2.2)
    clear Rg_1
    have Qe_1 : Hid (RivAt w13 w11.heap.size w12.heap.size eL ea0 ea1 ea2 ec0 ec1 ec2 n D M V) := Lib.hid (Qe_0.out.below hb Qe_0.out.lh)
    clear Qe_0
    (try simp at hloh)
    have hhh : hih ≤ w13.heap.size := hrh.2.2
    clear hb
    have Rh_0 : Hid (HRow w13 2 1 (loh) (hih) (.slice ha Z.length hc) Z.length (ic Z)) := Lib.hid (hrh)
    clear hrh
    clear Qe_1
    have cBA0 := BA_14.out.c 0 rfl
    have cBA1 := BA_14.out.c 1 rfl
    have cBA2 := BA_14.out.c 2 rfl
    have cBX0 := BX_9.out.c 0 rfl
    have cBX1 := BX_9.out.c 1 rfl
    have cBX2 := BX_9.out.c 2 rfl
    go_wp2_with fail
    refine (eqZ_any ha ta hc tc Z _ Rh_0.out.row Rt_11.out.row hlim).mono ?_
    rintro e w14 ⟨rfl, hb⟩
    clear cBA0 cBA1 cBA2 cBX0 cBX1 cBX2
    have z14 : w13.heap.size + 0 ≤ w14.heap.size := (by have := hb.size; (try simp at this); omega)
    have Bel_16 : Hid (Below w.heap.size w w14) := Lib.hid (Bel_15.out.trans (hb.mono Bel_15.out.size))
    clear Bel_15
    have BA_15 : Hid (Bx w14 (w.heap.size) [.slice a0 D.length c0, .slice a1 n c1, .slice a2 V.length c2]) := Lib.hid (BA_14.out.below hb BA_14.out.1)
    clear BA_14
    have Rt_12 : Hid (HRow w14 2 1 (lot) (hit) (.slice ta Z.length tc) Z.length (ic Z)) := Lib.hid (Rt_11.out.below hb Rt_11.out.2.2)
    clear Rt_11
    have BX_10 : Hid (Bx w14 (w4.heap.size) [.slice xa0 D.length xc0, .slice xa1 n xc1, .slice xa2 V.length xc2]) := Lib.hid (BX_9.out.below hb BX_9.out.1)
    clear BX_9
    have Rg_3 : Hid (HRow w14 2 1 (log) (hig) (.slice ga Z.length gc) Z.length (ic (marksZ 1 Z.length))) := Lib.hid (Rg_2.out.below hb Rg_2.out.2.2)
    clear Rg_2
    have Rh_1 : Hid (HRow w14 2 1 (loh) (hih) (.slice ha Z.length hc) Z.length (ic Z)) := Lib.hid (Rh_0.out.below hb Rh_0.out.2.2)
    clear Rh_0
    clear hb
    have cBA0 := BA_15.out.c 0 rfl
    have cBA1 := BA_15.out.c 1 rfl
    have cBA2 := BA_15.out.c 2 rfl
    have cBX0 := BX_10.out.c 0 rfl
    have cBX1 := BX_10.out.c 1 rfl
    have cBX2 := BX_10.out.c 2 rfl
    go_wp2_with fail
    refine (heldZ_any log hig 1 ga Z.length gc _ Rg_3.out hlim (by omega)).mono ?_
    rintro e w' ⟨rfl, rfl⟩
    clear cBA0 cBA1 cBA2 cBX0 cBX1 cBX2
    have cBA0 := BA_15.out.c 0 rfl
    have cBA1 := BA_15.out.c 1 rfl
    have cBA2 := BA_15.out.c 2 rfl
    have cBX0 := BX_10.out.c 0 rfl
    have cBX1 := BX_10.out.c 1 rfl
    have cBX2 := BX_10.out.c 2 rfl
    go_wp2_with fail
    go_ret
    exact ⟨rfl, Bel_16.out⟩

set_option maxHeartbeats 4000000 in
theorem upFromLaw_not (a0 a1 a2 : Option Addr) (c0 c1 c2 n : Nat) (D M V : List Int) (x : Int) (w : World) (hmx : D.length ≤ maxLen ∧ n ≤ maxLen ∧ V.length ≤ maxLen) (h : ¬ (D.length : Int) + (n : Int) + (V.length : Int) ≤ 1048576) :
    Calls Try.prog 8 #[.agg #[.slice a0 D.length c0, .slice a1 n c1, .slice a2 V.length c2], .int .i64 x] w fun e w' => e = .returned (.bool true) ∧ Below w.heap.size w w' := by
  unfold maxLen at hmx
  have HSz := Lib.hid (szRiver_not a0 a1 a2 D.length n V.length c0 c1 c2 1048576 (by omega) (by omega) (by omega) (by omega) (by omega) (by omega) (w.alloc (.cells #[.slice a0 D.length c0, .slice a1 n c1, .slice a2 V.length c2] 25)))
  clear hmx h
  have hneg : ((-1 : Int) < 0) := by decide
  go_enter Try.func8, Try.ntmps8
  go_wp2_with fail
  refine HSz.out.mono ?_
  rintro e w1 ⟨rfl, hb⟩
  have HB1 : Hid (Below w.heap.size w w1) := Lib.hid ((bel1 w _).trans (hb.mono (by simp)))
  clear hb
  go_wp2_with fail
  go_ret
  exact ⟨rfl, HB1.out⟩
theorem walk_FnExactUpFrom (a0 a1 a2 : Option Addr) (l0 n l2 c0 c1 c2 : Nat) (D M V : List Int) (x : Int) (w : World) (ha : IsRiv w a0 a1 a2 l0 n l2 c0 c1 c2 D M V) (hwx : (Lit.int .i64 x).wf = true) :
    Calls Try.prog 8 #[.agg #[.slice a0 l0 c0, .slice a1 n c1, .slice a2 l2 c2], .int .i64 x] w fun e w' => e = .returned (.bool true) ∧ Below w.heap.size w w' := by
  obtain ⟨⟨hl0, hc0, hx0, hr0, _⟩, ⟨hl1, hc1, hx1, hr1, _⟩, ⟨hl2, hc2, hx2, hr2, _⟩⟩ := ha
  rw [Nat.mul_one] at hl0 hl2
  subst hl0; subst hl2
  by_cases h : (D.length : Int) + (n : Int) + (V.length : Int) ≤ 1048576
  · exact upFromLaw_fits a0 a1 a2 c0 c1 c2 n D M V x w hr0 hr1 hr2 hl1 hwx ⟨hc0, hc1, hc2⟩ h
  · exact upFromLaw_not a0 a1 a2 c0 c1 c2 n D M V x w ⟨by omega, by omega, by omega⟩ h
end Go.Proofs.Ytnmmhaadkclogaa
