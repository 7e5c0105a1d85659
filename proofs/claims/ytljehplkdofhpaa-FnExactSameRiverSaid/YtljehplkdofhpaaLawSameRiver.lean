/- The walk of the law on SameRiver. -/
import Derived.Test.YtljehplkdofhpaaSameRI
import Derived.Test.YtljehplkdofhpaaRivO
import Derived.Deep.RegionHeld3
import Derived.Deep.Cut
import Derived.DataShut
namespace Go.Proofs.Ytljehplkdofhpaa
open Go.RowKit
set_option linter.unusedVariables false
set_option linter.unusedSimpArgs false
set_option maxRecDepth 100000
attribute [local irreducible] wpV wpList Code.wp

set_option maxHeartbeats 16000000 in
theorem sameRiverLaw_fits (a0 a1 a2 e0 e1 e2 : Option Addr) (c0 c1 c2 d0 d1 d2 n m : Nat) (D M V E N U : List Int) (w : World) (ha0 : RowC w a0 (ic D)) (ha1 : RowC w a1 (ic M)) (ha2 : RowC w a2 (ic V)) (he0 : RowC w e0 (ic E)) (he1 : RowC w e1 (ic N)) (he2 : RowC w e2 (ic U)) (hM : M.length = n * 4) (hN : N.length = m * 4) (h1 : (D.length : Int) + (n : Int) + (V.length : Int) ≤ 1048576) (h2 : (E.length : Int) + (m : Int) + (U.length : Int) ≤ 1048576 - ((D.length : Int) + (n : Int) + (V.length : Int))) :
    Calls Try.prog 4 #[.agg #[.slice a0 D.length c0, .slice a1 n c1, .slice a2 V.length c2], .agg #[.slice e0 E.length d0, .slice e1 m d1, .slice e2 U.length d2]] w fun e w' => e = .returned (.bool true) ∧ Below w.heap.size w w' := by
  have hlD : D.length ≤ 1048576 := by omega
  have hln : n ≤ 1048576 := by omega
  have hlV : V.length ≤ 1048576 := by omega
  have hlE : E.length ≤ 1048576 := by omega
  have hlm : m ≤ 1048576 := by omega
  have hlU : U.length ≤ 1048576 := by omega
  have g1 : ¬ (1048576 : Int) - (D.length : Int) - (n : Int) - (V.length : Int) < 0 := by omega
  have g2 : ¬ (1048576 : Int) - (D.length : Int) - (n : Int) - (V.length : Int) - (E.length : Int) - (m : Int) - (U.length : Int) < 0 := by omega
  have HM := Lib.hid hM
  have HN := Lib.hid hN
  clear hM hN
  obtain ⟨v, hv⟩ : ∃ v, (decide (D = E) && decide (M = N) && decide (V = U)) = v := ⟨_, rfl⟩
  have HV := Lib.hid hv
  clear hv
  have HA0 := Lib.hid ha0
  have HA1 := Lib.hid ha1
  have HA2 := Lib.hid ha2
  have HE0 := Lib.hid he0
  have HE1 := Lib.hid he1
  have HE2 := Lib.hid he2
  clear ha0 ha1 ha2 he0 he1 he2
  obtain ⟨W1, hW1⟩ : ∃ W, ((w.alloc (.cells #[.slice a0 D.length c0, .slice a1 n c1, .slice a2 V.length c2] 25)).alloc (.cells #[.slice e0 E.length d0, .slice e1 m d1, .slice e2 U.length d2] 25)) = W := ⟨_, rfl⟩
  have P1 : Hid (Bx W1 w.heap.size [.slice a0 D.length c0, .slice a1 n c1, .slice a2 V.length c2]) := Lib.hid (by rw [← hW1]; exact (Bx.new w [.slice a0 D.length c0, .slice a1 n c1, .slice a2 V.length c2] _).alloc _)
  have O1 : Hid (Bx W1 (w.heap.size + 1) [.slice e0 E.length d0, .slice e1 m d1, .slice e2 U.length d2]) := Lib.hid (by rw [← hW1]; exact Bx.new1G w _ [.slice e0 E.length d0, .slice e1 m d1, .slice e2 U.length d2] _)
  have HB1 : Hid (Below w.heap.size w W1) := Lib.hid (by rw [← hW1]; exact below2 w _ _)
  have HW1 := Lib.hid hW1
  clear hW1
  have p0 := P1.out.c 0 rfl
  have q0 := O1.out.c 0 rfl
  have p1 := P1.out.c 1 rfl
  have q1 := O1.out.c 1 rfl
  have p2 := P1.out.c 2 rfl
  have q2 := O1.out.c 2 rfl
  go_enter Try.func4, Try.ntmps4
  go_upto_region 1 with fail
  rw [HW1.out]
  clear HW1
  go_wp2_with fail
  refine (szRiver_fits a0 a1 a2 D.length n V.length c0 c1 c2 1048576 (by omega) (by omega) _).mono ?_
  rintro e w2 ⟨rfl, hb⟩
  clear p0 p1 p2 q0 q1 q2
  have P2 := Lib.hid (P1.out.below hb P1.out.1)
  have O2 := Lib.hid (O1.out.below hb O1.out.1)
  have HB2 : Hid (Below w.heap.size w _) := Lib.hid (HB1.out.trans (hb.mono HB1.out.size))
  clear P1 O1 HB1
  clear hb
  have p0 := P2.out.c 0 rfl
  have q0 := O2.out.c 0 rfl
  have p1 := P2.out.c 1 rfl
  have q1 := O2.out.c 1 rfl
  have p2 := P2.out.c 2 rfl
  have q2 := O2.out.c 2 rfl
  go_wp2_with fail
  refine (szRiver_fits e0 e1 e2 E.length m U.length d0 d1 d2 _ (by omega) (by omega) _).mono ?_
  rintro e w3 ⟨rfl, hb⟩
  clear p0 p1 p2 q0 q1 q2
  have P3 := Lib.hid (P2.out.below hb P2.out.1)
  have O3 := Lib.hid (O2.out.below hb O2.out.1)
  have HB3 : Hid (Below w.heap.size w _) := Lib.hid (HB2.out.trans (hb.mono HB2.out.size))
  clear P2 O2 HB2
  clear hb
  have p0 := P3.out.c 0 rfl
  have q0 := O3.out.c 0 rfl
  have p1 := P3.out.c 1 rfl
  have q1 := O3.out.c 1 rfl
  have p2 := P3.out.c 2 rfl
  have q2 := O3.out.c 2 rfl
  go_wp2_with fail
  have HK3 : Hid (w3.cell? ⟨w.heap.size, 0, none⟩ = some (.slice a0 D.length c0) ∧ w3.cell? ⟨w.heap.size, 1, none⟩ = some (.slice a1 n c1) ∧ w3.cell? ⟨w.heap.size, 2, none⟩ = some (.slice a2 V.length c2) ∧ w3.cell? ⟨w.heap.size + 1, 0, none⟩ = some (.slice e0 E.length d0) ∧ w3.cell? ⟨w.heap.size + 1, 1, none⟩ = some (.slice e1 m d1) ∧ w3.cell? ⟨w.heap.size + 1, 2, none⟩ = some (.slice e2 U.length d2)) := Lib.hid ⟨p0, p1, p2, q0, q1, q2⟩
  have tk1 : True := trivial
  go_region_held3 (fun w' => w'.cell? ⟨w.heap.size, 0, none⟩ = some (.slice a0 D.length c0) ∧ w'.cell? ⟨w.heap.size, 1, none⟩ = some (.slice a1 n c1) ∧ w'.cell? ⟨w.heap.size, 2, none⟩ = some (.slice a2 V.length c2) ∧ w'.cell? ⟨w.heap.size + 1, 0, none⟩ = some (.slice e0 E.length d0) ∧ w'.cell? ⟨w.heap.size + 1, 1, none⟩ = some (.slice e1 m d1) ∧ w'.cell? ⟨w.heap.size + 1, 2, none⟩ = some (.slice e2 U.length d2))
    (first | with_reducible exact HK6.out | with_reducible exact HK5.out | with_reducible exact HK4.out | exact HK3.out)
    (first | (go_at_call 17; have _t := tk1; clear tk1 _t; refine (toRiver_any a0 a1 a2 c0 c1 c2 n D M V _ (by first | with_reducible exact HA0.out.below HB3.out (Nat.le_refl _) | with_reducible exact (HA0.out.below HB3.out (Nat.le_refl _)).drewN 1 | exact HA0.out.below HB3.out.drew (Nat.le_refl _)) (by first | with_reducible exact HA1.out.below HB3.out (Nat.le_refl _) | with_reducible exact (HA1.out.below HB3.out (Nat.le_refl _)).drewN 1 | exact HA1.out.below HB3.out.drew (Nat.le_refl _)) (by first | with_reducible exact HA2.out.below HB3.out (Nat.le_refl _) | with_reducible exact (HA2.out.below HB3.out (Nat.le_refl _)).drewN 1 | exact HA2.out.below HB3.out.drew (Nat.le_refl _)) hlD hln hlV HM.out).mono ?_; rintro e w4 ⟨sa0, sc0, sa1, sc1, sa2, sc2, sL, rfl, hb, hr⟩; have hst : Below w3.heap.size w3 w4 := (by first | with_reducible exact hb | with_reducible exact (Below.refl _ _).drew.trans (hb.mono (le_drew _))); have P4 := Lib.hid (P3.out.below hst P3.out.1); have O4 := Lib.hid (O3.out.below hst O3.out.1); have HB4 : Hid (Below w.heap.size w w4) := Lib.hid (HB3.out.trans (hst.mono HB3.out.size)); have HK4 : Hid (w4.cell? ⟨w.heap.size, 0, none⟩ = some (.slice a0 D.length c0) ∧ w4.cell? ⟨w.heap.size, 1, none⟩ = some (.slice a1 n c1) ∧ w4.cell? ⟨w.heap.size, 2, none⟩ = some (.slice a2 V.length c2) ∧ w4.cell? ⟨w.heap.size + 1, 0, none⟩ = some (.slice e0 E.length d0) ∧ w4.cell? ⟨w.heap.size + 1, 1, none⟩ = some (.slice e1 m d1) ∧ w4.cell? ⟨w.heap.size + 1, 2, none⟩ = some (.slice e2 U.length d2)) := Lib.hid ⟨P4.out.c 0 rfl, P4.out.c 1 rfl, P4.out.c 2 rfl, O4.out.c 0 rfl, O4.out.c 1 rfl, O4.out.c 2 rfl⟩; have RS4 := Lib.hid hr; clear hr; clear hb hst) | (go_at_call 17; refine (toRiver_any e0 e1 e2 d0 d1 d2 m E N U _ (by first | with_reducible exact HE0.out.below HB4.out (Nat.le_refl _) | with_reducible exact (HE0.out.below HB4.out (Nat.le_refl _)).drewN 1 | exact HE0.out.below HB4.out.drew (Nat.le_refl _)) (by first | with_reducible exact HE1.out.below HB4.out (Nat.le_refl _) | with_reducible exact (HE1.out.below HB4.out (Nat.le_refl _)).drewN 1 | exact HE1.out.below HB4.out.drew (Nat.le_refl _)) (by first | with_reducible exact HE2.out.below HB4.out (Nat.le_refl _) | with_reducible exact (HE2.out.below HB4.out (Nat.le_refl _)).drewN 1 | exact HE2.out.below HB4.out.drew (Nat.le_refl _)) hlE hlm hlU HN.out).mono ?_; rintro e w5 ⟨ta0, tc0, ta1, tc1, ta2, tc2, tL, rfl, hb, hr⟩; have hst : Below w4.heap.size w4 w5 := (by first | with_reducible exact hb | with_reducible exact (Below.refl _ _).drew.trans (hb.mono (le_drew _))); have P5 := Lib.hid (P4.out.below hst P4.out.1); have O5 := Lib.hid (O4.out.below hst O4.out.1); have HB5 : Hid (Below w.heap.size w w5) := Lib.hid (HB4.out.trans (hst.mono HB4.out.size)); have HK5 : Hid (w5.cell? ⟨w.heap.size, 0, none⟩ = some (.slice a0 D.length c0) ∧ w5.cell? ⟨w.heap.size, 1, none⟩ = some (.slice a1 n c1) ∧ w5.cell? ⟨w.heap.size, 2, none⟩ = some (.slice a2 V.length c2) ∧ w5.cell? ⟨w.heap.size + 1, 0, none⟩ = some (.slice e0 E.length d0) ∧ w5.cell? ⟨w.heap.size + 1, 1, none⟩ = some (.slice e1 m d1) ∧ w5.cell? ⟨w.heap.size + 1, 2, none⟩ = some (.slice e2 U.length d2)) := Lib.hid ⟨P5.out.c 0 rfl, P5.out.c 1 rfl, P5.out.c 2 rfl, O5.out.c 0 rfl, O5.out.c 1 rfl, O5.out.c 2 rfl⟩; have RS5 := Lib.hid (RS4.out.below hst RS4.out.lh); have RT5 := Lib.hid hr; clear hr RS4; clear hb hst) | (go_at_call 20; refine (sameRiver_s sa0 sa1 sa2 ta0 ta1 ta2 sc0 sc1 sc2 tc0 tc1 tc2 n m D M V E N U _ RS5.out.r0.row RS5.out.r1.row RS5.out.r2.row RT5.out.r0.row RT5.out.r1.row RT5.out.r2.row HM.out HN.out hlD hln hlV hlE hlm hlU RS5.out.r1.cap RT5.out.r1.cap).mono ?_; rintro e w6 ⟨rfl, hb⟩; have hst : Below w5.heap.size w5 w6 := (by first | with_reducible exact hb | with_reducible exact (Below.refl _ _).drew.trans (hb.mono (le_drew _))); have P6 := Lib.hid (P5.out.below hst P5.out.1); have O6 := Lib.hid (O5.out.below hst O5.out.1); have HB6 : Hid (Below w.heap.size w w6) := Lib.hid (HB5.out.trans (hst.mono HB5.out.size)); have HK6 : Hid (w6.cell? ⟨w.heap.size, 0, none⟩ = some (.slice a0 D.length c0) ∧ w6.cell? ⟨w.heap.size, 1, none⟩ = some (.slice a1 n c1) ∧ w6.cell? ⟨w.heap.size, 2, none⟩ = some (.slice a2 V.length c2) ∧ w6.cell? ⟨w.heap.size + 1, 0, none⟩ = some (.slice e0 E.length d0) ∧ w6.cell? ⟨w.heap.size + 1, 1, none⟩ = some (.slice e1 m d1) ∧ w6.cell? ⟨w.heap.size + 1, 2, none⟩ = some (.slice e2 U.length d2)) := Lib.hid ⟨P6.out.c 0 rfl, P6.out.c 1 rfl, P6.out.c 2 rfl, O6.out.c 0 rfl, O6.out.c 1 rfl, O6.out.c 2 rfl⟩; clear RS5 RT5; clear hb hst))
  try clear HK3
  try clear HK4
  try clear HK5
  try clear HK6
  clear p0 p1 p2 q0 q1 q2
  have p0 := P6.out.c 0 rfl
  have q0 := O6.out.c 0 rfl
  have p1 := P6.out.c 1 rfl
  have q1 := O6.out.c 1 rfl
  have p2 := P6.out.c 2 rfl
  have q2 := O6.out.c 2 rfl
  go_wp2_with fail
  refine (toRiver_any a0 a1 a2 c0 c1 c2 n D M V _ (HA0.out.below HB6.out (Nat.le_refl _)) (HA1.out.below HB6.out (Nat.le_refl _)) (HA2.out.below HB6.out (Nat.le_refl _)) hlD hln hlV HM.out).mono ?_
  rintro e w7 ⟨xa0, xc0, xa1, xc1, xa2, xc2, xL, rfl, hb, hr⟩
  clear p0 p1 p2 q0 q1 q2
  have P7 := Lib.hid (P6.out.below hb P6.out.1)
  have O7 := Lib.hid (O6.out.below hb O6.out.1)
  have HB7 : Hid (Below w.heap.size w _) := Lib.hid (HB6.out.trans (hb.mono HB6.out.size))
  clear P6 O6 HB6
  have RX7 := Lib.hid hr
  clear hr
  clear hb
  have p0 := P7.out.c 0 rfl
  have q0 := O7.out.c 0 rfl
  have p1 := P7.out.c 1 rfl
  have q1 := O7.out.c 1 rfl
  have p2 := P7.out.c 2 rfl
  have q2 := O7.out.c 2 rfl
  clear p0 p1 p2 q0 q1 q2
  have P7b := Lib.hid (P7.out.alloc (.cells #[.slice xa0 D.length xc0, .slice xa1 n xc1, .slice xa2 V.length xc2] 30))
  have O7b := Lib.hid (O7.out.alloc (.cells #[.slice xa0 D.length xc0, .slice xa1 n xc1, .slice xa2 V.length xc2] 30))
  have X7 := Lib.hid (Bx.new w7 [.slice xa0 D.length xc0, .slice xa1 n xc1, .slice xa2 V.length xc2] 30)
  have HB7b : Hid (Below w.heap.size w (w7.alloc (.cells #[.slice xa0 D.length xc0, .slice xa1 n xc1, .slice xa2 V.length xc2] 30))) := Lib.hid (HB7.out.alloc HB7.out.size _)
  have RX7b := Lib.hid (RX7.out.alloc (.cells #[.slice xa0 D.length xc0, .slice xa1 n xc1, .slice xa2 V.length xc2] 30))
  clear P7 O7 HB7 RX7
  have p0 := P7b.out.c 0 rfl
  have q0 := O7b.out.c 0 rfl
  have p1 := P7b.out.c 1 rfl
  have q1 := O7b.out.c 1 rfl
  have p2 := P7b.out.c 2 rfl
  have q2 := O7b.out.c 2 rfl
  go_wp2_with fail
  refine (toRiver_any e0 e1 e2 d0 d1 d2 m E N U _ (HE0.out.below HB7b.out (Nat.le_refl _)) (HE1.out.below HB7b.out (Nat.le_refl _)) (HE2.out.below HB7b.out (Nat.le_refl _)) hlE hlm hlU HN.out).mono ?_
  rintro e w8 ⟨ya0, yc0, ya1, yc1, ya2, yc2, yL, rfl, hb, hr⟩
  clear p0 p1 p2 q0 q1 q2
  have P8 := Lib.hid (P7b.out.below hb P7b.out.1)
  have O8 := Lib.hid (O7b.out.below hb O7b.out.1)
  have X8 := Lib.hid (X7.out.below hb X7.out.1)
  have HB8 : Hid (Below w.heap.size w w8) := Lib.hid (HB7b.out.trans (hb.mono HB7b.out.size))
  have RX8 := Lib.hid (RX7b.out.below hb RX7b.out.lh)
  have RY8 := Lib.hid hr
  clear P7b O7b X7 HB7b RX7b hb hr
  have P9 := Lib.hid (P8.out.alloc (.cells #[.slice ya0 E.length yc0, .slice ya1 m yc1, .slice ya2 U.length yc2] 30))
  have O9 := Lib.hid (O8.out.alloc (.cells #[.slice ya0 E.length yc0, .slice ya1 m yc1, .slice ya2 U.length yc2] 30))
  have X9 := Lib.hid (X8.out.alloc (.cells #[.slice ya0 E.length yc0, .slice ya1 m yc1, .slice ya2 U.length yc2] 30))
  have Y9 := Lib.hid (Bx.new w8 [.slice ya0 E.length yc0, .slice ya1 m yc1, .slice ya2 U.length yc2] 30)
  have HB9 : Hid (Below w.heap.size w (w8.alloc (.cells #[.slice ya0 E.length yc0, .slice ya1 m yc1, .slice ya2 U.length yc2] 30))) := Lib.hid (HB8.out.alloc HB8.out.size _)
  have RX9 := Lib.hid (RX8.out.alloc (.cells #[.slice ya0 E.length yc0, .slice ya1 m yc1, .slice ya2 U.length yc2] 30))
  have RY9 := Lib.hid (RY8.out.alloc (.cells #[.slice ya0 E.length yc0, .slice ya1 m yc1, .slice ya2 U.length yc2] 30))
  clear P8 O8 X8 HB8 RX8 RY8
  have p0 := P9.out.c 0 rfl
  have q0 := O9.out.c 0 rfl
  have p1 := P9.out.c 1 rfl
  have q1 := O9.out.c 1 rfl
  have p2 := P9.out.c 2 rfl
  have q2 := O9.out.c 2 rfl
  have x0 := X9.out.c 0 rfl
  have x1 := X9.out.c 1 rfl
  have x2 := X9.out.c 2 rfl
  have y0 := Y9.out.c 0 rfl
  have y1 := Y9.out.c 1 rfl
  have y2 := Y9.out.c 2 rfl
  go_wp2_with fail
  refine (sameRiver_i xa0 xa1 xa2 ya0 ya1 ya2 xc0 xc1 xc2 yc0 yc1 yc2 n m D M V E N U _ RX9.out.r0.row RX9.out.r1.row RX9.out.r2.row RY9.out.r0.row RY9.out.r1.row RY9.out.r2.row HM.out HN.out hlD hln hlV hlE hlm hlU RX9.out.r1.cap RY9.out.r1.cap).mono ?_
  rintro e w10 ⟨rfl, hb⟩
  clear p0 p1 p2 q0 q1 q2
  clear x0 x1 x2 y0 y1 y2
  have P10 := Lib.hid (P9.out.below hb P9.out.1)
  have O10 := Lib.hid (O9.out.below hb O9.out.1)
  have X10 := Lib.hid (X9.out.below hb X9.out.1)
  have Y10 := Lib.hid (Y9.out.below hb Y9.out.1)
  have HB10 : Hid (Below w.heap.size w w10) := Lib.hid (HB9.out.trans (hb.mono HB9.out.size))
  have RX10 := Lib.hid (RX9.out.below hb RX9.out.lh)
  have RY10 := Lib.hid (RY9.out.below hb RY9.out.lh)
  clear P9 O9 X9 Y9 HB9 RX9 RY9 hb
  have p0 := P10.out.c 0 rfl
  have q0 := O10.out.c 0 rfl
  have p1 := P10.out.c 1 rfl
  have q1 := O10.out.c 1 rfl
  have p2 := P10.out.c 2 rfl
  have q2 := O10.out.c 2 rfl
  have x0 := X10.out.c 0 rfl
  have x1 := X10.out.c 1 rfl
  have x2 := X10.out.c 2 rfl
  have y0 := Y10.out.c 0 rfl
  have y1 := Y10.out.c 1 rfl
  have y2 := Y10.out.c 2 rfl
  rw [HV.out]
  go_wp2_with fail
  have HK10 : Hid (w10.cell? ⟨w.heap.size, 0, none⟩ = some (.slice a0 D.length c0) ∧ w10.cell? ⟨w.heap.size, 1, none⟩ = some (.slice a1 n c1) ∧ w10.cell? ⟨w.heap.size, 2, none⟩ = some (.slice a2 V.length c2) ∧ w10.cell? ⟨w7.heap.size, 0, none⟩ = some (.slice xa0 D.length xc0) ∧ w10.cell? ⟨w7.heap.size, 1, none⟩ = some (.slice xa1 n xc1) ∧ w10.cell? ⟨w7.heap.size, 2, none⟩ = some (.slice xa2 V.length xc2)) := Lib.hid ⟨P10.out.c 0 rfl, P10.out.c 1 rfl, P10.out.c 2 rfl, X10.out.c 0 rfl, X10.out.c 1 rfl, X10.out.c 2 rfl⟩
  go_region_held3 (fun w' => w'.cell? ⟨w.heap.size, 0, none⟩ = some (.slice a0 D.length c0) ∧ w'.cell? ⟨w.heap.size, 1, none⟩ = some (.slice a1 n c1) ∧ w'.cell? ⟨w.heap.size, 2, none⟩ = some (.slice a2 V.length c2) ∧ w'.cell? ⟨w7.heap.size, 0, none⟩ = some (.slice xa0 D.length xc0) ∧ w'.cell? ⟨w7.heap.size, 1, none⟩ = some (.slice xa1 n xc1) ∧ w'.cell? ⟨w7.heap.size, 2, none⟩ = some (.slice xa2 V.length xc2))
    (first | with_reducible exact HK12.out | with_reducible exact HK11.out | exact HK10.out)
    (first | (go_at_call 17; refine (toRiver_any a0 a1 a2 c0 c1 c2 n D M V _ (by first | with_reducible exact HA0.out.below HB10.out (Nat.le_refl _) | with_reducible exact (HA0.out.below HB10.out (Nat.le_refl _)).drewN 1 | exact HA0.out.below HB10.out.drew (Nat.le_refl _)) (by first | with_reducible exact HA1.out.below HB10.out (Nat.le_refl _) | with_reducible exact (HA1.out.below HB10.out (Nat.le_refl _)).drewN 1 | exact HA1.out.below HB10.out.drew (Nat.le_refl _)) (by first | with_reducible exact HA2.out.below HB10.out (Nat.le_refl _) | with_reducible exact (HA2.out.below HB10.out (Nat.le_refl _)).drewN 1 | exact HA2.out.below HB10.out.drew (Nat.le_refl _)) hlD hln hlV HM.out).mono ?_; rintro e w11 ⟨za0, zc0, za1, zc1, za2, zc2, zL, rfl, hb, hr⟩; have hst : Below w10.heap.size w10 w11 := (by first | with_reducible exact hb | with_reducible exact (Below.refl _ _).drew.trans (hb.mono (le_drew _))); have P11 := Lib.hid (P10.out.below hst P10.out.1); have O11 := Lib.hid (O10.out.below hst O10.out.1); have X11 := Lib.hid (X10.out.below hst X10.out.1); have Y11 := Lib.hid (Y10.out.below hst Y10.out.1); have HB11 : Hid (Below w.heap.size w w11) := Lib.hid (HB10.out.trans (hst.mono HB10.out.size)); have RX11 := Lib.hid (RX10.out.below hst RX10.out.lh); have RY11 := Lib.hid (RY10.out.below hst RY10.out.lh); have HK11 : Hid (w11.cell? ⟨w.heap.size, 0, none⟩ = some (.slice a0 D.length c0) ∧ w11.cell? ⟨w.heap.size, 1, none⟩ = some (.slice a1 n c1) ∧ w11.cell? ⟨w.heap.size, 2, none⟩ = some (.slice a2 V.length c2) ∧ w11.cell? ⟨w7.heap.size, 0, none⟩ = some (.slice xa0 D.length xc0) ∧ w11.cell? ⟨w7.heap.size, 1, none⟩ = some (.slice xa1 n xc1) ∧ w11.cell? ⟨w7.heap.size, 2, none⟩ = some (.slice xa2 V.length xc2)) := Lib.hid ⟨P11.out.c 0 rfl, P11.out.c 1 rfl, P11.out.c 2 rfl, X11.out.c 0 rfl, X11.out.c 1 rfl, X11.out.c 2 rfl⟩; have RZ11 := Lib.hid hr; clear hr; clear hb hst) | (go_at_call 19; refine (eqRiver_any xa0 xa1 xa2 za0 za1 za2 xc0 xc1 xc2 zc0 zc1 zc2 n D M V _ RX11.out.r0.row RX11.out.r1.row RX11.out.r2.row hlD hln hlV HM.out RZ11.out.r0.row RZ11.out.r1.row RZ11.out.r2.row).mono ?_; rintro e w12 ⟨rfl, hb⟩; have hst : Below w11.heap.size w11 w12 := (by first | with_reducible exact hb | with_reducible exact (Below.refl _ _).drew.trans (hb.mono (le_drew _))); have P12 := Lib.hid (P11.out.below hst P11.out.1); have O12 := Lib.hid (O11.out.below hst O11.out.1); have X12 := Lib.hid (X11.out.below hst X11.out.1); have Y12 := Lib.hid (Y11.out.below hst Y11.out.1); have HB12 : Hid (Below w.heap.size w w12) := Lib.hid (HB11.out.trans (hst.mono HB11.out.size)); have RX12 := Lib.hid (RX11.out.below hst RX11.out.lh); have RY12 := Lib.hid (RY11.out.below hst RY11.out.lh); have HK12 : Hid (w12.cell? ⟨w.heap.size, 0, none⟩ = some (.slice a0 D.length c0) ∧ w12.cell? ⟨w.heap.size, 1, none⟩ = some (.slice a1 n c1) ∧ w12.cell? ⟨w.heap.size, 2, none⟩ = some (.slice a2 V.length c2) ∧ w12.cell? ⟨w7.heap.size, 0, none⟩ = some (.slice xa0 D.length xc0) ∧ w12.cell? ⟨w7.heap.size, 1, none⟩ = some (.slice xa1 n xc1) ∧ w12.cell? ⟨w7.heap.size, 2, none⟩ = some (.slice xa2 V.length xc2)) := Lib.hid ⟨P12.out.c 0 rfl, P12.out.c 1 rfl, P12.out.c 2 rfl, X12.out.c 0 rfl, X12.out.c 1 rfl, X12.out.c 2 rfl⟩; clear RZ11; clear hb hst))
  try clear HK10
  try clear HK11
  try clear HK12
  clear p0 p1 p2 q0 q1 q2
  clear x0 x1 x2 y0 y1 y2
  have p0 := P12.out.c 0 rfl
  have q0 := O12.out.c 0 rfl
  have p1 := P12.out.c 1 rfl
  have q1 := O12.out.c 1 rfl
  have p2 := P12.out.c 2 rfl
  have q2 := O12.out.c 2 rfl
  have x0 := X12.out.c 0 rfl
  have x1 := X12.out.c 1 rfl
  have x2 := X12.out.c 2 rfl
  have y0 := Y12.out.c 0 rfl
  have y1 := Y12.out.c 1 rfl
  have y2 := Y12.out.c 2 rfl
  go_wp2_with fail
  have HK12 : Hid (w12.cell? ⟨w.heap.size + 1, 0, none⟩ = some (.slice e0 E.length d0) ∧ w12.cell? ⟨w.heap.size + 1, 1, none⟩ = some (.slice e1 m d1) ∧ w12.cell? ⟨w.heap.size + 1, 2, none⟩ = some (.slice e2 U.length d2) ∧ w12.cell? ⟨w8.heap.size, 0, none⟩ = some (.slice ya0 E.length yc0) ∧ w12.cell? ⟨w8.heap.size, 1, none⟩ = some (.slice ya1 m yc1) ∧ w12.cell? ⟨w8.heap.size, 2, none⟩ = some (.slice ya2 U.length yc2)) := Lib.hid ⟨O12.out.c 0 rfl, O12.out.c 1 rfl, O12.out.c 2 rfl, Y12.out.c 0 rfl, Y12.out.c 1 rfl, Y12.out.c 2 rfl⟩
  go_region_held3 (fun w' => w'.cell? ⟨w.heap.size + 1, 0, none⟩ = some (.slice e0 E.length d0) ∧ w'.cell? ⟨w.heap.size + 1, 1, none⟩ = some (.slice e1 m d1) ∧ w'.cell? ⟨w.heap.size + 1, 2, none⟩ = some (.slice e2 U.length d2) ∧ w'.cell? ⟨w8.heap.size, 0, none⟩ = some (.slice ya0 E.length yc0) ∧ w'.cell? ⟨w8.heap.size, 1, none⟩ = some (.slice ya1 m yc1) ∧ w'.cell? ⟨w8.heap.size, 2, none⟩ = some (.slice ya2 U.length yc2))
    (first | with_reducible exact HK14.out | with_reducible exact HK13.out | exact HK12.out)
    (first | (go_at_call 17; refine (toRiver_any e0 e1 e2 d0 d1 d2 m E N U _ (by first | with_reducible exact HE0.out.below HB12.out (Nat.le_refl _) | with_reducible exact (HE0.out.below HB12.out (Nat.le_refl _)).drewN 1 | exact HE0.out.below HB12.out.drew (Nat.le_refl _)) (by first | with_reducible exact HE1.out.below HB12.out (Nat.le_refl _) | with_reducible exact (HE1.out.below HB12.out (Nat.le_refl _)).drewN 1 | exact HE1.out.below HB12.out.drew (Nat.le_refl _)) (by first | with_reducible exact HE2.out.below HB12.out (Nat.le_refl _) | with_reducible exact (HE2.out.below HB12.out (Nat.le_refl _)).drewN 1 | exact HE2.out.below HB12.out.drew (Nat.le_refl _)) hlE hlm hlU HN.out).mono ?_; rintro e w13 ⟨za0, zc0, za1, zc1, za2, zc2, zL, rfl, hb, hr⟩; have hst : Below w12.heap.size w12 w13 := (by first | with_reducible exact hb | with_reducible exact (Below.refl _ _).drew.trans (hb.mono (le_drew _))); have P13 := Lib.hid (P12.out.below hst P12.out.1); have O13 := Lib.hid (O12.out.below hst O12.out.1); have X13 := Lib.hid (X12.out.below hst X12.out.1); have Y13 := Lib.hid (Y12.out.below hst Y12.out.1); have HB13 : Hid (Below w.heap.size w w13) := Lib.hid (HB12.out.trans (hst.mono HB12.out.size)); have RX13 := Lib.hid (RX12.out.below hst RX12.out.lh); have RY13 := Lib.hid (RY12.out.below hst RY12.out.lh); have HK13 : Hid (w13.cell? ⟨w.heap.size + 1, 0, none⟩ = some (.slice e0 E.length d0) ∧ w13.cell? ⟨w.heap.size + 1, 1, none⟩ = some (.slice e1 m d1) ∧ w13.cell? ⟨w.heap.size + 1, 2, none⟩ = some (.slice e2 U.length d2) ∧ w13.cell? ⟨w8.heap.size, 0, none⟩ = some (.slice ya0 E.length yc0) ∧ w13.cell? ⟨w8.heap.size, 1, none⟩ = some (.slice ya1 m yc1) ∧ w13.cell? ⟨w8.heap.size, 2, none⟩ = some (.slice ya2 U.length yc2)) := Lib.hid ⟨O13.out.c 0 rfl, O13.out.c 1 rfl, O13.out.c 2 rfl, Y13.out.c 0 rfl, Y13.out.c 1 rfl, Y13.out.c 2 rfl⟩; have RZ13 := Lib.hid hr; clear hr; clear hb hst) | (go_at_call 19; refine (eqRiver_any ya0 ya1 ya2 za0 za1 za2 yc0 yc1 yc2 zc0 zc1 zc2 m E N U _ RY13.out.r0.row RY13.out.r1.row RY13.out.r2.row hlE hlm hlU HN.out RZ13.out.r0.row RZ13.out.r1.row RZ13.out.r2.row).mono ?_; rintro e w14 ⟨rfl, hb⟩; have hst : Below w13.heap.size w13 w14 := (by first | with_reducible exact hb | with_reducible exact (Below.refl _ _).drew.trans (hb.mono (le_drew _))); have P14 := Lib.hid (P13.out.below hst P13.out.1); have O14 := Lib.hid (O13.out.below hst O13.out.1); have X14 := Lib.hid (X13.out.below hst X13.out.1); have Y14 := Lib.hid (Y13.out.below hst Y13.out.1); have HB14 : Hid (Below w.heap.size w w14) := Lib.hid (HB13.out.trans (hst.mono HB13.out.size)); have RX14 := Lib.hid (RX13.out.below hst RX13.out.lh); have RY14 := Lib.hid (RY13.out.below hst RY13.out.lh); have HK14 : Hid (w14.cell? ⟨w.heap.size + 1, 0, none⟩ = some (.slice e0 E.length d0) ∧ w14.cell? ⟨w.heap.size + 1, 1, none⟩ = some (.slice e1 m d1) ∧ w14.cell? ⟨w.heap.size + 1, 2, none⟩ = some (.slice e2 U.length d2) ∧ w14.cell? ⟨w8.heap.size, 0, none⟩ = some (.slice ya0 E.length yc0) ∧ w14.cell? ⟨w8.heap.size, 1, none⟩ = some (.slice ya1 m yc1) ∧ w14.cell? ⟨w8.heap.size, 2, none⟩ = some (.slice ya2 U.length yc2)) := Lib.hid ⟨O14.out.c 0 rfl, O14.out.c 1 rfl, O14.out.c 2 rfl, Y14.out.c 0 rfl, Y14.out.c 1 rfl, Y14.out.c 2 rfl⟩; clear RZ13; clear hb hst))
  try clear HK12
  try clear HK13
  try clear HK14
  clear p0 p1 p2 q0 q1 q2
  clear x0 x1 x2 y0 y1 y2
  have p0 := P14.out.c 0 rfl
  have q0 := O14.out.c 0 rfl
  have p1 := P14.out.c 1 rfl
  have q1 := O14.out.c 1 rfl
  have p2 := P14.out.c 2 rfl
  have q2 := O14.out.c 2 rfl
  have x0 := X14.out.c 0 rfl
  have x1 := X14.out.c 1 rfl
  have x2 := X14.out.c 2 rfl
  have y0 := Y14.out.c 0 rfl
  have y1 := Y14.out.c 1 rfl
  have y2 := Y14.out.c 2 rfl
  go_wp2_with fail
  go_ret
  exact ⟨rfl, HB14.out⟩
  
set_option maxHeartbeats 4000000 in
theorem sameRiverLaw_not (a0 a1 a2 e0 e1 e2 : Option Addr) (c0 c1 c2 d0 d1 d2 n m : Nat) (D M V E N U : List Int) (w : World) (ha0 : RowC w a0 (ic D)) (ha1 : RowC w a1 (ic M)) (ha2 : RowC w a2 (ic V)) (he0 : RowC w e0 (ic E)) (he1 : RowC w e1 (ic N)) (he2 : RowC w e2 (ic U)) (hM : M.length = n * 4) (hN : N.length = m * 4) (hmx : D.length ≤ maxLen ∧ n ≤ maxLen ∧ V.length ≤ maxLen ∧ E.length ≤ maxLen ∧ m ≤ maxLen ∧ U.length ≤ maxLen) (h : ¬ ((D.length : Int) + (n : Int) + (V.length : Int) ≤ 1048576 ∧ (E.length : Int) + (m : Int) + (U.length : Int) ≤ 1048576 - ((D.length : Int) + (n : Int) + (V.length : Int)))) :
    Calls Try.prog 4 #[.agg #[.slice a0 D.length c0, .slice a1 n c1, .slice a2 V.length c2], .agg #[.slice e0 E.length d0, .slice e1 m d1, .slice e2 U.length d2]] w fun e w' => e = .returned (.bool true) ∧ Below w.heap.size w w' := by
  unfold maxLen at hmx
  clear hM hN
  by_cases h1 : (D.length : Int) + (n : Int) + (V.length : Int) ≤ 1048576
  · have g1 : ¬ (1048576 : Int) - (D.length : Int) - (n : Int) - (V.length : Int) < 0 := by omega
    have hneg : ((-1 : Int) < 0) := by decide
    have HA0 := Lib.hid ha0
    have HA1 := Lib.hid ha1
    have HA2 := Lib.hid ha2
    have HE0 := Lib.hid he0
    have HE1 := Lib.hid he1
    have HE2 := Lib.hid he2
    clear ha0 ha1 ha2 he0 he1 he2
    obtain ⟨W1, hW1⟩ : ∃ W, ((w.alloc (.cells #[.slice a0 D.length c0, .slice a1 n c1, .slice a2 V.length c2] 25)).alloc (.cells #[.slice e0 E.length d0, .slice e1 m d1, .slice e2 U.length d2] 25)) = W := ⟨_, rfl⟩
    have P1 : Hid (Bx W1 w.heap.size [.slice a0 D.length c0, .slice a1 n c1, .slice a2 V.length c2]) := Lib.hid (by rw [← hW1]; exact (Bx.new w [.slice a0 D.length c0, .slice a1 n c1, .slice a2 V.length c2] _).alloc _)
    have O1 : Hid (Bx W1 (w.heap.size + 1) [.slice e0 E.length d0, .slice e1 m d1, .slice e2 U.length d2]) := Lib.hid (by rw [← hW1]; exact Bx.new1G w _ [.slice e0 E.length d0, .slice e1 m d1, .slice e2 U.length d2] _)
    have HB1 : Hid (Below w.heap.size w W1) := Lib.hid (by rw [← hW1]; exact below2 w _ _)
    have HW1 := Lib.hid hW1
    clear hW1
    have p0 := P1.out.c 0 rfl
    have q0 := O1.out.c 0 rfl
    have p1 := P1.out.c 1 rfl
    have q1 := O1.out.c 1 rfl
    have p2 := P1.out.c 2 rfl
    have q2 := O1.out.c 2 rfl
    go_enter Try.func4, Try.ntmps4
    go_upto_region 1 with fail
    rw [HW1.out]
    clear HW1
    go_wp2_with fail
    refine (szRiver_fits a0 a1 a2 D.length n V.length c0 c1 c2 1048576 (by omega) (by omega) _).mono ?_
    rintro e w2 ⟨rfl, hb⟩
    clear p0 p1 p2 q0 q1 q2
    have P2 := Lib.hid (P1.out.below hb P1.out.1)
    have O2 := Lib.hid (O1.out.below hb O1.out.1)
    have HB2 : Hid (Below w.heap.size w _) := Lib.hid (HB1.out.trans (hb.mono HB1.out.size))
    clear P1 O1 HB1
    clear hb
    have p0 := P2.out.c 0 rfl
    have q0 := O2.out.c 0 rfl
    have p1 := P2.out.c 1 rfl
    have q1 := O2.out.c 1 rfl
    have p2 := P2.out.c 2 rfl
    have q2 := O2.out.c 2 rfl
    go_wp2_with fail
    refine (szRiver_not e0 e1 e2 E.length m U.length d0 d1 d2 _ (by omega) (by omega) (by omega) (by omega) (by omega) (by omega) _).mono ?_
    rintro e w3 ⟨rfl, hb⟩
    clear p0 p1 p2 q0 q1 q2
    have P3 := Lib.hid (P2.out.below hb P2.out.1)
    have O3 := Lib.hid (O2.out.below hb O2.out.1)
    have HB3 : Hid (Below w.heap.size w _) := Lib.hid (HB2.out.trans (hb.mono HB2.out.size))
    clear P2 O2 HB2
    clear hb
    have p0 := P3.out.c 0 rfl
    have q0 := O3.out.c 0 rfl
    have p1 := P3.out.c 1 rfl
    have q1 := O3.out.c 1 rfl
    have p2 := P3.out.c 2 rfl
    have q2 := O3.out.c 2 rfl
    go_wp2_with fail
    go_ret
    exact ⟨rfl, HB3.out⟩
  · have hneg : ((-1 : Int) < 0) := by decide
    have HA0 := Lib.hid ha0
    have HA1 := Lib.hid ha1
    have HA2 := Lib.hid ha2
    have HE0 := Lib.hid he0
    have HE1 := Lib.hid he1
    have HE2 := Lib.hid he2
    clear ha0 ha1 ha2 he0 he1 he2
    obtain ⟨W1, hW1⟩ : ∃ W, ((w.alloc (.cells #[.slice a0 D.length c0, .slice a1 n c1, .slice a2 V.length c2] 25)).alloc (.cells #[.slice e0 E.length d0, .slice e1 m d1, .slice e2 U.length d2] 25)) = W := ⟨_, rfl⟩
    have P1 : Hid (Bx W1 w.heap.size [.slice a0 D.length c0, .slice a1 n c1, .slice a2 V.length c2]) := Lib.hid (by rw [← hW1]; exact (Bx.new w [.slice a0 D.length c0, .slice a1 n c1, .slice a2 V.length c2] _).alloc _)
    have O1 : Hid (Bx W1 (w.heap.size + 1) [.slice e0 E.length d0, .slice e1 m d1, .slice e2 U.length d2]) := Lib.hid (by rw [← hW1]; exact Bx.new1G w _ [.slice e0 E.length d0, .slice e1 m d1, .slice e2 U.length d2] _)
    have HB1 : Hid (Below w.heap.size w W1) := Lib.hid (by rw [← hW1]; exact below2 w _ _)
    have HW1 := Lib.hid hW1
    clear hW1
    have p0 := P1.out.c 0 rfl
    have q0 := O1.out.c 0 rfl
    have p1 := P1.out.c 1 rfl
    have q1 := O1.out.c 1 rfl
    have p2 := P1.out.c 2 rfl
    have q2 := O1.out.c 2 rfl
    go_enter Try.func4, Try.ntmps4
    go_upto_region 1 with fail
    rw [HW1.out]
    clear HW1
    go_wp2_with fail
    refine (szRiver_not a0 a1 a2 D.length n V.length c0 c1 c2 _ (by omega) (by omega) (by omega) (by omega) (by omega) (by omega) _).mono ?_
    rintro e w2 ⟨rfl, hb⟩
    clear p0 p1 p2 q0 q1 q2
    have P2 := Lib.hid (P1.out.below hb P1.out.1)
    have O2 := Lib.hid (O1.out.below hb O1.out.1)
    have HB2 : Hid (Below w.heap.size w _) := Lib.hid (HB1.out.trans (hb.mono HB1.out.size))
    clear P1 O1 HB1
    clear hb
    have p0 := P2.out.c 0 rfl
    have q0 := O2.out.c 0 rfl
    have p1 := P2.out.c 1 rfl
    have q1 := O2.out.c 1 rfl
    have p2 := P2.out.c 2 rfl
    have q2 := O2.out.c 2 rfl
    go_wp2_with fail
    go_ret
    exact ⟨rfl, HB2.out⟩
  
theorem walk_FnExactSameRiver (a0 a1 a2 : Option Addr) (l0 n l2 c0 c1 c2 : Nat) (D M V : List Int) (e0 e1 e2 : Option Addr) (k0 m k2 d0 d1 d2 : Nat) (E N U : List Int) (w : World) (ha : IsRiv w a0 a1 a2 l0 n l2 c0 c1 c2 D M V) (he : IsRiv w e0 e1 e2 k0 m k2 d0 d1 d2 E N U) :
    Calls Try.prog 4 #[.agg #[.slice a0 l0 c0, .slice a1 n c1, .slice a2 l2 c2], .agg #[.slice e0 k0 d0, .slice e1 m d1, .slice e2 k2 d2]] w fun e w' => e = .returned (.bool true) ∧ Below w.heap.size w w' := by
  obtain ⟨⟨hl0, hc0, hx0, hr0, _⟩, ⟨hl1, hc1, hx1, hr1, _⟩, ⟨hl2, hc2, hx2, hr2, _⟩⟩ := ha
  obtain ⟨⟨gl0, gc0, gx0, gr0, _⟩, ⟨gl1, gc1, gx1, gr1, _⟩, ⟨gl2, gc2, gx2, gr2, _⟩⟩ := he
  rw [Nat.mul_one] at hl0 hl2 gl0 gl2
  subst hl0; subst hl2; subst gl0; subst gl2
  by_cases h : (D.length : Int) + (n : Int) + (V.length : Int) ≤ 1048576 ∧ (E.length : Int) + (m : Int) + (U.length : Int) ≤ 1048576 - ((D.length : Int) + (n : Int) + (V.length : Int))
  · exact sameRiverLaw_fits a0 a1 a2 e0 e1 e2 c0 c1 c2 d0 d1 d2 n m D M V E N U w hr0 hr1 hr2 gr0 gr1 gr2 hl1 gl1 h.1 h.2
  · exact sameRiverLaw_not a0 a1 a2 e0 e1 e2 c0 c1 c2 d0 d1 d2 n m D M V E N U w hr0 hr1 hr2 gr0 gr1 gr2 hl1 gl1 ⟨by omega, by omega, by omega, by omega, by omega, by omega⟩ h
end Go.Proofs.Ytljehplkdofhpaa
