/- The walk of the law on MeetingOf. -/
import Derived.Test.YtnmmhaadkclogaaMeetR
import Derived.Test.YtnmmhaadkclogaaRivO
namespace Go.Proofs.Ytnmmhaadkclogaa
open Go.RowKit
set_option linter.unusedVariables false
set_option linter.unusedSimpArgs false
set_option maxRecDepth 100000
attribute [local irreducible] wpV wpList Code.wp

set_option maxHeartbeats 16000000 in
theorem meetingOfLaw_fits (a0 a1 a2 : Option Addr) (c0 c1 c2 n : Nat) (D M V : List Int) (x : Int) (y : Int) (w : World) (ha0 : RowC w a0 (ic D)) (ha1 : RowC w a1 (ic M)) (ha2 : RowC w a2 (ic V)) (hM : M.length = n * 4) (hwx : (Lit.int .i64 x).wf = true) (hwy : (Lit.int .i64 y).wf = true) (hc : D.length ≤ c0 ∧ n ≤ c1 ∧ V.length ≤ c2) (h1 : (D.length : Int) + (n : Int) + (V.length : Int) ≤ 1048576) :
    Calls Try.prog 11 #[.agg #[.slice a0 D.length c0, .slice a1 n c1, .slice a2 V.length c2], .int .i64 x, .int .i64 y] w fun e w' => e = .returned (.bool true) ∧ Below w.heap.size w w' := by
  have hlD : D.length ≤ 1048576 := by omega
  have hln : n ≤ 1048576 := by omega
  have hlV : V.length ≤ 1048576 := by omega
  have g1 : ¬ (1048576 : Int) - (D.length : Int) - (n : Int) - (V.length : Int) < 0 := by omega
  have HM := Lib.hid hM
  have HCp := Lib.hid hc
  clear hM hc
  obtain ⟨⟨Z, B⟩, hR⟩ : ∃ R, meetR D M V n x y = R := ⟨_, rfl⟩
  have HS : Hid (∀ (b0 b1 b2 : Option Addr) (d0 d1 d2 : Nat) (W : World), RowC W b0 (ic D) → RowC W b1 (ic M) → RowC W b2 (ic V) → Calls Try.prog 40 #[.agg #[.slice b0 D.length d0, .slice b1 n d1, .slice b2 V.length d2], .int .i64 x, .int .i64 y] W (fun e w' => e = .returned (.tuple #[.int .i64 Z, .bool B]) ∧ Below W.heap.size W w')) := Lib.hid fun b0 b1 b2 d0 d1 d2 W k0 k1 k2 => by
    have h9 := meetingOf_s b0 b1 b2 D.length n V.length d0 d1 d2 D M V x y W hwx hwy k0 k1 k2 rfl HM.out rfl ⟨hlD, hln, hlV⟩
    rw [hR] at h9
    exact h9
  have HI : Hid (∀ (b0 b1 b2 : Option Addr) (d0 d1 d2 : Nat) (W : World), RowC W b0 (ic D) → RowC W b1 (ic M) → RowC W b2 (ic V) → Calls Try.prog 41 #[.agg #[.slice b0 D.length d0, .slice b1 n d1, .slice b2 V.length d2], .int .i64 x, .int .i64 y] W (fun e w' => e = .returned (.tuple #[.int .i64 Z, .bool B]) ∧ Below W.heap.size W w')) := Lib.hid fun b0 b1 b2 d0 d1 d2 W k0 k1 k2 => by
    have h9 := meetingOf_i b0 b1 b2 D.length n V.length d0 d1 d2 D M V x y W hwx hwy k0 k1 k2 rfl HM.out rfl ⟨hlD, hln, hlV⟩
    rw [hR] at h9
    exact h9
  clear hR hwx hwy
  have HA0 := Lib.hid ha0
  have HA1 := Lib.hid ha1
  have HA2 := Lib.hid ha2
  clear ha0 ha1 ha2
  cases B
  all_goals
    have Bel_0 : Hid (Below w.heap.size w w) := Lib.hid (Below.refl w.heap.size w)
    have Bel_1 : Hid (Below w.heap.size w (w.alloc (.cells #[.slice a0 D.length c0, .slice a1 n c1, .slice a2 V.length c2] 25))) := Lib.hid (Bel_0.out.alloc Bel_0.out.size _)
    clear Bel_0
    have BA_0 : Hid (Bx (w.alloc (.cells #[.slice a0 D.length c0, .slice a1 n c1, .slice a2 V.length c2] 25)) (w.heap.size) [.slice a0 D.length c0, .slice a1 n c1, .slice a2 V.length c2]) := Lib.hid (Bx.new w [.slice a0 D.length c0, .slice a1 n c1, .slice a2 V.length c2] 25)
    go_enter Try.func11, Try.ntmps11
    have cBA0 := BA_0.out.c 0 rfl
    have cBA1 := BA_0.out.c 1 rfl
    have cBA2 := BA_0.out.c 2 rfl
    go_wp2_with fail
    refine (szRiver_fits a0 a1 a2 D.length n V.length c0 c1 c2 1048576 (by omega) (by omega) _).mono ?_
    rintro e w1 ⟨rfl, hb⟩
    clear cBA0 cBA1 cBA2
    have z1 : w.heap.size + 1 ≤ w1.heap.size := (by have := hb.size; (try simp at this); omega)
    have Bel_2 : Hid (Below w.heap.size w w1) := Lib.hid (Bel_1.out.trans (hb.mono Bel_1.out.size))
    clear Bel_1
    have BA_1 : Hid (Bx w1 (w.heap.size) [.slice a0 D.length c0, .slice a1 n c1, .slice a2 V.length c2]) := Lib.hid (BA_0.out.below hb BA_0.out.1)
    clear BA_0
    clear hb
    have cBA0 := BA_1.out.c 0 rfl
    have cBA1 := BA_1.out.c 1 rfl
    have cBA2 := BA_1.out.c 2 rfl
    go_wp2_with fail
    refine (toRiver_any a0 a1 a2 c0 c1 c2 n D M V _ (HA0.out.below Bel_2.out (Nat.le_refl _)) (HA1.out.below Bel_2.out (Nat.le_refl _)) (HA2.out.below Bel_2.out (Nat.le_refl _)) hlD hln hlV HM.out).mono ?_
    rintro e w2 ⟨sa0, sc0, sa1, sc1, sa2, sc2, sL, rfl, hb, hrs⟩
    clear cBA0 cBA1 cBA2
    have z2 : w1.heap.size + 0 ≤ w2.heap.size := (by have := hb.size; (try simp at this); omega)
    have Bel_3 : Hid (Below w.heap.size w w2) := Lib.hid (Bel_2.out.trans (hb.mono Bel_2.out.size))
    clear Bel_2
    have BA_2 : Hid (Bx w2 (w.heap.size) [.slice a0 D.length c0, .slice a1 n c1, .slice a2 V.length c2]) := Lib.hid (BA_1.out.below hb BA_1.out.1)
    clear BA_1
    clear hb
    have Qs_0 : Hid (RivAt w2 w1.heap.size w2.heap.size sL sa0 sa1 sa2 sc0 sc1 sc2 n D M V) := Lib.hid (hrs)
    clear hrs
    have cBA0 := BA_2.out.c 0 rfl
    have cBA1 := BA_2.out.c 1 rfl
    have cBA2 := BA_2.out.c 2 rfl
    go_wp2_with fail
    refine (HS.out sa0 sa1 sa2 sc0 sc1 sc2 _ Qs_0.out.r0.row Qs_0.out.r1.row Qs_0.out.r2.row).mono ?_
    rintro e w3 ⟨rfl, hb⟩
    clear cBA0 cBA1 cBA2
    have z3 : w2.heap.size + 0 ≤ w3.heap.size := (by have := hb.size; (try simp at this); omega)
    have Bel_4 : Hid (Below w.heap.size w w3) := Lib.hid (Bel_3.out.trans (hb.mono Bel_3.out.size))
    clear Bel_3
    have BA_3 : Hid (Bx w3 (w.heap.size) [.slice a0 D.length c0, .slice a1 n c1, .slice a2 V.length c2]) := Lib.hid (BA_2.out.below hb BA_2.out.1)
    clear BA_2
    have Qs_1 : Hid (RivAt w3 w1.heap.size w2.heap.size sL sa0 sa1 sa2 sc0 sc1 sc2 n D M V) := Lib.hid (Qs_0.out.below hb Qs_0.out.lh)
    clear Qs_0
    clear hb
    clear Qs_1
    have cBA0 := BA_3.out.c 0 rfl
    have cBA1 := BA_3.out.c 1 rfl
    have cBA2 := BA_3.out.c 2 rfl
    go_wp2_with fail
    refine (toRiver_any a0 a1 a2 c0 c1 c2 n D M V _ (HA0.out.below Bel_4.out (Nat.le_refl _)) (HA1.out.below Bel_4.out (Nat.le_refl _)) (HA2.out.below Bel_4.out (Nat.le_refl _)) hlD hln hlV HM.out).mono ?_
    rintro e w4 ⟨xa0, xc0, xa1, xc1, xa2, xc2, xL, rfl, hb, hrx⟩
    clear cBA0 cBA1 cBA2
    have z4 : w3.heap.size + 0 ≤ w4.heap.size := (by have := hb.size; (try simp at this); omega)
    have Bel_5 : Hid (Below w.heap.size w w4) := Lib.hid (Bel_4.out.trans (hb.mono Bel_4.out.size))
    clear Bel_4
    have BA_4 : Hid (Bx w4 (w.heap.size) [.slice a0 D.length c0, .slice a1 n c1, .slice a2 V.length c2]) := Lib.hid (BA_3.out.below hb BA_3.out.1)
    clear BA_3
    clear hb
    have Qx_0 : Hid (RivAt w4 w3.heap.size w4.heap.size xL xa0 xa1 xa2 xc0 xc1 xc2 n D M V) := Lib.hid (hrx)
    clear hrx
    have Bel_6 : Hid (Below w.heap.size w (w4.alloc (.cells #[.slice xa0 D.length xc0, .slice xa1 n xc1, .slice xa2 V.length xc2] 30))) := Lib.hid (Bel_5.out.alloc Bel_5.out.size _)
    clear Bel_5
    have BA_5 : Hid (Bx (w4.alloc (.cells #[.slice xa0 D.length xc0, .slice xa1 n xc1, .slice xa2 V.length xc2] 30)) (w.heap.size) [.slice a0 D.length c0, .slice a1 n c1, .slice a2 V.length c2]) := Lib.hid (BA_4.out.alloc _)
    clear BA_4
    have Qx_1 : Hid (RivAt (w4.alloc (.cells #[.slice xa0 D.length xc0, .slice xa1 n xc1, .slice xa2 V.length xc2] 30)) w3.heap.size w4.heap.size xL xa0 xa1 xa2 xc0 xc1 xc2 n D M V) := Lib.hid (Qx_0.out.alloc _)
    clear Qx_0
    have BX_0 : Hid (Bx (w4.alloc (.cells #[.slice xa0 D.length xc0, .slice xa1 n xc1, .slice xa2 V.length xc2] 30)) (w4.heap.size) [.slice xa0 D.length xc0, .slice xa1 n xc1, .slice xa2 V.length xc2]) := Lib.hid (Bx.new w4 [.slice xa0 D.length xc0, .slice xa1 n xc1, .slice xa2 V.length xc2] 30)
    have cBA0 := BA_5.out.c 0 rfl
    have cBA1 := BA_5.out.c 1 rfl
    have cBA2 := BA_5.out.c 2 rfl
    have cBX0 := BX_0.out.c 0 rfl
    have cBX1 := BX_0.out.c 1 rfl
    have cBX2 := BX_0.out.c 2 rfl
    go_wp2_with fail
    refine (HI.out xa0 xa1 xa2 xc0 xc1 xc2 _ Qx_1.out.r0.row Qx_1.out.r1.row Qx_1.out.r2.row).mono ?_
    rintro e w5 ⟨rfl, hb⟩
    clear cBA0 cBA1 cBA2 cBX0 cBX1 cBX2
    have z5 : w4.heap.size + 1 ≤ w5.heap.size := (by have := hb.size; (try simp at this); omega)
    have Bel_7 : Hid (Below w.heap.size w w5) := Lib.hid (Bel_6.out.trans (hb.mono Bel_6.out.size))
    clear Bel_6
    have BA_6 : Hid (Bx w5 (w.heap.size) [.slice a0 D.length c0, .slice a1 n c1, .slice a2 V.length c2]) := Lib.hid (BA_5.out.below hb BA_5.out.1)
    clear BA_5
    have Qx_2 : Hid (RivAt w5 w3.heap.size w4.heap.size xL xa0 xa1 xa2 xc0 xc1 xc2 n D M V) := Lib.hid (Qx_1.out.below hb Qx_1.out.lh)
    clear Qx_1
    have BX_1 : Hid (Bx w5 (w4.heap.size) [.slice xa0 D.length xc0, .slice xa1 n xc1, .slice xa2 V.length xc2]) := Lib.hid (BX_0.out.below hb BX_0.out.1)
    clear BX_0
    clear hb
    have cBA0 := BA_6.out.c 0 rfl
    have cBA1 := BA_6.out.c 1 rfl
    have cBA2 := BA_6.out.c 2 rfl
    have cBX0 := BX_1.out.c 0 rfl
    have cBX1 := BX_1.out.c 1 rfl
    have cBX2 := BX_1.out.c 2 rfl
    go_wp2_with fail
    have HK5 : Hid (w5.cell? ⟨w.heap.size, 0, none⟩ = some (.slice a0 D.length c0) ∧ w5.cell? ⟨w.heap.size, 1, none⟩ = some (.slice a1 n c1) ∧ w5.cell? ⟨w.heap.size, 2, none⟩ = some (.slice a2 V.length c2) ∧ w5.cell? ⟨w4.heap.size, 0, none⟩ = some (.slice xa0 D.length xc0) ∧ w5.cell? ⟨w4.heap.size, 1, none⟩ = some (.slice xa1 n xc1) ∧ w5.cell? ⟨w4.heap.size, 2, none⟩ = some (.slice xa2 V.length xc2)) := Lib.hid ⟨BA_6.out.c 0 rfl, BA_6.out.c 1 rfl, BA_6.out.c 2 rfl, BX_1.out.c 0 rfl, BX_1.out.c 1 rfl, BX_1.out.c 2 rfl⟩
    go_region_held3 (fun w' => w'.cell? ⟨w.heap.size, 0, none⟩ = some (.slice a0 D.length c0) ∧ w'.cell? ⟨w.heap.size, 1, none⟩ = some (.slice a1 n c1) ∧ w'.cell? ⟨w.heap.size, 2, none⟩ = some (.slice a2 V.length c2) ∧ w'.cell? ⟨w4.heap.size, 0, none⟩ = some (.slice xa0 D.length xc0) ∧ w'.cell? ⟨w4.heap.size, 1, none⟩ = some (.slice xa1 n xc1) ∧ w'.cell? ⟨w4.heap.size, 2, none⟩ = some (.slice xa2 V.length xc2))
      (first | with_reducible exact HK7.out | with_reducible exact HK6.out | exact HK5.out)
      (first | (go_at_call 17; refine (toRiver_any a0 a1 a2 c0 c1 c2 n D M V _ (by first | with_reducible exact HA0.out.below Bel_7.out (Nat.le_refl _) | with_reducible exact (HA0.out.below Bel_7.out (Nat.le_refl _)).drewN 1 | exact HA0.out.below Bel_7.out.drew (Nat.le_refl _)) (by first | with_reducible exact HA1.out.below Bel_7.out (Nat.le_refl _) | with_reducible exact (HA1.out.below Bel_7.out (Nat.le_refl _)).drewN 1 | exact HA1.out.below Bel_7.out.drew (Nat.le_refl _)) (by first | with_reducible exact HA2.out.below Bel_7.out (Nat.le_refl _) | with_reducible exact (HA2.out.below Bel_7.out (Nat.le_refl _)).drewN 1 | exact HA2.out.below Bel_7.out.drew (Nat.le_refl _)) hlD hln hlV HM.out).mono ?_; rintro e w6 ⟨za0, zc0, za1, zc1, za2, zc2, zL, rfl, hb, hr⟩; have hst : Below w5.heap.size w5 w6 := (by first | with_reducible exact hb | with_reducible exact (Below.refl _ _).drew.trans (hb.mono (le_drew _))); have z6 : w5.heap.size ≤ w6.heap.size := hst.size; have Bel_8 : Hid (Below w.heap.size w w6) := Lib.hid (Bel_7.out.trans (hst.mono Bel_7.out.size)); clear Bel_7; have BA_7 : Hid (Bx w6 (w.heap.size) [.slice a0 D.length c0, .slice a1 n c1, .slice a2 V.length c2]) := Lib.hid (BA_6.out.below hst BA_6.out.1); clear BA_6; have Qx_3 : Hid (RivAt w6 w3.heap.size w4.heap.size xL xa0 xa1 xa2 xc0 xc1 xc2 n D M V) := Lib.hid (Qx_2.out.below hst Qx_2.out.lh); clear Qx_2; have BX_2 : Hid (Bx w6 (w4.heap.size) [.slice xa0 D.length xc0, .slice xa1 n xc1, .slice xa2 V.length xc2]) := Lib.hid (BX_1.out.below hst BX_1.out.1); clear BX_1; have HK6 : Hid (w6.cell? ⟨w.heap.size, 0, none⟩ = some (.slice a0 D.length c0) ∧ w6.cell? ⟨w.heap.size, 1, none⟩ = some (.slice a1 n c1) ∧ w6.cell? ⟨w.heap.size, 2, none⟩ = some (.slice a2 V.length c2) ∧ w6.cell? ⟨w4.heap.size, 0, none⟩ = some (.slice xa0 D.length xc0) ∧ w6.cell? ⟨w4.heap.size, 1, none⟩ = some (.slice xa1 n xc1) ∧ w6.cell? ⟨w4.heap.size, 2, none⟩ = some (.slice xa2 V.length xc2)) := Lib.hid ⟨BA_7.out.c 0 rfl, BA_7.out.c 1 rfl, BA_7.out.c 2 rfl, BX_2.out.c 0 rfl, BX_2.out.c 1 rfl, BX_2.out.c 2 rfl⟩; have RZ6 := Lib.hid hr; clear hr; clear hb hst) | (go_at_call 19; refine (eqRiver_any xa0 xa1 xa2 za0 za1 za2 xc0 xc1 xc2 zc0 zc1 zc2 n D M V _ Qx_3.out.r0.row Qx_3.out.r1.row Qx_3.out.r2.row hlD hln hlV HM.out RZ6.out.r0.row RZ6.out.r1.row RZ6.out.r2.row).mono ?_; rintro e w7 ⟨rfl, hb⟩; have hst : Below w6.heap.size w6 w7 := (by first | with_reducible exact hb | with_reducible exact (Below.refl _ _).drew.trans (hb.mono (le_drew _))); have z7 : w6.heap.size ≤ w7.heap.size := hst.size; have Bel_9 : Hid (Below w.heap.size w w7) := Lib.hid (Bel_8.out.trans (hst.mono Bel_8.out.size)); clear Bel_8; have BA_8 : Hid (Bx w7 (w.heap.size) [.slice a0 D.length c0, .slice a1 n c1, .slice a2 V.length c2]) := Lib.hid (BA_7.out.below hst BA_7.out.1); clear BA_7; have Qx_4 : Hid (RivAt w7 w3.heap.size w4.heap.size xL xa0 xa1 xa2 xc0 xc1 xc2 n D M V) := Lib.hid (Qx_3.out.below hst Qx_3.out.lh); clear Qx_3; have BX_3 : Hid (Bx w7 (w4.heap.size) [.slice xa0 D.length xc0, .slice xa1 n xc1, .slice xa2 V.length xc2]) := Lib.hid (BX_2.out.below hst BX_2.out.1); clear BX_2; have HK7 : Hid (w7.cell? ⟨w.heap.size, 0, none⟩ = some (.slice a0 D.length c0) ∧ w7.cell? ⟨w.heap.size, 1, none⟩ = some (.slice a1 n c1) ∧ w7.cell? ⟨w.heap.size, 2, none⟩ = some (.slice a2 V.length c2) ∧ w7.cell? ⟨w4.heap.size, 0, none⟩ = some (.slice xa0 D.length xc0) ∧ w7.cell? ⟨w4.heap.size, 1, none⟩ = some (.slice xa1 n xc1) ∧ w7.cell? ⟨w4.heap.size, 2, none⟩ = some (.slice xa2 V.length xc2)) := Lib.hid ⟨BA_8.out.c 0 rfl, BA_8.out.c 1 rfl, BA_8.out.c 2 rfl, BX_3.out.c 0 rfl, BX_3.out.c 1 rfl, BX_3.out.c 2 rfl⟩; clear RZ6; clear hb hst))
    try clear HK5
    try clear HK6
    try clear HK7
    clear cBA0 cBA1 cBA2 cBX0 cBX1 cBX2
    have cBA0 := BA_8.out.c 0 rfl
    have cBA1 := BA_8.out.c 1 rfl
    have cBA2 := BA_8.out.c 2 rfl
    have cBX0 := BX_3.out.c 0 rfl
    have cBX1 := BX_3.out.c 1 rfl
    have cBX2 := BX_3.out.c 2 rfl
    go_wp2_with fail
    go_ret
    exact ⟨rfl, Bel_9.out⟩

set_option maxHeartbeats 4000000 in
theorem meetingOfLaw_not (a0 a1 a2 : Option Addr) (c0 c1 c2 n : Nat) (D M V : List Int) (x : Int) (y : Int) (w : World) (hmx : D.length ≤ maxLen ∧ n ≤ maxLen ∧ V.length ≤ maxLen) (h : ¬ (D.length : Int) + (n : Int) + (V.length : Int) ≤ 1048576) :
    Calls Try.prog 11 #[.agg #[.slice a0 D.length c0, .slice a1 n c1, .slice a2 V.length c2], .int .i64 x, .int .i64 y] w fun e w' => e = .returned (.bool true) ∧ Below w.heap.size w w' := by
  unfold maxLen at hmx
  have HSz := Lib.hid (szRiver_not a0 a1 a2 D.length n V.length c0 c1 c2 1048576 (by omega) (by omega) (by omega) (by omega) (by omega) (by omega) (w.alloc (.cells #[.slice a0 D.length c0, .slice a1 n c1, .slice a2 V.length c2] 25)))
  clear hmx h
  have hneg : ((-1 : Int) < 0) := by decide
  go_enter Try.func11, Try.ntmps11
  go_wp2_with fail
  refine HSz.out.mono ?_
  rintro e w1 ⟨rfl, hb⟩
  have HB1 : Hid (Below w.heap.size w w1) := Lib.hid ((bel1 w _).trans (hb.mono (by simp)))
  clear hb
  go_wp2_with fail
  go_ret
  exact ⟨rfl, HB1.out⟩
theorem walk_FnExactMeetingOf (a0 a1 a2 : Option Addr) (l0 n l2 c0 c1 c2 : Nat) (D M V : List Int) (x : Int) (y : Int) (w : World) (ha : IsRiv w a0 a1 a2 l0 n l2 c0 c1 c2 D M V) (hwx : (Lit.int .i64 x).wf = true) (hwy : (Lit.int .i64 y).wf = true) :
    Calls Try.prog 11 #[.agg #[.slice a0 l0 c0, .slice a1 n c1, .slice a2 l2 c2], .int .i64 x, .int .i64 y] w fun e w' => e = .returned (.bool true) ∧ Below w.heap.size w w' := by
  obtain ⟨⟨hl0, hc0, hx0, hr0, _⟩, ⟨hl1, hc1, hx1, hr1, _⟩, ⟨hl2, hc2, hx2, hr2, _⟩⟩ := ha
  rw [Nat.mul_one] at hl0 hl2
  subst hl0; subst hl2
  by_cases h : (D.length : Int) + (n : Int) + (V.length : Int) ≤ 1048576
  · exact meetingOfLaw_fits a0 a1 a2 c0 c1 c2 n D M V x y w hr0 hr1 hr2 hl1 hwx hwy ⟨hc0, hc1, hc2⟩ h
  · exact meetingOfLaw_not a0 a1 a2 c0 c1 c2 n D M V x y w ⟨by omega, by omega, by omega⟩ h
end Go.Proofs.Ytnmmhaadkclogaa
