/- LedgerOf: the program. -/
import Derived.Test.YtckmacnmmloemaaLedV
import Derived.Test.YtckmacnmmloemaaRunI
import Derived.Deep.RegionHeld3
namespace Go.Proofs.Ytckmacnmmloemaa
open Go.RowKit
set_option linter.unusedVariables false
set_option linter.unusedSimpArgs false
set_option maxRecDepth 100000
attribute [local irreducible] wpV wpList Code.wp

set_option maxHeartbeats 16000000 in
theorem ledgerOf_i (a0 a1 a2 sa : Option Addr) (l0 n l2 c0 c1 c2 len sc : Nat) (D M V : List Int) (Zs : List (List Int)) (w : World) (h0 : RowC w a0 (ic D)) (h1 : RowC w a1 (ic M)) (h2 : RowC w a2 (ic V)) (hD : D.length = l0) (hM : M.length = n * 4) (hV : V.length = l2) (hl : l0 ≤ 1048576 ∧ n ≤ 1048576 ∧ l2 ≤ 1048576) (h : RowSS w sa Zs) (hlen : Zs.length = len) (hrl : ∀ k, k < len → (zr Zs k).length ≤ 1048576) :
    Calls Try.prog 31 #[.agg #[.slice a0 l0 c0, .slice a1 n c1, .slice a2 l2 c2], .slice sa len sc] w (LedP (ledR D M V n Zs) w) := by
  have HRo : Hid (∀ W : World, Below w.heap.size w W → Calls Try.prog 65 #[.agg #[.slice a0 l0 c0, .slice a1 n c1, .slice a2 l2 c2], .slice sa len sc] W (RunP (runR D M V n Zs) W)) := Lib.hid fun W hW => runOf_any a0 a1 a2 sa l0 n l2 c0 c1 c2 len sc D M V Zs W (h0.below hW (Nat.le_refl _)) (h1.below hW (Nat.le_refl _)) (h2.below hW (Nat.le_refl _)) hD hM hV hl (h.below hW (Nat.le_refl _)) hlen hrl
  have hbx := Bx.new w [.slice a0 l0 c0, .slice a1 n c1, .slice a2 l2 c2] 29
  have hbl := bel1 w (.cells #[.slice a0 l0 c0, .slice a1 n c1, .slice a2 l2 c2] 29)
  obtain ⟨W1, hW1⟩ : ∃ W, w.alloc (.cells #[.slice a0 l0 c0, .slice a1 n c1, .slice a2 l2 c2] 29) = W := ⟨_, rfl⟩
  have HX1 : Hid (Bx W1 w.heap.size [.slice a0 l0 c0, .slice a1 n c1, .slice a2 l2 c2]) := Lib.hid (by rw [← hW1]; exact hbx)
  have HB1 : Hid (Below w.heap.size w W1) := Lib.hid (by rw [← hW1]; exact hbl)
  clear hbx hbl
  obtain ⟨cnd, hcnd⟩ : ∃ b, (rivB D M V n && decide (Zs.length ≤ 64) && daysB Zs n) = b := ⟨_, rfl⟩
  cases cnd
  · have hv : ledR D M V n Zs = ⟨0, 0, 0, 0, false⟩ := by unfold ledR; rw [hcnd]; rfl
    have hr : runR D M V n Zs = failN := by unfold runR; rw [hcnd]; rfl
    rw [hr] at HRo
    rw [hv]
    clear hv hr hcnd h0 h1 h2 hD hM hV h hlen hrl
    go_enter Try.func31, Try.ntmps31
    go_upto_region 1 with fail
    (try rw [hW1])
    clear hW1
    have x0 := HX1.out.c 0 rfl
    have x1 := HX1.out.c 1 rfl
    have x2 := HX1.out.c 2 rfl
    go_wp2_with fail
    refine (HRo.out W1 HB1.out).mono ?_
    rintro e w2 ⟨lo, hi, L, p0, p1, p2, q0, q1, q2, x1, x2, x3, x4, y2, u2, ga, za, gc, zc, rfl, hb, hrv, hlo, hss, hzz, z1, z2, z3, z4, z5, z6, z7, z8⟩
    clear x0
    have HB2 : Hid (Below w.heap.size w w2) := Lib.hid (HB1.out.trans (hb.mono HB1.out.size))
    clear hb hrv hlo hss hzz z1 z2 z3 z4 z5 z6 z7 z8
    go_upto_region 2 with fail
    generalize hW3 : World.alloc w2 _ = W3
    have HT3 : Hid (Bx W3 w2.heap.size [.slice p0 failN.D.length q0, .slice p1 failN.n q1, .slice p2 failN.V.length q2, .slice ga failN.G.length gc, .slice za failN.S.length zc, .bool failN.ok]) := Lib.hid (by rw [← hW3]; exact Bx.new w2 [.slice p0 failN.D.length q0, .slice p1 failN.n q1, .slice p2 failN.V.length q2, .slice ga failN.G.length gc, .slice za failN.S.length zc, .bool failN.ok] _)
    have HB3 : Hid (Below w.heap.size w W3) := Lib.hid (by rw [← hW3]; exact HB2.out.alloc HB2.out.size _)
    have t5 : W3.cell? ⟨w2.heap.size, 5, none⟩ = some (.bool false) := HT3.out.c 5 rfl
    clear hW3 HT3
    go_wp2_with fail
    exact bodyPost_ret (v := .tuple #[.int .i64 0, .int .i64 0, .int .i64 0, .int .i64 0, .bool false]) (by first | (simp [results, Try.results31, go_sem]; done) | (simp (maxDischargeDepth := 12) [results, Try.results31, go_sem]; done) | (simp (maxDischargeDepth := 12) [results, Try.results31, go_sem]; rfl)) rfl ⟨rfl, HB3.out⟩
  · rw [Bool.and_eq_true, Bool.and_eq_true, decide_eq_true_eq] at hcnd
    obtain ⟨⟨hrb, h64⟩, hdy⟩ := hcnd
    have HBB := Lib.hid hrb
    have HDY := Lib.hid hdy
    have h9 := (rivB_true hrb).1
    have h0n : l0 = n := by rw [← hD]; omega
    have h2n : l2 = n := by rw [← hV]; omega
    obtain rfl : n = l0 := h0n.symm
    obtain rfl : n = l2 := h2n.symm
    have h12 : n ≤ 12 := by omega
    have hn1 : 0 < n := by omega
    have hq9 := runTo_len (D := D) (V := V) (Zs := Zs) hM len (fun j hj => (daysB_at hdy (show j < Zs.length by rw [hlen]; exact hj)).1)
    obtain ⟨Q, hQ⟩ : ∃ Q, runTo D M V Zs n len = Q := ⟨_, rfl⟩
    have hr : runR D M V n Zs = ⟨n, D, Q.M, V, Q.G, Q.S, true⟩ := by unfold runR; rw [hrb, hdy, decide_eq_true h64, hlen, hQ]; rfl
    have hv : ledR D M V n Zs = ledV M Zs n Q := by unfold ledR; rw [hrb, hdy, decide_eq_true h64, hlen, hQ]; rfl
    rw [hQ] at hq9
    obtain ⟨hq1, hq2, hq3, hq4⟩ := hq9
    rw [hr] at HRo
    rw [hv]
    have H1 := Lib.hid h1
    have H := Lib.hid h
    have Hlen := Lib.hid hlen
    have hl64 : len ≤ 64 := by omega
    have Hrl := Lib.hid hrl
    have HM := Lib.hid hM
    have HQ1 := Lib.hid hq1
    have HQ2 := Lib.hid hq2
    have HQ3 := Lib.hid hq3
    have HQ4 := Lib.hid hq4
    clear hv hr hQ h0 h1 h2 hD hM hV h hlen hrl hrb hdy h9 hq1 hq2 hq3 hq4
    go_enter Try.func31, Try.ntmps31
    go_upto_region 1 with fail
    (try rw [hW1])
    clear hW1
    have x0 := HX1.out.c 0 rfl
    have x1 := HX1.out.c 1 rfl
    have x2 := HX1.out.c 2 rfl
    go_wp2_with fail
    refine (HRo.out W1 HB1.out).mono ?_
    rintro e w2 ⟨lo, hi, L, p0, p1, p2, q0, q1, q2, x1, x2, x3, x4, y2, u2, ga, za, gc, zc, rfl, hb, hrv, hlo, hss, hzz, z1, z2, z3, z4, z5, z6, z7, z8⟩
    clear x0
    simp only at hrv hss hzz
    have HB2 : Hid (Below w.heap.size w w2) := Lib.hid (HB1.out.trans (hb.mono HB1.out.size))
    have HX2 := Lib.hid (HX1.out.below hb HX1.out.1)
    have hrm := hrv.r1.row
    have hrg := hss.row
    have hrz := hzz.row
    clear hb hrv hlo hss hzz z1 z2 z3 z4 z5 z6 z7 z8 HX1 HB1 HRo
    go_upto_region 2 with fail
    (try rw [HQ2.out]); (try rw [HQ3.out])
    generalize hW3 : World.alloc w2 _ = W3
    have hb3 : Below w2.heap.size w2 W3 := by rw [← hW3]; exact below1 w2 _
    have hsz3 : w2.heap.size < W3.heap.size := by rw [← hW3]; simp
    obtain ⟨t, ht⟩ : ∃ t, w2.heap.size = t := ⟨_, rfl⟩
    have HT3 : Hid (Bx W3 t [.slice p0 D.length q0, .slice p1 n q1, .slice p2 V.length q2, .slice ga len gc, .slice za len zc, .bool true]) := Lib.hid (by rw [← hW3, ← ht]; first | exact Bx.new w2 [.slice p0 D.length q0, .slice p1 n q1, .slice p2 V.length q2, .slice ga len gc, .slice za len zc, .bool true] _ | (have h9 := Bx.new w2 [.slice p0 D.length q0, .slice p1 n q1, .slice p2 V.length q2, .slice ga len gc, .slice za len zc, .bool true] 86; exact h9))
    have HX3 := Lib.hid (HX2.out.below hb3 HX2.out.1)
    have HB3 : Hid (Below w.heap.size w W3) := Lib.hid (HB2.out.trans (hb3.mono HB2.out.size))
    have HRM := Lib.hid (hrm.below hb3 (Nat.le_refl _))
    have HRG := Lib.hid (hrg.below hb3 (Nat.le_refl _))
    have HRZ := Lib.hid (hrz.below hb3 (Nat.le_refl _))
    have HRD := Lib.hid (H.out.below HB3.out (Nat.le_refl _))
    (try rw [ht])
    have hw3 : w.heap.size < W3.heap.size := HX3.out.1
    rw [ht] at hsz3
    clear hW3 hb3 hrm hrg hrz HX2 HB2 ht
    have um := HQ1.out
    obtain ⟨ub, uo, rfl, ul, uk⟩ := HRM.out.cells (fun e => by rw [e, List.length_nil] at um; omega)
    have vm := HM.out
    obtain ⟨vb, vo, rfl, vl, vk⟩ := (H1.out.below HB3.out (Nat.le_refl _)).cells (fun e => by rw [e, List.length_nil] at vm; omega)
    have Huk := Lib.hid uk
    have Hvk := Lib.hid vk
    clear uk vk um vm
    have K0 : Hid (Below W3.heap.size W3 W3) := Lib.hid (Below.refl _ _)
    have HKeep : Hid (∀ W, Below W3.heap.size W3 W → (W.cell? ⟨t, 0, none⟩ = some (.slice p0 D.length q0) ∧ W.cell? ⟨t, 1, none⟩ = some (.slice (some ⟨ub, uo, none⟩) n q1) ∧ W.cell? ⟨t, 2, none⟩ = some (.slice p2 V.length q2) ∧ W.cell? ⟨t, 3, none⟩ = some (.slice ga len gc) ∧ W.cell? ⟨t, 4, none⟩ = some (.slice za len zc) ∧ W.cell? ⟨t, 5, none⟩ = some (.bool true) ∧ W.cell? ⟨w.heap.size, 0, none⟩ = some (.slice a0 n c0) ∧ W.cell? ⟨w.heap.size, 1, none⟩ = some (.slice (some ⟨vb, vo, none⟩) n c1) ∧ W.cell? ⟨w.heap.size, 2, none⟩ = some (.slice a2 n c2))) := Lib.hid fun W hW => ⟨(hW.cell (p := ⟨t, 0, none⟩) hsz3).trans (HT3.out.c 0 rfl), (hW.cell (p := ⟨t, 1, none⟩) hsz3).trans (HT3.out.c 1 rfl), (hW.cell (p := ⟨t, 2, none⟩) hsz3).trans (HT3.out.c 2 rfl), (hW.cell (p := ⟨t, 3, none⟩) hsz3).trans (HT3.out.c 3 rfl), (hW.cell (p := ⟨t, 4, none⟩) hsz3).trans (HT3.out.c 4 rfl), (hW.cell (p := ⟨t, 5, none⟩) hsz3).trans (HT3.out.c 5 rfl), (hW.cell (p := ⟨w.heap.size, 0, none⟩) hw3).trans (HX3.out.c 0 rfl), (hW.cell (p := ⟨w.heap.size, 1, none⟩) hw3).trans (HX3.out.c 1 rfl), (hW.cell (p := ⟨w.heap.size, 2, none⟩) hw3).trans (HX3.out.c 2 rfl)⟩
    have HSa : Hid (∀ W, Below W3.heap.size W3 W → Calls Try.prog 67 #[.slice sa len sc] W fun e w' => e = .returned (.int .i64 (wrap64 (totS Zs len))) ∧ W = w') := Lib.hid fun W hW => sumDays_any sa len sc Zs W (HRD.out.below hW (Nat.le_refl _)) Hlen.out (by omega) Hrl.out
    have HSb : Hid (∀ W, Below W3.heap.size W3 W → Calls Try.prog 67 #[.slice ga len gc] W fun e w' => e = .returned (.int .i64 (wrap64 (totS Q.G len))) ∧ W = w') := Lib.hid fun W hW => sumDays_any ga len gc Q.G W (HRG.out.below hW (Nat.le_refl _)) HQ2.out (by omega) (fun k hk => by rw [HQ4.out k hk]; omega)
    have HSc : Hid (∀ W, Below W3.heap.size W3 W → Calls Try.prog 68 #[.slice za len zc] W fun e w' => e = .returned (.int .i64 (wrap64 (rowS Q.S len))) ∧ W = w') := Lib.hid fun W hW => sumOf_any za len zc Q.S W (HRZ.out.below hW (Nat.le_refl _)) HQ3.out (by omega)
    obtain ⟨sA, hsA⟩ : ∃ s, wrap64 (nowS Q.M n) = s := ⟨_, rfl⟩
    obtain ⟨sB, hsB⟩ : ∃ s, wrap64 (nowS M n) = s := ⟨_, rfl⟩
    have HSd : Hid (∀ W, Below W3.heap.size W3 W → Calls Try.prog 69 #[.agg #[.slice p0 D.length q0, .slice (some ⟨ub, uo, none⟩) n q1, .slice p2 V.length q2]] W fun e w' => e = .returned (.int .i64 sA) ∧ Below W.heap.size W w') := Lib.hid fun W hW => by rw [← hsA]; exact storedIn_w ub uo _ _ n q1 Q.M W (Nat.lt_of_lt_of_le ul hW.size) (fun i hi => (hW.cell (p := ⟨ub, uo + i, none⟩) ul).trans (Huk.out i hi)) HQ1.out h12
    have HSe : Hid (∀ W, Below W3.heap.size W3 W → Calls Try.prog 69 #[.agg #[.slice a0 n c0, .slice (some ⟨vb, vo, none⟩) n c1, .slice a2 n c2]] W fun e w' => e = .returned (.int .i64 sB) ∧ Below W.heap.size W w') := Lib.hid fun W hW => by rw [← hsB]; exact storedIn_w vb vo _ _ n c1 M W (Nat.lt_of_lt_of_le vl hW.size) (fun i hi => (hW.cell (p := ⟨vb, vo + i, none⟩) vl).trans (Hvk.out i hi)) HM.out h12
    have hdf : (ledV M Zs n Q).d = wrap64 (wrap64 (nowS Q.M n) - wrap64 (nowS M n)) := rfl
    rw [hsA, hsB] at hdf
    obtain ⟨dd, hdd⟩ : ∃ s, wrap64 (sA - sB) = s := ⟨_, rfl⟩
    have w7d := iw hdd
    rw [hdd] at hdf
    have Hdf := Lib.hid hdf
    obtain ⟨v1, hv1⟩ : ∃ s, wrap64 (totS Zs len) = s := ⟨_, rfl⟩
    obtain ⟨v2, hv2⟩ : ∃ s, wrap64 (totS Q.G len) = s := ⟨_, rfl⟩
    obtain ⟨v3, hv3⟩ : ∃ s, wrap64 (rowS Q.S len) = s := ⟨_, rfl⟩
    rw [hv1] at HSa
    rw [hv2] at HSb
    rw [hv3] at HSc
    have Hv1 := Lib.hid hv1
    have Hv2 := Lib.hid hv2
    have Hv3 := Lib.hid hv3
    clear hdf hdd hsA hsB hv1 hv2 hv3
    have xx := HKeep.out _ K0.out
    obtain ⟨xx0, xx1, xx2, xx3, xx4, xx5, xx6, xx7, xx8⟩ := xx
    go_wp2_with fail
    go_region_held3 (fun W => W.cell? ⟨t, 0, none⟩ = some (.slice p0 D.length q0) ∧ W.cell? ⟨t, 1, none⟩ = some (.slice (some ⟨ub, uo, none⟩) n q1) ∧ W.cell? ⟨t, 2, none⟩ = some (.slice p2 V.length q2) ∧ W.cell? ⟨t, 3, none⟩ = some (.slice ga len gc) ∧ W.cell? ⟨t, 4, none⟩ = some (.slice za len zc) ∧ W.cell? ⟨t, 5, none⟩ = some (.bool true) ∧ W.cell? ⟨w.heap.size, 0, none⟩ = some (.slice a0 n c0) ∧ W.cell? ⟨w.heap.size, 1, none⟩ = some (.slice (some ⟨vb, vo, none⟩) n c1) ∧ W.cell? ⟨w.heap.size, 2, none⟩ = some (.slice a2 n c2))
      (first | with_reducible exact HKeep.out _ K2.out | with_reducible exact HKeep.out _ K2.out.drew | with_reducible exact HKeep.out _ K1.out | with_reducible exact HKeep.out _ K1.out.drew | with_reducible exact HKeep.out _ K0.out | with_reducible exact HKeep.out _ K0.out.drew | fail)
      (first | (go_at_call 67; with_reducible refine (HSa.out _ (by first | with_reducible exact K0.out | with_reducible exact K0.out.drew)).mono ?_; rintro e w5 ⟨rfl, rfl⟩) | (go_at_call 67; with_reducible refine (HSb.out _ (by first | with_reducible exact K0.out | with_reducible exact K0.out.drew)).mono ?_; rintro e w5 ⟨rfl, rfl⟩) | (go_at_call 68; with_reducible refine (HSc.out _ (by first | with_reducible exact K0.out | with_reducible exact K0.out.drew)).mono ?_; rintro e w5 ⟨rfl, rfl⟩) | (go_at_call 69; with_reducible refine (HSd.out _ (by first | with_reducible exact K0.out | with_reducible exact K0.out.drew)).mono ?_; rintro e w6 ⟨rfl, hb⟩; have K1 : Hid (Below W3.heap.size W3 w6) := Lib.hid (Below.trans (by first | with_reducible exact K0.out | with_reducible exact K0.out.drew) (hb.mono (Below.size (by first | with_reducible exact K0.out | with_reducible exact K0.out.drew)))); clear hb) | (go_at_call 69; with_reducible refine (HSe.out _ (by first | with_reducible exact K1.out | with_reducible exact K1.out.drew)).mono ?_; rintro e w7 ⟨rfl, hb⟩; have K2 : Hid (Below W3.heap.size W3 w7) := Lib.hid (Below.trans (by first | with_reducible exact K1.out | with_reducible exact K1.out.drew) (hb.mono (Below.size (by first | with_reducible exact K1.out | with_reducible exact K1.out.drew)))); clear hb) | fail)
    go_wp2_with fail
    refine bodyPost_ret (v := .tuple #[.int .i64 v1, .int .i64 v2, .int .i64 v3, .int .i64 dd, .bool true]) (by first | (simp [results, Try.results31, go_sem, *]; done) | (simp (maxDischargeDepth := 12) [results, Try.results31, go_sem, *]; done) | (simp (maxDischargeDepth := 12) [results, Try.results31, go_sem, *]; rfl)) rfl ⟨?_, HB3.out.trans (K2.out.mono HB3.out.size)⟩
    rw [Hdf.out]
    show _ = Ending.returned (.tuple #[.int .i64 (wrap64 (totS Zs Zs.length)), .int .i64 (wrap64 (totS Q.G Zs.length)), .int .i64 (wrap64 (rowS Q.S Zs.length)), .int .i64 dd, .bool true])
    rw [Hlen.out, Hv1.out, Hv2.out, Hv3.out]

end Go.Proofs.Ytckmacnmmloemaa
