/- The least size of a dam: whether one is enough (the model). -/
import Derived.Test.YtckmacnmmloemaaLeaV
import Derived.Test.YtckmacnmmloemaaRunS
import Derived.Deep.Cut
import Derived.Test.YtckmacnmmloemaaRvQ
namespace Go.Proofs.Ytckmacnmmloemaa
open Go.RowKit
set_option linter.unusedVariables false
set_option linter.unusedSimpArgs false
set_option maxRecDepth 100000
attribute [local irreducible] wpV wpList Code.wp

set_option maxHeartbeats 16000000 in
theorem l06Enough_any (pa b0 o0 b1 o1 b2 o2 n c0 c1 c2 i : Nat) (a : Option Addr) (len cap : Nat) (D M V : List Int) (Zs : List (List Int)) (c : Int) (w : World) (hs : Src w b0 o0 b1 o1 b2 o2 n D M V) (hpa : Bx w pa [.slice (some ⟨b0, o0, none⟩) n c0, .slice (some ⟨b1, o1, none⟩) n c1, .slice (some ⟨b2, o2, none⟩) n c2]) (h : RowSS w a Zs) (hlen : Zs.length = len) (hdy : daysB Zs n = true) (hl : len ≤ 64) (hn12 : n ≤ 12) (hr : ∀ j, j < D.length → -1 ≤ D.getD j 0 ∧ D.getD j 0 ≤ (D.length : Int) - 1) (ha : acycB D = true) (hi : i < n) :
    Calls Try.prog 73 #[.pointer (some ⟨pa, 0, none⟩), .int .i64 (i : Int), .slice a len cap, .int .i64 c] w fun e w' => e = .returned (.bool (enB D M V Zs n i c)) ∧ Below w.heap.size w w' := by
  obtain ⟨bb, hbb⟩ : ∃ b, enB D M V Zs n i c = b := ⟨_, rfl⟩
  rw [hbb]
  have HSrc := Lib.hid hs
  have H := Lib.hid h
  have Hlen := Lib.hid hlen
  have HDy := Lib.hid hdy
  have HRg := Lib.hid hr
  have HAc := Lib.hid ha
  have hn1 := hs.pos
  have hMl := hs.n1
  have HM := Lib.hid hMl
  have hi0 : (0 : Int) ≤ (i : Int) := by omega
  have hi1 : (i : Int) < (n : Int) := by omega
  have HOw := Lib.hid (l06Own_any pa b0 o0 b1 o1 b2 o2 n c0 c1 c2 D M V w hs hpa)
  clear hs hpa h hlen hdy hr ha hMl
  have hmm : n ≤ 1048576 := by omega
  go_enter Try.func73, Try.ntmps73
  go_wp2_with fail
  refine HOw.out.mono ?_
  rintro e w2 ⟨lo, g0, g1, g2, d0, d1, d2, rfl, hr0, hr1, hr2, n01, n02, n12, hlo, hb⟩
  clear HOw
  go_upto_region 2 with fail
  obtain ⟨t, ht⟩ : ∃ t, w2.heap.size = t := ⟨_, rfl⟩
  generalize hW3 : World.alloc w2 _ = W3
  (try rw [ht])
  have hb3 : Below w2.heap.size w2 W3 := by rw [← hW3]; exact below1 w2 _
  have HT3 : Hid (Bx W3 t [.slice (some ⟨g0, 0, none⟩) n d0, .slice (some ⟨g1, 0, none⟩) n d1, .slice (some ⟨g2, 0, none⟩) n d2]) := Lib.hid (by rw [← hW3, ← ht]; exact Bx.new w2 [.slice (some ⟨g0, 0, none⟩) n d0, .slice (some ⟨g1, 0, none⟩) n d1, .slice (some ⟨g2, 0, none⟩) n d2] _)
  have HB3 : Hid (Below w.heap.size w W3) := Lib.hid (hb.trans (hb3.mono hb.size))
  have HQ0 := Lib.hid (owns_below hr0 hb3 (Nat.le_refl _))
  have HQ1 := Lib.hid (owns_below hr1 hb3 (Nat.le_refl _))
  have HQ2 := Lib.hid (owns_below hr2 hb3 (Nat.le_refl _))
  have HN : Hid (g0 ≠ g1 ∧ g0 ≠ g2 ∧ g1 ≠ g2 ∧ w.heap.size ≤ lo ∧ lo ≤ g0 ∧ lo ≤ g1 ∧ lo ≤ g2 ∧ g0 < t ∧ g1 < t ∧ g2 < t) := Lib.hid (by have k0 := hr0.lt g0 rfl; have k1 := hr1.lt g1 rfl; have k2 := hr2.lt g2 rfl; omega)
  clear hW3 hb hb3 hr0 hr1 hr2 n01 n02 n12 hlo ht
  have x1 := HT3.out.c 1 rfl
  obtain ⟨v0, hv0⟩ : ∃ x, M.getD (i * 4 + 0) 0 = x := ⟨_, rfl⟩
  obtain ⟨v1, hv1⟩ : ∃ x, M.getD (i * 4 + 1) 0 = x := ⟨_, rfl⟩
  obtain ⟨v2, hv2⟩ : ∃ x, M.getD (i * 4 + 2) 0 = x := ⟨_, rfl⟩
  obtain ⟨v3, hv3⟩ : ∃ x, M.getD (i * 4 + 3) 0 = x := ⟨_, rfl⟩
  rw [Nat.add_zero] at hv0
  have y0 := HQ1.out.cellAt (i * 4) (by omega)
  rw [ic_at (by rw [HM.out]; omega), hv0] at y0
  have f0 := HQ1.out.frozenAt (i * 4)
  have y1 := HQ1.out.cellAt (i * 4 + 1) (by omega)
  rw [ic_at (by rw [HM.out]; omega), hv1] at y1
  have f1 := HQ1.out.frozenAt (i * 4 + 1)
  have y2 := HQ1.out.cellAt (i * 4 + 2) (by omega)
  rw [ic_at (by rw [HM.out]; omega), hv2] at y2
  have f2 := HQ1.out.frozenAt (i * 4 + 2)
  have y3 := HQ1.out.cellAt (i * 4 + 3) (by omega)
  rw [ic_at (by rw [HM.out]; omega), hv3] at y3
  have f3 := HQ1.out.frozenAt (i * 4 + 3)
  have HV1 := Lib.hid hv1
  have HV3 := Lib.hid hv3
  clear hv0 hv1 hv2 hv3
  go_wp2_with fail
  refine (l00Min_any v1 c _).mono ?_
  rintro e w9 ⟨rfl, rfl⟩
  go_wp2_with fail
  refine (l00Min_any v3 c _).mono ?_
  rintro e w9 ⟨rfl, rfl⟩
  go_upto_region 6 with fail
  generalize hW4 : World.setCell _ _ _ = W4
  have hk4 : Kept g1 (g1 + 1) W3 W4 := by rw [← hW4]; exact (((Kept.set W3 ⟨g1, i * 4, none⟩ (.int .i64 c) ⟨Nat.le_refl _, Nat.lt_succ_self _⟩).trans (Kept.set _ ⟨g1, i * 4 + 1, none⟩ (.int .i64 (min v1 c)) ⟨Nat.le_refl _, Nat.lt_succ_self _⟩)).trans (Kept.set _ ⟨g1, i * 4 + 3, none⟩ (.int .i64 (min v3 c)) ⟨Nat.le_refl _, Nat.lt_succ_self _⟩))
  have hq1 : W4.ownsRow lo 98 4 (.slice (some ⟨g1, 0, none⟩) n d1) n (ic (setD M i c)) := by
    have h9 := (((HQ1.out.stored (i * 4) (.int .i64 c)).1.stored (i * 4 + 1) (.int .i64 (min v1 c))).1.stored (i * 4 + 3) (.int .i64 (min v3 c))).1
    rw [← ic_set, ← ic_set, ← ic_set] at h9
    unfold setD
    rw [HV1.out, HV3.out, ← hW4]
    exact h9
  have HU0 : Hid (W4.ownsRow lo 2 1 (.slice (some ⟨g0, 0, none⟩) n d0) n (ic D)) := Lib.hid (ownsRow_sameG HQ0.out fun b hb9 => hk4.block b (by have e9 : g0 = b := Option.some.inj hb9; have h9 := HN.out; omega) (HQ0.out.lt b hb9).2)
  have HU2 : Hid (W4.ownsRow lo 2 1 (.slice (some ⟨g2, 0, none⟩) n d2) n (ic V)) := Lib.hid (ownsRow_sameG HQ2.out fun b hb9 => hk4.block b (by have e9 : g2 = b := Option.some.inj hb9; have h9 := HN.out; omega) (HQ2.out.lt b hb9).2)
  have HU1 := Lib.hid hq1
  have HT4 := Lib.hid (HT3.out.kept hk4 (by have h9 := HN.out; omega))
  have HB4 : Hid (Below w.heap.size w W4) := Lib.hid (HB3.out.trans (hk4.below (by have h9 := HN.out; omega) HB3.out.size))
  clear hW4 hk4 hq1 HQ0 HQ1 HQ2 HT3 HB3 x1 y0 y1 y2 y3 f0 f1 f2 f3
  have HRn := Lib.hid (l06Run_any t g0 0 g1 0 g2 0 n d0 d1 d2 a len cap D (setD M i c) V Zs W4 (Src.own HU0.out HU1.out HU2.out hn1 hmm) HT4.out (H.out.below HB4.out (Nat.le_refl _)) Hlen.out HDy.out hl hn12 HRg.out HAc.out)
  have hq9 := runTo_len (D := D) (V := V) (Zs := Zs) (M := setD M i c) (by rw [setD_length]; exact HM.out) len (fun j hj => (daysB_at HDy.out (show j < Zs.length by rw [Hlen.out]; exact hj)).1)
  have hen : enB D M V Zs n i c = decide (shoV (runTo D (setD M i c) V Zs n len).G V i len = 0) := by unfold enB; rw [Hlen.out]
  rw [hbb] at hen
  obtain ⟨Q, hQ⟩ : ∃ Q, runTo D (setD M i c) V Zs n len = Q := ⟨_, rfl⟩
  rw [hQ] at HRn hq9 hen
  obtain ⟨-, hq2, -, hq4⟩ := hq9
  have HQ2 := Lib.hid hq2
  have HQ4 := Lib.hid hq4
  have Hen := Lib.hid hen
  clear hen hbb hQ hq2 hq4
  go_wp2_with fail
  refine HRn.out.mono ?_
  rintro e w5 ⟨lo5, f0, f1, f2, y0, y1, y2, ga, gc, za, zc, rfl, -, -, -, -, -, -, hss, -, -, hb⟩
  clear HRn
  have HT5 := Lib.hid (HT4.out.below hb HT4.out.1)
  have HB5 : Hid (Below w.heap.size w w5) := Lib.hid (HB4.out.trans (hb.mono HB4.out.size))
  have HU5 := Lib.hid (owns_row (owns_below HU2.out hb (Nat.le_refl _)))
  have HG5 := Lib.hid hss.row
  clear hb hss HT4 HB4 HU0 HU1 HU2
  go_upto_region 7 with fail
  generalize hW6 : World.alloc w5 _ = W6
  have hb6 : Below w5.heap.size w5 W6 := by rw [← hW6]; exact below1 w5 _
  have HB6 : Hid (Below w.heap.size w W6) := Lib.hid (HB5.out.trans (hb6.mono HB5.out.size))
  have HVl : Hid (V.length = n) := Lib.hid HSrc.out.n2
  have HSh := Lib.hid (l06Short_any t n len gc d2 i _ _ ga (some ⟨g2, 0, none⟩) Q.G V W6 (HT5.out.below hb6 HT5.out.1) (HU5.out.below hb6 (Nat.le_refl _)) HVl.out (HG5.out.below hb6 (Nat.le_refl _)) HQ2.out HQ4.out hi hn12 hl)
  clear hW6 hb6 HT5 HB5 HU5 HG5
  obtain ⟨z, hz⟩ : ∃ z, shoV Q.G V i len = z := ⟨_, rfl⟩
  rw [hz] at HSh
  have he9 := Hen.out
  rw [hz] at he9
  have HE9 := Lib.hid he9
  clear hz he9
  go_wp2_with fail
  refine HSh.out.mono ?_
  rintro e w7 ⟨rfl, hb7⟩
  have HB7 : Hid (Below w.heap.size w w7) := Lib.hid (HB6.out.trans (hb7.mono HB6.out.size))
  clear hb7 HSh
  go_wp2_with fail
  go_ret
  exact ⟨by rw [HE9.out]; first | done | rfl | (congr 3; done) | simp, HB7.out⟩

end Go.Proofs.Ytckmacnmmloemaa
namespace Go.Proofs.Ytckmacnmmloemaa
open Go.RowKit
set_option linter.unusedVariables false
set_option linter.unusedSimpArgs false
set_option maxRecDepth 100000
attribute [local irreducible] wpV wpList Code.wp

set_option maxHeartbeats 16000000 in
theorem leastSize_s (a0 a1 a2 sa : Option Addr) (l0 n l2 c0 c1 c2 len sc : Nat) (D M V : List Int) (Zs : List (List Int)) (i most : Int) (w : World) (hwi : (Lit.int .i64 i).wf = true) (hwm : (Lit.int .i64 most).wf = true) (h0 : RowC w a0 (ic D)) (h1 : RowC w a1 (ic M)) (h2 : RowC w a2 (ic V)) (hD : D.length = l0) (hM : M.length = n * 4) (hV : V.length = l2) (hl : l0 ≤ 1048576 ∧ n ≤ 1048576 ∧ l2 ≤ 1048576) (h : RowSS w sa Zs) (hlen : Zs.length = len) (hrl : ∀ k, k < len → (zr Zs k).length ≤ 1048576) (hll : len ≤ 1048576) :
    Calls Try.prog 34 #[.agg #[.slice a0 l0 c0, .slice a1 n c1, .slice a2 l2 c2], .int .i64 i, .slice sa len sc, .int .i64 most] w (SayZB (leaR D M V n Zs i most) w) := by
  obtain ⟨R, hR⟩ : ∃ R, leaR D M V n Zs i most = R := ⟨_, rfl⟩
  rw [hR]
  have HR := Lib.hid hR
  clear hR
  have hbx := Bx.new w [.slice a0 l0 c0, .slice a1 n c1, .slice a2 l2 c2] 29
  have hbl := bel1 w (.cells #[.slice a0 l0 c0, .slice a1 n c1, .slice a2 l2 c2] 29)
  obtain ⟨W1, hW1⟩ : ∃ W, w.alloc (.cells #[.slice a0 l0 c0, .slice a1 n c1, .slice a2 l2 c2] 29) = W := ⟨_, rfl⟩
  have HX1 : Hid (Bx W1 w.heap.size [.slice a0 l0 c0, .slice a1 n c1, .slice a2 l2 c2]) := Lib.hid (by rw [← hW1]; exact hbx)
  have HB1 : Hid (Below w.heap.size w W1) := Lib.hid (by rw [← hW1]; exact hbl)
  clear hbx hbl
  have HH := Lib.hid (l06Has_any w.heap.size a0 a1 a2 l0 n l2 c0 c1 c2 D M V i W1 HX1.out (h0.below HB1.out (Nat.le_refl _)) (h1.below HB1.out (Nat.le_refl _)) (h2.below HB1.out (Nat.le_refl _)) hD hM hV hl hwi)
  obtain ⟨nb, hnb⟩ : ∃ b, nodeB D M V n i = b := ⟨_, rfl⟩
  rw [hnb] at HH
  have HNB := Lib.hid hnb
  have H0 := Lib.hid h0
  have H1 := Lib.hid h1
  have H2 := Lib.hid h2
  have H := Lib.hid h
  have Hlen := Lib.hid hlen
  have Hrl := Lib.hid hrl
  have HD := Lib.hid hD
  have HM := Lib.hid hM
  have HVl := Lib.hid hV
  have HL := Lib.hid hl
  clear h0 h1 h2 hD hM hV hl h hlen hrl hnb hwi hwm
  go_enter Try.func34, Try.ntmps34
  go_upto_region 1 with fail
  (try rw [hW1])
  clear hW1
  go_wp2_with fail
  refine HH.out.mono ?_
  rintro e w2 ⟨rfl, m2, hw2⟩
  have hb2 : Below W1.heap.size W1 w2 := by rw [hw2]; exact below_drewN (Below.refl _ _) _
  have HB2 : Hid (Below w.heap.size w w2) := Lib.hid (HB1.out.trans (hb2.mono HB1.out.size))
  have HX2 := Lib.hid (HX1.out.below hb2 HX1.out.1)
  clear HH hw2 hb2 HX1 HB1
  cases nb
  · have hv : R = (0, false) := by rw [← HR.out]; unfold leaR; rw [HNB.out]; rfl
    have HV := Lib.hid hv
    clear hv
    go_wp2_with fail
    rw [HV.out]
    exact bodyPost_ret (v := .tuple #[.int .i64 0, .bool false]) (by first | (simp [results, Try.results34, go_sem]; done) | (simp (maxDischargeDepth := 12) [results, Try.results34, go_sem]; done) | (simp (maxDischargeDepth := 12) [results, Try.results34, go_sem]; rfl)) rfl ⟨rfl, HB2.out⟩
  · have hnn := HNB.out
    unfold nodeB at hnn
    rw [Bool.and_eq_true, Bool.and_eq_true, decide_eq_true_eq, decide_eq_true_eq] at hnn
    obtain ⟨hrb, hi0, hi1⟩ := hnn
    have HBB := Lib.hid hrb
    have h9 := rivB_true hrb
    have HT := Lib.hid h9
    have h0n : l0 = n := by have h8 := HD.out; have h7 := h9.1; omega
    have h2n : l2 = n := by have h8 := HVl.out; have h7 := h9.1; omega
    have h12 : n ≤ 12 := by have h7 := h9.1; omega
    have hn1 : 0 < n := by have h7 := h9.1; omega
    clear h9 hrb
    obtain rfl : n = l0 := h0n.symm
    obtain rfl : n = l2 := h2n.symm
    obtain ⟨j, rfl⟩ : ∃ j : Nat, i = (j : Int) := ⟨i.toNat, by omega⟩
    have hjn : j < n := by omega
    clear hi0 hi1
    have x0 := HX2.out.c 0 rfl
    obtain ⟨bd, hbd⟩ : ∃ b, (decide (len ≤ 64) && daysB Zs n) = b := ⟨_, rfl⟩
    have HDd := Lib.hid (l06Days_any sa len sc n Zs w2 (H.out.below HB2.out (Nat.le_refl _)) Hlen.out Hrl.out hll (by omega))
    rw [hbd] at HDd
    have HBD := Lib.hid hbd
    clear hbd
    go_wp2_with fail
    refine HDd.out.mono ?_
    rintro e w3 ⟨rfl, rfl⟩
    clear HDd x0
    cases bd
    · have hv : R = (0, false) := by rw [← HR.out]; unfold leaR; rw [Hlen.out, HBD.out]; simp
      have HV := Lib.hid hv
      clear hv
      go_wp2_with fail
      rw [HV.out]
      exact bodyPost_ret (v := .tuple #[.int .i64 0, .bool false]) (by first | (simp [results, Try.results34, go_sem]; done) | (simp (maxDischargeDepth := 12) [results, Try.results34, go_sem]; done) | (simp (maxDischargeDepth := 12) [results, Try.results34, go_sem]; rfl)) rfl ⟨rfl, HB2.out⟩
    · have hbd := HBD.out
      rw [Bool.and_eq_true, decide_eq_true_eq] at hbd
      obtain ⟨h64, hdy⟩ := hbd
      have HDY := Lib.hid hdy
      clear hdy
      go_wp2_with fail
      refine (l06Unit_any most _).mono ?_
      rintro e w8 ⟨bu, hbu, rfl, rfl⟩
      have HBU := Lib.hid hbu
      clear hbu
      cases bu
      · have hv : R = (0, false) := by rw [← HR.out]; unfold leaR; rw [HBU.out]; simp
        have HV := Lib.hid hv
        clear hv
        go_wp2_with fail
        rw [HV.out]
        exact bodyPost_ret (v := .tuple #[.int .i64 0, .bool false]) (by first | (simp [results, Try.results34, go_sem]; done) | (simp (maxDischargeDepth := 12) [results, Try.results34, go_sem]; done) | (simp (maxDischargeDepth := 12) [results, Try.results34, go_sem]; rfl)) rfl ⟨rfl, HB2.out⟩
      · have hmu := HBU.out
        unfold unitB at hmu
        rw [Bool.and_eq_true, decide_eq_true_eq, decide_eq_true_eq] at hmu
        obtain ⟨hm0, hm1⟩ := hmu
        obtain ⟨ba, oa, b1, o1, b3, o3, rfl, rfl, rfl, hsrc⟩ := Src.of H0.out H1.out H2.out HD.out HM.out HVl.out hn1 (by omega)
        have HSrc := Lib.hid hsrc
        clear hsrc
        have HEn : Hid (∀ (c : Int) (W : World), Below w3.heap.size w3 W → Calls Try.prog 73 #[.pointer (some ⟨w.heap.size, 0, none⟩), .int .i64 (j : Int), .slice sa len sc, .int .i64 c] W fun e w' => e = .returned (.bool (enB D M V Zs n j c)) ∧ Below W.heap.size W w') := Lib.hid fun c W hW => l06Enough_any w.heap.size ba oa b1 o1 b3 o3 n c0 c1 c2 j sa len sc D M V Zs c W (HSrc.out.below (HB2.out.trans (hW.mono HB2.out.size)) (Nat.le_refl _)) (HX2.out.below hW HX2.out.1) (H.out.below (HB2.out.trans (hW.mono HB2.out.size)) (Nat.le_refl _)) Hlen.out HDY.out h64 h12 (rivB_range HBB.out) (by unfold acycB; rw [List.all_eq_true]; intro q hq; rw [decide_eq_true_eq]; exact HT.out.2.2 q (List.mem_range.1 hq)) hjn
        obtain ⟨E, hE⟩ : ∃ E, enB D M V Zs n j = E := ⟨_, rfl⟩
        have HE := Lib.hid hE
        simp only [hE] at HEn
        clear hE
        have HEm := Lib.hid (HEn.out most w3 (Below.refl _ _))
        obtain ⟨be, hbe⟩ : ∃ b, E most = b := ⟨_, rfl⟩
        rw [hbe] at HEm
        have HBE := Lib.hid hbe
        clear hbe
        go_wp2_with fail
        refine HEm.out.mono ?_
        rintro e w4 ⟨rfl, hb4⟩
        have HB4 : Hid (Below w.heap.size w w4) := Lib.hid (HB2.out.trans (hb4.mono HB2.out.size))
        have HW4 := Lib.hid hb4
        clear HEm hb4
        cases be
        · have hv : R = (0, false) := by rw [← HR.out]; unfold leaR; rw [Int.toNat_natCast, HE.out, HBE.out]; simp
          have HV := Lib.hid hv
          clear hv
          go_wp2_with fail
          rw [HV.out]
          exact bodyPost_ret (v := .tuple #[.int .i64 0, .bool false]) (by first | (simp [results, Try.results34, go_sem]; done) | (simp (maxDischargeDepth := 12) [results, Try.results34, go_sem]; done) | (simp (maxDischargeDepth := 12) [results, Try.results34, go_sem]; rfl)) rfl ⟨rfl, HB4.out⟩
        · have hv : R = (leaG E (-1) most, true) := by rw [← HR.out]; unfold leaR; rw [HNB.out, Hlen.out, HBD.out, HBU.out, Int.toNat_natCast, HE.out, HBE.out]; rfl
          have HV := Lib.hid hv
          clear hv
          obtain ⟨T, hT⟩ : ∃ T, leaG E (-1) most = T := ⟨_, rfl⟩
          rw [hT] at HV
          have HT9 := Lib.hid hT
          clear hT
          go_wp2_with fail
          go_loopw [10, 11] (fun lv hv wr => ∃ low high : Int, lv = .int .i64 low ∧ hv = .int .i64 high ∧ Hid (leaG E low high = T) ∧ Hid (-1 ≤ low ∧ low < high ∧ high ≤ 1000000000) ∧ Hid (Below w3.heap.size w3 wr)) (fun lv hv _ => (intOf hv - intOf lv).toNat)
          case atStart => exact ⟨-1, most, rfl, rfl, HT9, Lib.hid ⟨Int.le_refl _, by omega, hm1⟩, HW4⟩
          case round =>
          obtain ⟨low, high, rfl, rfl, HG, HLH, HW⟩ := hrel
          obtain ⟨k1, k2, k3⟩ := HLH.out
          by_cases hlt : low + 1 < high
          · have hst := leaG_step E hlt
            rw [HG.out] at hst
            obtain ⟨c, hc⟩ : ∃ c, (low + high) / 2 = c := ⟨_, rfl⟩
            have hc2 : low + (high - low) / 2 = c := by omega
            have hc3 : low < c ∧ c < high := by omega
            rw [hc] at hst
            have HC := Lib.hid (HEn.out c wr HW.out)
            obtain ⟨bc, hbc⟩ : ∃ b, E c = b := ⟨_, rfl⟩
            rw [hbc] at HC hst
            have Hst := Lib.hid hst
            have hdv : 0 ≤ high - low ∧ high - low ≤ 1000000001 := by omega
            clear hst hc hbc
            go_wp2_with fail
            refine HC.out.mono ?_
            rintro e w5 ⟨rfl, hb5⟩
            have HW5 : Hid (Below w3.heap.size w3 w5) := Lib.hid (HW.out.trans (hb5.mono HW.out.size))
            clear HC hb5
            cases bc
            · have HG1 : Hid (leaG E c high = T) := Lib.hid Hst.out.symm
              go_wp2_with fail
              go_roundw
              case rel => exact ⟨c, high, rfl, rfl, HG1, Lib.hid ⟨by omega, by omega, k3⟩, HW5⟩
              case measure => simp [intOf]; omega
            · have HG1 : Hid (leaG E low c = T) := Lib.hid Hst.out.symm
              go_wp2_with fail
              go_roundw
              case rel => exact ⟨low, c, rfl, rfl, HG1, Lib.hid ⟨k1, by omega, by omega⟩, HW5⟩
              case measure => simp [intOf]; omega
          · have hend := leaG_end E hlt
            rw [HG.out] at hend
            subst hend
            go_wp2_with fail
            rw [HV.out]
            exact bodyPost_ret (v := .tuple #[.int .i64 T, .bool true]) (by first | (simp [results, Try.results34, go_sem, *]; done) | (simp (maxDischargeDepth := 12) [results, Try.results34, go_sem, *]; done) | (simp (maxDischargeDepth := 12) [results, Try.results34, go_sem, *]; rfl)) rfl ⟨rfl, HB2.out.trans (HW.out.mono HB2.out.size)⟩
end Go.Proofs.Ytckmacnmmloemaa
