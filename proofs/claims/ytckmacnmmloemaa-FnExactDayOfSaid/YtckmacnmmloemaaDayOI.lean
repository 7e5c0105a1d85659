/- A day of a river: the program's contract. -/
import Derived.Test.YtckmacnmmloemaaDayP
import Derived.Test.YtckmacnmmloemaaValRI
import Derived.Test.YtckmacnmmloemaaOwnI
import Derived.Test.YtckmacnmmloemaaDayI
import Derived.Test.YtckmacnmmloemaaOrdI
import Derived.Test.YtckmacnmmloemaaSetV
import Derived.Deep.RegionHeld3
namespace Go.Proofs.Ytckmacnmmloemaa
open Go.RowKit
set_option linter.unusedVariables false
set_option linter.unusedSimpArgs false
set_option maxRecDepth 100000
attribute [local irreducible] wpV wpList Code.wp

set_option maxHeartbeats 16000000 in
theorem dayOf_i (a0 a1 a2 a : Option Addr) (l0 n l2 c0 c1 c2 len cap : Nat) (D M V I : List Int) (w : World) (h0 : RowC w a0 (ic D)) (h1 : RowC w a1 (ic M)) (h2 : RowC w a2 (ic V)) (hD : D.length = l0) (hM : M.length = n * 4) (hV : V.length = l2) (hl : l0 ≤ 1048576 ∧ n ≤ 1048576 ∧ l2 ≤ 1048576) (h : RowC w a (ic I)) (hlen : I.length = len) (hlI : len ≤ 1048576) :
    Calls Try.prog 16 #[.agg #[.slice a0 l0 c0, .slice a1 n c1, .slice a2 l2 c2], .slice a len cap] w (DayP (dayR D M V n I) w) := by
  obtain ⟨R, hR⟩ : ∃ R, dayR D M V n I = R := ⟨_, rfl⟩
  rw [hR]
  have HR := Lib.hid hR
  clear hR
  have H0 := Lib.hid h0
  have H1 := Lib.hid h1
  have H2 := Lib.hid h2
  have HI := Lib.hid h
  have HIl := Lib.hid hlen
  have HM := Lib.hid hM
  have HD := Lib.hid hD
  have HVl := Lib.hid hV
  have HL := Lib.hid hl
  have HLI := Lib.hid hlI
  obtain ⟨bb, hbb⟩ : ∃ b, rivB D M V n = b := ⟨_, rfl⟩
  go_enter Try.func16, Try.ntmps16
  go_upto_region 1 with fail
  skip
  generalize hW1 : World.alloc (World.alloc w _) _ = W1
  have HB0 : Hid (Below w.heap.size w W1) := Lib.hid (by rw [← hW1]; exact below2 w _ _)
  have HX0 : Hid (Bw W1 w.heap.size [.slice a0 l0 c0, .slice a1 n c1, .slice a2 l2 c2]) := Lib.hid (by rw [← hW1]; exact (Bw.new w [.slice a0 l0 c0, .slice a1 n c1, .slice a2 l2 c2] _).alloc _)
  have HP0 : Hid (Bw W1 (w.heap.size + 1) [.slice none 0 0, .slice none 0 0, .slice none 0 0]) := Lib.hid (by rw [← hW1]; exact Bw.new1G w _ [.slice none 0 0, .slice none 0 0, .slice none 0 0] _)
  have HS0 : Hid (W1.heap.size = w.heap.size + 2) := Lib.hid (by rw [← hW1]; simp)
  clear hW1
  have HC := Lib.hid (validRiver_i a0 a1 a2 l0 n l2 c0 c1 c2 D M V W1 (h0.below HB0.out (Nat.le_refl _)) (h1.below HB0.out (Nat.le_refl _)) (h2.below HB0.out (Nat.le_refl _)) hD hM hV hl)
  rw [hbb] at HC
  have HBB := Lib.hid hbb
  clear h0 h1 h2 hD hM hV hl hbb h hlen hlI
  have x0 := HX0.out.c 0 rfl
  have x1 := HX0.out.c 1 rfl
  have x2 := HX0.out.c 2 rfl
  go_wp2_with fail
  refine HC.out.mono ?_
  rintro e w1 ⟨b9, hb9, rfl, hb⟩
  subst hb9
  clear HC x0 x1 x2
  have HB1 : Hid (Below w.heap.size w w1) := Lib.hid (HB0.out.trans (hb.mono HB0.out.size))
  have HX1 := Lib.hid (HX0.out.below hb HX0.out.1.1)
  have HP1 := Lib.hid (HP0.out.below hb HP0.out.1.1)
  have HS1 : Hid (w.heap.size + 2 ≤ w1.heap.size) := Lib.hid (by have h9 := hb.size; have h8 := HS0.out; omega)
  clear hb HB0 HX0 HP0 HS0
  cases bb
  · have q0 := HP1.out.c 0 rfl
    have q1 := HP1.out.c 1 rfl
    have q2 := HP1.out.c 2 rfl
    have f0 := HP1.out.f 0 (by simp)
    have f1 := HP1.out.f 1 (by simp)
    have f2 := HP1.out.f 2 (by simp)
    have hv : R = failD := by rw [← HR.out]; unfold dayR; rw [HBB.out]; rfl
    have HV := Lib.hid hv
    clear hv
    go_wp2_with fail
    rw [HV.out]
    exact bodyPost_ret (v := .tuple #[.agg #[.slice none 0 0, .slice none 0 0, .slice none 0 0], .slice none 0 0, .slice none 0 0, .bool false]) (by first | (simp [results, Try.results16, go_sem, *]; done) | (simp (maxDischargeDepth := 12) [results, Try.results16, go_sem, *]; done) | (simp (maxDischargeDepth := 12) [results, Try.results16, go_sem, *]; rfl)) rfl (DayP.no (((HB1.out.setCell (by show w.heap.size ≤ (w.heap.size + 1); omega) _).setCell (by show w.heap.size ≤ (w.heap.size + 1); omega) _).setCell (by show w.heap.size ≤ (w.heap.size + 1); omega) _))
  · have HT := Lib.hid (rivB_true HBB.out)
    have h0n : l0 = n := by have h7 := HT.out.1; have h8 := HD.out; omega
    have h2n : l2 = n := by have h7 := HT.out.1; have h8 := HVl.out; omega
    subst h0n; subst h2n
    obtain ⟨b2, hb2⟩ : ∃ b, inflB I len l2 = b := ⟨_, rfl⟩
    have HIn := Lib.hid (isDayOf_any a0 a1 a2 a l2 l2 l2 c0 c1 c2 len cap I w1 (HI.out.below HB1.out (Nat.le_refl _)) HIl.out HLI.out (by have h9 := HL.out; omega))
    rw [hb2] at HIn
    have HB2 := Lib.hid hb2
    clear hb2
    have x0 := HX1.out.c 0 rfl
    have x1 := HX1.out.c 1 rfl
    have x2 := HX1.out.c 2 rfl
    go_wp2_with fail
    refine HIn.out.mono ?_
    rintro e w2 ⟨rfl, hb⟩
    clear HIn x0 x1 x2
    have HBw : Hid (Below w.heap.size w w2) := Lib.hid (HB1.out.trans (hb.mono HB1.out.size))
    have HX2 := Lib.hid (HX1.out.below hb HX1.out.1.1)
    have HP2 := Lib.hid (HP1.out.below hb HP1.out.1.1)
    have HS2 : Hid (w.heap.size + 2 ≤ w2.heap.size) := Lib.hid (by have h9 := hb.size; have h8 := HS1.out; omega)
    clear hb HB1 HX1 HP1 HS1
    cases b2
    · have q0 := HP2.out.c 0 rfl
      have q1 := HP2.out.c 1 rfl
      have q2 := HP2.out.c 2 rfl
      have f0 := HP2.out.f 0 (by simp)
      have f1 := HP2.out.f 1 (by simp)
      have f2 := HP2.out.f 2 (by simp)
      have hv : R = failD := by rw [← HR.out]; unfold dayR; rw [HBB.out, HIl.out, HB2.out]; rfl
      have HV := Lib.hid hv
      clear hv
      go_wp2_with fail
      rw [HV.out]
      exact bodyPost_ret (v := .tuple #[.agg #[.slice none 0 0, .slice none 0 0, .slice none 0 0], .slice none 0 0, .slice none 0 0, .bool false]) (by first | (simp [results, Try.results16, go_sem, *]; done) | (simp (maxDischargeDepth := 12) [results, Try.results16, go_sem, *]; done) | (simp (maxDischargeDepth := 12) [results, Try.results16, go_sem, *]; rfl)) rfl (DayP.no (((HBw.out.setCell (by show w.heap.size ≤ (w.heap.size + 1); omega) _).setCell (by show w.heap.size ≤ (w.heap.size + 1); omega) _).setCell (by show w.heap.size ≤ (w.heap.size + 1); omega) _))
    · have hin : len = l2 := by have h9 := HB2.out; unfold inflB at h9; rw [Bool.and_eq_true, decide_eq_true_eq] at h9; exact h9.1
      subst hin
      have hpos : 0 < len := by have h7 := HT.out.1; omega
      have h12 : len ≤ 12 := by have h7 := HT.out.1; omega
      obtain ⟨ba, oa, b1, o1, b3, o3, rfl, rfl, rfl, hsrc⟩ := Src.of (H0.out.below HBw.out (Nat.le_refl _)) (H1.out.below HBw.out (Nat.le_refl _)) (H2.out.below HBw.out (Nat.le_refl _)) HD.out HM.out HVl.out hpos (by omega)
      obtain ⟨bi, oi, rfl, hbi, hci⟩ : ∃ b off, a = some ⟨b, off, none⟩ ∧ b < w.heap.size ∧ ∀ i, i < I.length → w.cell? ⟨b, off + i, none⟩ = some (.int .i64 (I.getD i 0)) := by
          rcases HI.out.ints with h9 | h9
          · have h8 := HIl.out; rw [h9, List.length_nil] at h8; omega
          · exact h9
      have Hbi := Lib.hid hbi
      have Hci := Lib.hid hci
      obtain ⟨O, hO⟩ : ∃ O, kahn D len = O := ⟨_, rfl⟩
      have hac : acycB D = true := by unfold acycB; rw [List.all_eq_true]; intro i hi; rw [decide_eq_true_eq]; exact HT.out.2.2 i (List.mem_range.1 hi)
      have HOl : Hid (O.length = len) := Lib.hid (by rw [← hO]; have h9 := kahn_full hac len (by rw [HD.out]; exact Nat.le_refl _); exact h9)
      have HOt : Hid (∀ k, k < len → O.getD k 0 < len) := Lib.hid (fun k hk => by have h9 := kahn_at (D := D) (t := len) (k := k) (by rw [hO, HOl.out]; exact hk); rw [hO, HD.out] at h9; exact h9)
      obtain ⟨S, hS⟩ : ∃ S, dayTo D M V I len O len = S := ⟨_, rfl⟩
      have hv : R = ⟨len, D, S.M, V, S.G, S.L, true⟩ := by rw [← HR.out]; unfold dayR; rw [HBB.out, HIl.out, HB2.out, hO, hS]; rfl
      have HV := Lib.hid hv
      have HO := Lib.hid hO
      have HSe := Lib.hid hS
      clear hv hS hO hac hbi hci
      have HOw := Lib.hid (ownRiver_any ba oa b1 o1 b3 o3 len c0 c1 c2 D M V w2 hsrc)
      clear hsrc
      have x0 := HX2.out.c 0 rfl
      have x1 := HX2.out.c 1 rfl
      have x2 := HX2.out.c 2 rfl
      go_wp2_with fail
      refine HOw.out.mono ?_
      rintro e w3 ⟨lo, g0, g1, g2, d0, d1, d2, rfl, r0, r1, r2, n01, n02, n12, hlo, hb⟩
      clear HOw x0 x1 x2
      have HB3 : Hid (Below w.heap.size w w3) := Lib.hid (HBw.out.trans (hb.mono HBw.out.size))
      have HX3 := Lib.hid (HX2.out.below hb HX2.out.1.1)
      have HP3 := Lib.hid (HP2.out.below hb HP2.out.1.1)
      have HNum : Hid (w.heap.size + 2 ≤ lo ∧ lo ≤ g0 ∧ lo ≤ g1 ∧ lo ≤ g2 ∧ g0 < w3.heap.size ∧ g1 < w3.heap.size ∧ g2 < w3.heap.size) := Lib.hid (by have k0 := r0.lt g0 rfl; have k1 := r1.lt g1 rfl; have k2 := r2.lt g2 rfl; have k5 := HS2.out; omega)
      have HNn : Hid (g0 ≠ g1 ∧ g0 ≠ g2 ∧ g1 ≠ g2) := Lib.hid ⟨n01, n02, n12⟩
      have HR0 := Lib.hid r0
      have HR1 := Lib.hid r1
      have HR2 := Lib.hid r2
      clear hb HBw HX2 HP2 r0 r1 r2 n01 n02 n12 hlo HS2
      have y0 := HX3.out.c 0 rfl
      have y1 := HX3.out.c 1 rfl
      have y2 := HX3.out.c 2 rfl
      have z0 := HX3.out.f 0 (by simp)
      have z1 := HX3.out.f 1 (by simp)
      have z2 := HX3.out.f 2 (by simp)
      go_upto_region 4 with fail
      generalize hW4 : World.setCell _ _ _ = W4
      have hS4 : W4.heap.size = w3.heap.size := by rw [← hW4]; simp [setCell_size]
      have HX4 : Hid (Bw W4 w.heap.size [.slice (some ⟨g0, 0, none⟩) len d0, .slice (some ⟨g1, 0, none⟩) len d1, .slice (some ⟨g2, 0, none⟩) len d2]) := Lib.hid (by rw [← hW4]; exact (((HX3.out.put 0 (by simp) (.slice (some ⟨g0, 0, none⟩) len d0)).put 1 (by simp) (.slice (some ⟨g1, 0, none⟩) len d1)).put 2 (by simp) (.slice (some ⟨g2, 0, none⟩) len d2)))
      have HP4 : Hid (Bw W4 (w.heap.size + 1) [.slice none 0 0, .slice none 0 0, .slice none 0 0]) := Lib.hid (by rw [← hW4]; exact (((HP3.out.setOther (p := ⟨w.heap.size, 0, none⟩) (by show w.heap.size ≠ w.heap.size + 1; omega) _).setOther (p := ⟨w.heap.size, 1, none⟩) (by show w.heap.size ≠ w.heap.size + 1; omega) _).setOther (p := ⟨w.heap.size, 2, none⟩) (by show w.heap.size ≠ w.heap.size + 1; omega) _))
      have HB4 : Hid (Below w.heap.size w W4) := Lib.hid (by rw [← hW4]; exact (((HB3.out.setCell (p := ⟨w.heap.size, 0, none⟩) (Nat.le_refl _) _).setCell (p := ⟨w.heap.size, 1, none⟩) (Nat.le_refl _) _).setCell (p := ⟨w.heap.size, 2, none⟩) (Nat.le_refl _) _))
      have HU0 : Hid (W4.ownsRow lo 2 1 (.slice (some ⟨g0, 0, none⟩) len d0) len (ic D)) := Lib.hid (by rw [← hW4]; exact (owns_far (owns_far (owns_far HR0.out (by have h9 := HNum.out; simp [Value.ownBlock]; omega) _) (by have h9 := HNum.out; simp [Value.ownBlock]; omega) _) (by have h9 := HNum.out; simp [Value.ownBlock]; omega) _))
      have HU1 : Hid (W4.ownsRow lo 98 4 (.slice (some ⟨g1, 0, none⟩) len d1) len (ic M)) := Lib.hid (by rw [← hW4]; exact (owns_far (owns_far (owns_far HR1.out (by have h9 := HNum.out; simp [Value.ownBlock]; omega) _) (by have h9 := HNum.out; simp [Value.ownBlock]; omega) _) (by have h9 := HNum.out; simp [Value.ownBlock]; omega) _))
      have HU2 : Hid (W4.ownsRow lo 2 1 (.slice (some ⟨g2, 0, none⟩) len d2) len (ic V)) := Lib.hid (by rw [← hW4]; exact (owns_far (owns_far (owns_far HR2.out (by have h9 := HNum.out; simp [Value.ownBlock]; omega) _) (by have h9 := HNum.out; simp [Value.ownBlock]; omega) _) (by have h9 := HNum.out; simp [Value.ownBlock]; omega) _))
      have HM4 : Hid (g0 < W4.heap.size ∧ g1 < W4.heap.size ∧ g2 < W4.heap.size ∧ lo ≤ W4.heap.size) := Lib.hid (by rw [hS4]; have h9 := HNum.out; omega)
      clear hW4 hS4 HX3 HP3 HB3 HR0 HR1 HR2 y0 y1 y2 z0 z1 z2
      have K0 : Hid (Below W4.heap.size W4 W4) := Lib.hid (Below.refl _ _)
      have HKeep : Hid (∀ W, Below lo W4 W → (W.cell? ⟨w.heap.size, 0, none⟩ = some (.slice (some ⟨g0, 0, none⟩) len d0) ∧ W.cell? ⟨w.heap.size, 1, none⟩ = some (.slice (some ⟨g1, 0, none⟩) len d1) ∧ W.cell? ⟨w.heap.size, 2, none⟩ = some (.slice (some ⟨g2, 0, none⟩) len d2))) := Lib.hid fun W hW => ⟨(hW.cell (p := ⟨w.heap.size, 0, none⟩) (by have h9 := HNum.out; show w.heap.size < lo; omega)).trans (HX4.out.c 0 rfl), (hW.cell (p := ⟨w.heap.size, 1, none⟩) (by have h9 := HNum.out; show w.heap.size < lo; omega)).trans (HX4.out.c 1 rfl), (hW.cell (p := ⟨w.heap.size, 2, none⟩) (by have h9 := HNum.out; show w.heap.size < lo; omega)).trans (HX4.out.c 2 rfl)⟩
      have HOr : Hid (∀ W, Below W4.heap.size W4 W → Calls Try.prog 59 #[.slice (some ⟨g0, 0, none⟩) len d0] W fun e w' => ∃ g c, e = .returned (.slice (some ⟨g, 0, none⟩) len c) ∧ w'.ownsRow lo 2 1 (.slice (some ⟨g, 0, none⟩) len c) len (ic (ints O)) ∧ W4.heap.size ≤ g ∧ Below W.heap.size W w') := Lib.hid fun W hW => (orderOf_any (some ⟨g0, 0, none⟩) len d0 D W (owns_row (owns_below HU0.out hW (Nat.le_refl _))) HD.out hpos (by omega) (rivB_range HBB.out)).mono (by
          rintro e w' ⟨g, c, rfl, hrow, hb⟩
          have h9 := (hrow.lt g rfl).1
          have h8 := hW.size
          have h7 := HM4.out
          rw [HO.out, HOl.out] at hrow
          rw [HO.out, HOl.out]
          exact ⟨g, c, rfl, owns_lo hrow (by omega), by omega, hb⟩)
      have HPd : Hid (∀ (gO eO : Nat) (W : World), Below W4.heap.size W4 W → W.ownsRow lo 2 1 (.slice (some ⟨gO, 0, none⟩) len eO) len (ic (ints O)) → W4.heap.size ≤ gO → Calls Try.prog 58 #[.agg #[.slice (some ⟨g0, 0, none⟩) len d0, .slice (some ⟨g1, 0, none⟩) len d1, .slice (some ⟨g2, 0, none⟩) len d2], .slice (some ⟨gO, 0, none⟩) len eO, .slice (some ⟨bi, oi, none⟩) len cap] W (PasQ D V S O len lo g0 g1 g2 gO d0 d1 d2 eO W)) := Lib.hid fun gO eO W hW hr hg => by
        have h9 : Below w.heap.size w W := HB4.out.trans (hW.mono HB4.out.size)
        have h8 := HM4.out
        have h7 := HNn.out
        have h6 := passDay_any g0 g1 g2 gO len d0 d1 d2 eO bi oi cap lo D M V I O W (owns_below HU0.out hW (Nat.le_refl _)) (owns_below HU1.out hW (Nat.le_refl _)) (owns_below HU2.out hW (Nat.le_refl _)) hr ⟨h7.1, fun e => h7.2.2 e.symm, by omega⟩ (Nat.lt_of_lt_of_le Hbi.out h9.size) (fun j hj => by rw [h9.cell (p := ⟨bi, oi + j, none⟩) Hbi.out]; exact Hci.out j hj) HIl.out HD.out HM.out HVl.out HOl.out HOt.out hpos h12 (rivB_range HBB.out)
        rw [HSe.out] at h6
        exact h6
      have xx0 := HX4.out.c 0 rfl
      have xx1 := HX4.out.c 1 rfl
      have xx2 := HX4.out.c 2 rfl
      go_wp2_with fail
      go_region_held3 (fun W => W.cell? ⟨w.heap.size, 0, none⟩ = some (.slice (some ⟨g0, 0, none⟩) len d0) ∧ W.cell? ⟨w.heap.size, 1, none⟩ = some (.slice (some ⟨g1, 0, none⟩) len d1) ∧ W.cell? ⟨w.heap.size, 2, none⟩ = some (.slice (some ⟨g2, 0, none⟩) len d2))
        (first | with_reducible exact HKeep.out _ K2.out | with_reducible exact HKeep.out _ K2.out.drew | with_reducible exact HKeep.out _ (K1.out.mono HM4.out.2.2.2) | with_reducible exact HKeep.out _ (K1.out.mono HM4.out.2.2.2).drew | with_reducible exact HKeep.out _ (K0.out.mono HM4.out.2.2.2) | with_reducible exact HKeep.out _ (K0.out.mono HM4.out.2.2.2).drew | fail)
        (first | (go_at_call 59; refine (HOr.out _ (by first | with_reducible exact K0.out | with_reducible exact K0.out.drew)).mono ?_; rintro e w5 ⟨gO, eO, rfl, hrow, hgO, hb⟩; have K1 : Hid (Below W4.heap.size W4 w5) := Lib.hid (Below.trans (by first | with_reducible exact K0.out | with_reducible exact K0.out.drew) (hb.mono (by first | exact Nat.le_refl _ | exact Below.size (by first | with_reducible exact K0.out | with_reducible exact K0.out.drew)))); have HRo := Lib.hid hrow; have HGo := Lib.hid hgO; clear hrow hgO hb) | (go_at_call 58; refine (HPd.out gO eO _ (by first | with_reducible exact K1.out | with_reducible exact K1.out.drew) (by first | exact HRo.out | exact owns_below HRo.out (Below.refl _ _).drew (Nat.le_refl _)) HGo.out).mono ?_; rintro e w6 ⟨h1, h2, rfl, q0, q1, q2, qO, qG, qL, ⟨m1, m2, nh⟩, hb⟩; have K2 : Hid (Below lo W4 w6) := Lib.hid ((Below.mono (by first | with_reducible exact K1.out | with_reducible exact K1.out.drew) HM4.out.2.2.2).trans hb); have HQ0 := Lib.hid q0; have HQ1 := Lib.hid q1; have HQ2 := Lib.hid q2; have HQ3 := Lib.hid qG; have HQ4 := Lib.hid qL; have Hh : Hid (W4.heap.size ≤ h1 ∧ W4.heap.size ≤ h2 ∧ h1 ≠ h2) := Lib.hid ⟨Nat.le_trans (Below.size (by first | with_reducible exact K1.out | with_reducible exact K1.out.drew)) m1, Nat.le_trans (Below.size (by first | with_reducible exact K1.out | with_reducible exact K1.out.drew)) m2, nh⟩; clear q0 q1 q2 qO qG qL m1 m2 nh hb) | fail)
      clear xx0 xx1 xx2
      have HP6 := Lib.hid (HP4.out.below K2.out (by have h9 := HNum.out; omega))
      have kk := HKeep.out _ K2.out
      obtain ⟨kk0, kk1, kk2⟩ := kk
      have q0 := HP6.out.c 0 rfl
      have q1 := HP6.out.c 1 rfl
      have q2 := HP6.out.c 2 rfl
      have f0 := HP6.out.f 0 (by simp)
      have f1 := HP6.out.f 1 (by simp)
      have f2 := HP6.out.f 2 (by simp)
      have HB6 : Hid (Below w.heap.size w w6) := Lib.hid (HB4.out.trans (K2.out.mono (by have h9 := HNum.out; omega)))
      go_wp2_with fail
      rw [HV.out]
      refine bodyPost_ret (v := .tuple #[.agg #[.slice (some ⟨g0, 0, none⟩) len d0, .slice (some ⟨g1, 0, none⟩) len d1, .slice (some ⟨g2, 0, none⟩) len d2], .slice (some ⟨h1, 0, none⟩) len len, .slice (some ⟨h2, 0, none⟩) len len, .bool true]) (by first | (simp [results, Try.results16, go_sem, *]; done) | (simp (maxDischargeDepth := 12) [results, Try.results16, go_sem, *]; done) | (simp (maxDischargeDepth := 12) [results, Try.results16, go_sem, *]; rfl)) rfl (DayP.yes (lo := lo) (t := W4.heap.size) ?_ ?_ ?_ ?_ ?_ HNn.out.1 HNn.out.2.1 HNn.out.2.2 Hh.out.2.2 ⟨HM4.out.1, HM4.out.2.1, HM4.out.2.2.1, Hh.out.1, Hh.out.2.1⟩ (by have h9 := HNum.out; omega) ?_)
      · exact (owns_far (owns_far (owns_far HQ0.out (by have h9 := HNum.out; have h8 := HM4.out; have h7 := Hh.out; simp [Value.ownBlock]; omega) _) (by have h9 := HNum.out; have h8 := HM4.out; have h7 := Hh.out; simp [Value.ownBlock]; omega) _) (by have h9 := HNum.out; have h8 := HM4.out; have h7 := Hh.out; simp [Value.ownBlock]; omega) _)
      · exact (owns_far (owns_far (owns_far HQ1.out (by have h9 := HNum.out; have h8 := HM4.out; have h7 := Hh.out; simp [Value.ownBlock]; omega) _) (by have h9 := HNum.out; have h8 := HM4.out; have h7 := Hh.out; simp [Value.ownBlock]; omega) _) (by have h9 := HNum.out; have h8 := HM4.out; have h7 := Hh.out; simp [Value.ownBlock]; omega) _)
      · exact (owns_far (owns_far (owns_far HQ2.out (by have h9 := HNum.out; have h8 := HM4.out; have h7 := Hh.out; simp [Value.ownBlock]; omega) _) (by have h9 := HNum.out; have h8 := HM4.out; have h7 := Hh.out; simp [Value.ownBlock]; omega) _) (by have h9 := HNum.out; have h8 := HM4.out; have h7 := Hh.out; simp [Value.ownBlock]; omega) _)
      · exact (owns_far (owns_far (owns_far HQ3.out (by have h9 := HNum.out; have h8 := HM4.out; have h7 := Hh.out; simp [Value.ownBlock]; omega) _) (by have h9 := HNum.out; have h8 := HM4.out; have h7 := Hh.out; simp [Value.ownBlock]; omega) _) (by have h9 := HNum.out; have h8 := HM4.out; have h7 := Hh.out; simp [Value.ownBlock]; omega) _)
      · exact (owns_far (owns_far (owns_far HQ4.out (by have h9 := HNum.out; have h8 := HM4.out; have h7 := Hh.out; simp [Value.ownBlock]; omega) _) (by have h9 := HNum.out; have h8 := HM4.out; have h7 := Hh.out; simp [Value.ownBlock]; omega) _) (by have h9 := HNum.out; have h8 := HM4.out; have h7 := Hh.out; simp [Value.ownBlock]; omega) _)
      · exact (((HB6.out.setCell (by show w.heap.size ≤ w.heap.size + 1; omega) _).setCell (by show w.heap.size ≤ w.heap.size + 1; omega) _).setCell (by show w.heap.size ≤ w.heap.size + 1; omega) _)

end Go.Proofs.Ytckmacnmmloemaa
