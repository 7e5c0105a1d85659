/- A day of a river: the model's contract. -/
import Derived.Test.YtckmacnmmloemaaDayP
import Derived.Test.YtckmacnmmloemaaRivS
import Derived.Test.YtckmacnmmloemaaOrdR
import Derived.Test.YtckmacnmmloemaaSetV
namespace Go.Proofs.Ytckmacnmmloemaa
open Go.RowKit
set_option linter.unusedVariables false
set_option linter.unusedSimpArgs false
set_option maxRecDepth 100000
attribute [local irreducible] wpV wpList Code.wp

set_option maxHeartbeats 16000000 in
theorem dayOf_s (a0 a1 a2 a : Option Addr) (l0 n l2 c0 c1 c2 len cap : Nat) (D M V I : List Int) (w : World) (h0 : RowC w a0 (ic D)) (h1 : RowC w a1 (ic M)) (h2 : RowC w a2 (ic V)) (hD : D.length = l0) (hM : M.length = n * 4) (hV : V.length = l2) (hl : l0 ≤ 1048576 ∧ n ≤ 1048576 ∧ l2 ≤ 1048576) (h : RowC w a (ic I)) (hlen : I.length = len) (hlI : len ≤ 1048576) :
    Calls Try.prog 13 #[.agg #[.slice a0 l0 c0, .slice a1 n c1, .slice a2 l2 c2], .slice a len cap] w (DayP (dayR D M V n I) w) := by
  obtain ⟨R, hR⟩ : ∃ R, dayR D M V n I = R := ⟨_, rfl⟩
  rw [hR]
  have HR := Lib.hid hR
  clear hR
  have H0 := Lib.hid h0
  have H1 := Lib.hid h1
  have H2 := Lib.hid h2
  have HI := Lib.hid h
  have HIl := Lib.hid hlen
  have HM := Lib.hid hM
  have HD := Lib.hid hD
  have HVl := Lib.hid hV
  have HL := Lib.hid hl
  have HLI := Lib.hid hlI
  obtain ⟨bb, hbb⟩ : ∃ b, rivB D M V n = b := ⟨_, rfl⟩
  go_enter Try.func13, Try.ntmps13
  go_upto_region 1 with fail
  skip
  generalize hW1 : World.alloc (World.alloc w _) _ = W1
  have HB0 : Hid (Below w.heap.size w W1) := Lib.hid (by rw [← hW1]; exact below2 w _ _)
  have HX0 : Hid (Bw W1 w.heap.size [.slice a0 l0 c0, .slice a1 n c1, .slice a2 l2 c2]) := Lib.hid (by rw [← hW1]; exact (Bw.new w [.slice a0 l0 c0, .slice a1 n c1, .slice a2 l2 c2] _).alloc _)
  have HP0 : Hid (Bw W1 (w.heap.size + 1) [.slice none 0 0, .slice none 0 0, .slice none 0 0]) := Lib.hid (by rw [← hW1]; exact Bw.new1G w _ [.slice none 0 0, .slice none 0 0, .slice none 0 0] _)
  have HS0 : Hid (W1.heap.size = w.heap.size + 2) := Lib.hid (by rw [← hW1]; simp)
  clear hW1
  have HC := Lib.hid (l06Is_any w.heap.size a0 a1 a2 l0 n l2 c0 c1 c2 D M V W1 HX0.out.1 (h0.below HB0.out (Nat.le_refl _)) (h1.below HB0.out (Nat.le_refl _)) (h2.below HB0.out (Nat.le_refl _)) hD hM hV hl)
  rw [hbb] at HC
  have HBB := Lib.hid hbb
  clear h0 h1 h2 hD hM hV hl hbb h hlen hlI
  go_wp2_with fail
  refine HC.out.mono ?_
  rintro e w1 ⟨rfl, m, hw1⟩
  have hb : Below W1.heap.size W1 w1 := by rw [hw1]; exact below_drewN (Below.refl _ _) _
  clear hw1 HC
  have HB1 : Hid (Below w.heap.size w w1) := Lib.hid (HB0.out.trans (hb.mono HB0.out.size))
  have HX1 := Lib.hid (HX0.out.below hb HX0.out.1.1)
  have HP1 := Lib.hid (HP0.out.below hb HP0.out.1.1)
  have HS1 : Hid (w.heap.size + 2 ≤ w1.heap.size) := Lib.hid (by have h9 := hb.size; have h8 := HS0.out; omega)
  clear hb HB0 HX0 HP0 HS0
  cases bb
  · have q0 := HP1.out.c 0 rfl
    have q1 := HP1.out.c 1 rfl
    have q2 := HP1.out.c 2 rfl
    have f0 := HP1.out.f 0 (by simp)
    have f1 := HP1.out.f 1 (by simp)
    have f2 := HP1.out.f 2 (by simp)
    have hv : R = failD := by rw [← HR.out]; unfold dayR; rw [HBB.out]; rfl
    have HV := Lib.hid hv
    clear hv
    go_wp2_with fail
    rw [HV.out]
    exact bodyPost_ret (v := .tuple #[.agg #[.slice none 0 0, .slice none 0 0, .slice none 0 0], .slice none 0 0, .slice none 0 0, .bool false]) (by first | (simp [results, Try.results13, go_sem, *]; done) | (simp (maxDischargeDepth := 12) [results, Try.results13, go_sem, *]; done) | (simp (maxDischargeDepth := 12) [results, Try.results13, go_sem, *]; rfl)) rfl (DayP.no (((HB1.out.setCell (by show w.heap.size ≤ (w.heap.size + 1); omega) _).setCell (by show w.heap.size ≤ (w.heap.size + 1); omega) _).setCell (by show w.heap.size ≤ (w.heap.size + 1); omega) _))
  · have HT := Lib.hid (rivB_true HBB.out)
    have h0n : l0 = n := by have h7 := HT.out.1; have h8 := HD.out; omega
    have h2n : l2 = n := by have h7 := HT.out.1; have h8 := HVl.out; omega
    subst h0n; subst h2n
    have x0 := HX1.out.c 0 rfl
    obtain ⟨b2, hb2⟩ : ∃ b, inflB I len l2 = b := ⟨_, rfl⟩
    have HIn := Lib.hid (l06Inflows_any a len cap l2 I w1 (HI.out.below HB1.out (Nat.le_refl _)) HIl.out HLI.out (by have h9 := HL.out; omega))
    rw [hb2] at HIn
    have HB2 := Lib.hid hb2
    clear hb2
    go_wp2_with fail
    refine HIn.out.mono ?_
    rintro e w2 ⟨rfl, rfl⟩
    cases b2
    · have q0 := HP1.out.c 0 rfl
      have q1 := HP1.out.c 1 rfl
      have q2 := HP1.out.c 2 rfl
      have f0 := HP1.out.f 0 (by simp)
      have f1 := HP1.out.f 1 (by simp)
      have f2 := HP1.out.f 2 (by simp)
      have hv : R = failD := by rw [← HR.out]; unfold dayR; rw [HBB.out, HIl.out, HB2.out]; rfl
      have HV := Lib.hid hv
      clear hv
      go_wp2_with fail
      rw [HV.out]
      exact bodyPost_ret (v := .tuple #[.agg #[.slice none 0 0, .slice none 0 0, .slice none 0 0], .slice none 0 0, .slice none 0 0, .bool false]) (by first | (simp [results, Try.results13, go_sem, *]; done) | (simp (maxDischargeDepth := 12) [results, Try.results13, go_sem, *]; done) | (simp (maxDischargeDepth := 12) [results, Try.results13, go_sem, *]; rfl)) rfl (DayP.no (((HB1.out.setCell (by show w.heap.size ≤ (w.heap.size + 1); omega) _).setCell (by show w.heap.size ≤ (w.heap.size + 1); omega) _).setCell (by show w.heap.size ≤ (w.heap.size + 1); omega) _))
    · have hin : len = l2 := by have h9 := HB2.out; unfold inflB at h9; rw [Bool.and_eq_true, decide_eq_true_eq] at h9; exact h9.1
      subst hin
      have hpos : 0 < len := by have h7 := HT.out.1; omega
      have h12 : len ≤ 12 := by have h7 := HT.out.1; omega
      obtain ⟨ba, oa, b1, o1, b3, o3, rfl, rfl, rfl, hsrc⟩ := Src.of (H0.out.below HB1.out (Nat.le_refl _)) (H1.out.below HB1.out (Nat.le_refl _)) (H2.out.below HB1.out (Nat.le_refl _)) HD.out HM.out HVl.out hpos (by omega)
      obtain ⟨bi, oi, rfl, hbi, hci⟩ : ∃ b off, a = some ⟨b, off, none⟩ ∧ b < w2.heap.size ∧ ∀ i, i < I.length → w2.cell? ⟨b, off + i, none⟩ = some (.int .i64 (I.getD i 0)) := by
          rcases (HI.out.below HB1.out (Nat.le_refl _)).ints with h9 | h9
          · have h8 := HIl.out; rw [h9, List.length_nil] at h8; omega
          · exact h9
      have HDy := Lib.hid (l06Day_any w.heap.size ba oa b1 o1 b3 o3 len c0 c1 c2 bi oi cap D M V I w2 hsrc HX1.out.1 hbi hci HIl.out h12 (rivB_range HBB.out) (by unfold acycB; rw [List.all_eq_true]; intro i hi; rw [decide_eq_true_eq]; exact HT.out.2.2 i (List.mem_range.1 hi)))
      clear hsrc hbi hci HIn x0
      obtain ⟨S, hS⟩ : ∃ S, dayTo D M V I len (kahn D len) len = S := ⟨_, rfl⟩
      rw [hS] at HDy
      have hv : R = ⟨len, D, S.M, V, S.G, S.L, true⟩ := by rw [← HR.out]; unfold dayR; rw [HBB.out, HIl.out, HB2.out, hS]; rfl
      have HV := Lib.hid hv
      clear hv hS
      go_wp2_with fail
      refine HDy.out.mono ?_
      rintro e w3 ⟨lo, g0, g1, g2, h1, h2, d0, d1, d2, e1, e2, rfl, r0, r1, r2, r3, r4, ⟨n01, n02, n12, m1, m2, m3, m4, m5, m6, nh⟩, hlo, hb, t, t0, t1, t2, t3, t4, t5⟩
      have HB3 : Hid (Below w.heap.size w w3) := Lib.hid (HB1.out.trans (hb.mono HB1.out.size))
      have HP3 := Lib.hid (HP1.out.below hb HP1.out.1.1)
      have HR0 := Lib.hid r0
      have HR1 := Lib.hid r1
      have HR2 := Lib.hid r2
      have HR3 := Lib.hid r3
      have HR4 := Lib.hid r4
      have HNn : Hid (g0 ≠ g1 ∧ g0 ≠ g2 ∧ g1 ≠ g2 ∧ h1 ≠ h2) := Lib.hid ⟨n01, n02, n12, nh⟩
      have HTt : Hid (g0 < t ∧ g1 < t ∧ g2 < t ∧ t ≤ h1 ∧ t ≤ h2) := Lib.hid ⟨t0, t1, t2, t3, t4⟩
      have HNum : Hid (w.heap.size + 2 ≤ lo ∧ lo ≤ g0 ∧ lo ≤ g1 ∧ lo ≤ g2 ∧ lo ≤ h1 ∧ lo ≤ h2 ∧ g0 < w3.heap.size ∧ g1 < w3.heap.size ∧ g2 < w3.heap.size ∧ h1 < w3.heap.size ∧ h2 < w3.heap.size) := Lib.hid (by have k0 := r0.lt g0 rfl; have k1 := r1.lt g1 rfl; have k2 := r2.lt g2 rfl; have k3 := r3.lt h1 rfl; have k4 := r4.lt h2 rfl; have k5 := HS1.out; omega)
      clear r0 r1 r2 r3 r4 n01 n02 n12 m1 m2 m3 m4 m5 m6 nh hlo hb t0 t1 t2 t3 t4 t5 HDy
      go_upto_region 4 with fail
      generalize hW4 : World.alloc w3 _ = W4
      have HT4 : Hid (Bw W4 w3.heap.size [.slice (some ⟨g0, 0, none⟩) len d0, .slice (some ⟨g1, 0, none⟩) len d1, .slice (some ⟨g2, 0, none⟩) len d2]) := Lib.hid (by rw [← hW4]; exact Bw.new w3 [.slice (some ⟨g0, 0, none⟩) len d0, .slice (some ⟨g1, 0, none⟩) len d1, .slice (some ⟨g2, 0, none⟩) len d2] _)
      have HP4 : Hid (Bw W4 (w.heap.size + 1) [.slice none 0 0, .slice none 0 0, .slice none 0 0]) := Lib.hid (by rw [← hW4]; exact HP3.out.alloc _)
      have HU0 : Hid (W4.ownsRow lo 2 1 (.slice (some ⟨g0, 0, none⟩) len d0) len (ic D)) := Lib.hid (by rw [← hW4]; exact HR0.out.alloc _)
      have HU1 : Hid (W4.ownsRow lo 98 4 (.slice (some ⟨g1, 0, none⟩) len d1) len (ic S.M)) := Lib.hid (by rw [← hW4]; exact HR1.out.alloc _)
      have HU2 : Hid (W4.ownsRow lo 2 1 (.slice (some ⟨g2, 0, none⟩) len d2) len (ic V)) := Lib.hid (by rw [← hW4]; exact HR2.out.alloc _)
      have HU3 : Hid (W4.ownsRow lo 2 1 (.slice (some ⟨h1, 0, none⟩) len e1) len (ic S.G)) := Lib.hid (by rw [← hW4]; exact HR3.out.alloc _)
      have HU4 : Hid (W4.ownsRow lo 2 1 (.slice (some ⟨h2, 0, none⟩) len e2) len (ic S.L)) := Lib.hid (by rw [← hW4]; exact HR4.out.alloc _)
      have HB4 : Hid (Below w.heap.size w W4) := Lib.hid (by rw [← hW4]; exact HB3.out.alloc HB3.out.size _)
      clear hW4 HP3 HR0 HR1 HR2 HR3 HR4
      have x_0 := HT4.out.c 0 rfl
      have x_1 := HT4.out.c 1 rfl
      have x_2 := HT4.out.c 2 rfl
      have q0 := HP4.out.c 0 rfl
      have q1 := HP4.out.c 1 rfl
      have q2 := HP4.out.c 2 rfl
      have f0 := HP4.out.f 0 (by simp)
      have f1 := HP4.out.f 1 (by simp)
      have f2 := HP4.out.f 2 (by simp)
      go_wp2_with fail
      rw [HV.out]
      refine bodyPost_ret (v := .tuple #[.agg #[.slice (some ⟨g0, 0, none⟩) len d0, .slice (some ⟨g1, 0, none⟩) len d1, .slice (some ⟨g2, 0, none⟩) len d2], .slice (some ⟨h1, 0, none⟩) len e1, .slice (some ⟨h2, 0, none⟩) len e2, .bool true]) (by first | (simp [results, Try.results13, go_sem, *]; done) | (simp (maxDischargeDepth := 12) [results, Try.results13, go_sem, *]; done) | (simp (maxDischargeDepth := 12) [results, Try.results13, go_sem, *]; rfl)) rfl (DayP.yes (lo := lo) (t := t) ?_ ?_ ?_ ?_ ?_ HNn.out.1 HNn.out.2.1 HNn.out.2.2.1 HNn.out.2.2.2 HTt.out (by have h9 := HNum.out; omega) ?_)
      · exact (owns_far (owns_far (owns_far HU0.out (by have h9 := HNum.out; simp [Value.ownBlock]; omega) _) (by have h9 := HNum.out; simp [Value.ownBlock]; omega) _) (by have h9 := HNum.out; simp [Value.ownBlock]; omega) _)
      · exact (owns_far (owns_far (owns_far HU1.out (by have h9 := HNum.out; simp [Value.ownBlock]; omega) _) (by have h9 := HNum.out; simp [Value.ownBlock]; omega) _) (by have h9 := HNum.out; simp [Value.ownBlock]; omega) _)
      · exact (owns_far (owns_far (owns_far HU2.out (by have h9 := HNum.out; simp [Value.ownBlock]; omega) _) (by have h9 := HNum.out; simp [Value.ownBlock]; omega) _) (by have h9 := HNum.out; simp [Value.ownBlock]; omega) _)
      · exact (owns_far (owns_far (owns_far HU3.out (by have h9 := HNum.out; simp [Value.ownBlock]; omega) _) (by have h9 := HNum.out; simp [Value.ownBlock]; omega) _) (by have h9 := HNum.out; simp [Value.ownBlock]; omega) _)
      · exact (owns_far (owns_far (owns_far HU4.out (by have h9 := HNum.out; simp [Value.ownBlock]; omega) _) (by have h9 := HNum.out; simp [Value.ownBlock]; omega) _) (by have h9 := HNum.out; simp [Value.ownBlock]; omega) _)
      · exact (((HB4.out.setCell (by show w.heap.size ≤ w.heap.size + 1; omega) _).setCell (by show w.heap.size ≤ w.heap.size + 1; omega) _).setCell (by show w.heap.size ≤ w.heap.size + 1; omega) _)

end Go.Proofs.Ytckmacnmmloemaa
