/- SetDam: the program. -/
import Derived.Test.YtnmmhaadkclogaaSetV
namespace Go.Proofs.Ytnmmhaadkclogaa
open Go.RowKit
set_option linter.unusedVariables false
set_option linter.unusedSimpArgs false
set_option maxRecDepth 100000
attribute [local irreducible] wpV wpList Code.wp

set_option maxHeartbeats 8000000 in
theorem setDam_i (a0 a1 a2 : Option Addr) (l0 n l2 c0 c1 c2 : Nat) (D M V : List Int) (i : Int) (s d l q : Int) (w : World) (hwi : (Lit.int .i64 i).wf = true) (h0 : RowC w a0 (ic D)) (h1 : RowC w a1 (ic M)) (h2 : RowC w a2 (ic V)) (hD : D.length = l0) (hM : M.length = n * 4) (hV : V.length = l2) (hl : l0 ≤ 1048576 ∧ n ≤ 1048576 ∧ l2 ≤ 1048576) :
    Calls Try.prog 22 #[.agg #[.slice a0 l0 c0, .slice a1 n c1, .slice a2 l2 c2], .int .i64 i, .agg #[.int .i64 s, .int .i64 d, .int .i64 l, .int .i64 q]] w (RivP (setDR D M V n i s d l q) w) := by
  obtain ⟨R, hR⟩ : ∃ R, setDR D M V n i s d l q = R := ⟨_, rfl⟩
  rw [hR]
  have HR := Lib.hid hR
  clear hR
  have hbl : Below w.heap.size w (((w.alloc (.cells #[.slice a0 l0 c0, .slice a1 n c1, .slice a2 l2 c2] 30)).alloc (.cells #[.int .i64 s, .int .i64 d, .int .i64 l, .int .i64 q] 38)).alloc (.cells #[.slice none 0 0, .slice none 0 0, .slice none 0 0] 30)) := bel3 w _ _ _
  have hbx : Bw (((w.alloc (.cells #[.slice a0 l0 c0, .slice a1 n c1, .slice a2 l2 c2] 30)).alloc (.cells #[.int .i64 s, .int .i64 d, .int .i64 l, .int .i64 q] 38)).alloc (.cells #[.slice none 0 0, .slice none 0 0, .slice none 0 0] 30)) w.heap.size [.slice a0 l0 c0, .slice a1 n c1, .slice a2 l2 c2] := ((Bw.new w [.slice a0 l0 c0, .slice a1 n c1, .slice a2 l2 c2] 30).alloc _).alloc _
  have hbp : Bw (((w.alloc (.cells #[.slice a0 l0 c0, .slice a1 n c1, .slice a2 l2 c2] 30)).alloc (.cells #[.int .i64 s, .int .i64 d, .int .i64 l, .int .i64 q] 38)).alloc (.cells #[.slice none 0 0, .slice none 0 0, .slice none 0 0] 30)) (w.heap.size + 2) [.slice none 0 0, .slice none 0 0, .slice none 0 0] := Bw.new2G w _ _ [.slice none 0 0, .slice none 0 0, .slice none 0 0] _
  have hbd : Bx (((w.alloc (.cells #[.slice a0 l0 c0, .slice a1 n c1, .slice a2 l2 c2] 30)).alloc (.cells #[.int .i64 s, .int .i64 d, .int .i64 l, .int .i64 q] 38)).alloc (.cells #[.slice none 0 0, .slice none 0 0, .slice none 0 0] 30)) (w.heap.size + 1) [.int .i64 s, .int .i64 d, .int .i64 l, .int .i64 q] := (Bx.new1G w _ [.int .i64 s, .int .i64 d, .int .i64 l, .int .i64 q] _).alloc _
  have HC := Lib.hid (hasNode_i a0 a1 a2 l0 n l2 c0 c1 c2 D M V i (((w.alloc (.cells #[.slice a0 l0 c0, .slice a1 n c1, .slice a2 l2 c2] 30)).alloc (.cells #[.int .i64 s, .int .i64 d, .int .i64 l, .int .i64 q] 38)).alloc (.cells #[.slice none 0 0, .slice none 0 0, .slice none 0 0] 30)) (h0.below hbl (Nat.le_refl _)) (h1.below hbl (Nat.le_refl _)) (h2.below hbl (Nat.le_refl _)) hD hM hV hl hwi)
  have HX := Lib.hid hbx
  have HP := Lib.hid hbp
  have HDx := Lib.hid hbd
  have HL0 := Lib.hid hbl
  have H0 := Lib.hid h0
  have H1 := Lib.hid h1
  have H2 := Lib.hid h2
  obtain ⟨bb, hbb⟩ : ∃ b, nodeB D M V n i = b := ⟨_, rfl⟩
  rw [hbb] at HC
  have HBB := Lib.hid hbb
  have HM := Lib.hid hM
  have HD := Lib.hid hD
  have HVl := Lib.hid hV
  have HL := Lib.hid hl
  clear h0 h1 h2 hD hM hV hl hbb hbl hbx hbp hbd
  go_enter Try.func22, Try.ntmps22
  go_wp2_with fail
  refine HC.out.mono ?_
  rintro e w1 ⟨b9, hb9, rfl, hb⟩
  subst hb9
  have HB1 : Hid (Below w.heap.size w w1) := Lib.hid (HL0.out.trans (hb.mono (by first | (simp; done) | (simp; omega))))
  have hbd9 : Below (w.heap.size + 3) (((w.alloc (.cells #[.slice a0 l0 c0, .slice a1 n c1, .slice a2 l2 c2] 30)).alloc (.cells #[.int .i64 s, .int .i64 d, .int .i64 l, .int .i64 q] 38)).alloc (.cells #[.slice none 0 0, .slice none 0 0, .slice none 0 0] 30)) w1 := hb.mono (by first | (simp; done) | (simp; omega))
  clear hb
  have HX1 := Lib.hid (HX.out.below hbd9 (by omega))
  have HP1 := Lib.hid (HP.out.below hbd9 (by omega))
  have HD1 := Lib.hid (HDx.out.below hbd9 (by omega))
  have HZ1 : Hid (w.heap.size + 3 ≤ w1.heap.size) := Lib.hid (by have h9 := hbd9.size; (try simp at h9); omega)
  clear hbd9 HC HX HP HL0 HDx
  cases bb
  · have hv : R = failR := by rw [← HR.out]; unfold setDR; rw [HBB.out]; rfl
    have HV := Lib.hid hv
    clear hv
    have q0 := HP1.out.c 0 rfl
    have q1 := HP1.out.c 1 rfl
    have q2 := HP1.out.c 2 rfl
    have f0 := HP1.out.f 0 (by simp)
    have f1 := HP1.out.f 1 (by simp)
    have f2 := HP1.out.f 2 (by simp)
    go_wp2_with fail
    rw [HV.out]
    exact bodyPost_ret (v := .tuple #[.agg #[.slice none 0 0, .slice none 0 0, .slice none 0 0], .bool false]) (by first | (simp [results, Try.results22, go_sem, *]; done) | (simp (maxDischargeDepth := 12) [results, Try.results22, go_sem, *]; done) | (simp (maxDischargeDepth := 12) [results, Try.results22, go_sem, *]; rfl)) rfl (RivP.no (((HB1.out.setCell (by show w.heap.size ≤ (w.heap.size + 2); omega) _).setCell (by show w.heap.size ≤ (w.heap.size + 2); omega) _).setCell (by show w.heap.size ≤ (w.heap.size + 2); omega) _))
  · have HRv : Hid (rivB D M V n = true) := Lib.hid (nodeB_true HBB.out).1
    have HT := Lib.hid (rivB_true HRv.out)
    have hni := (nodeB_true HBB.out).2
    obtain ⟨i, rfl⟩ := Int.eq_ofNat_of_zero_le hni.1
    have hin : i < n := by omega
    clear hni
    have hin1 : (i : Int) < (n : Int) := by omega
    have hi0 : (0 : Int) ≤ (i : Int) := by omega
    have h0n : l0 = n := by have h7 := HT.out.1; have h8 := HD.out; omega
    subst h0n
    have h2n : l2 = l0 := by have h7 := HT.out.1; have h8 := HD.out; have h9 := HVl.out; omega
    subst h2n
    have hl12 : l2 ≤ 12 := by have h7 := HT.out.1; have h8 := HD.out; omega
    have hl1 : 0 < l2 := by have h7 := HT.out.1; have h8 := HD.out; omega
    obtain ⟨b0, o0, b1, o1, b2, o2, rfl, rfl, rfl, hsrc⟩ := Src.of H0.out H1.out H2.out HD.out HM.out HVl.out hl1 (by omega)
    have HSr := Lib.hid hsrc
    clear hsrc
    have HOw := Lib.hid (ownRiver_any b0 o0 b1 o1 b2 o2 l2 c0 c1 c2 D M V w1 (HSr.out.below HB1.out (Nat.le_refl _)))
    have x0 := HX1.out.c 0 rfl
    have x1 := HX1.out.c 1 rfl
    have x2 := HX1.out.c 2 rfl
    go_wp2_with fail
    refine HOw.out.mono ?_
    rintro e w2 ⟨lo, g0, g1, g2, d0, d1, d2, rfl, hr0, hr1, hr2, n01, n02, n12, hlo, hb⟩
    clear x0 x1 x2 HOw
    have HR0 := Lib.hid hr0
    have HR1 := Lib.hid hr1
    have HR2 := Lib.hid hr2
    have HLo : Hid (w.heap.size ≤ lo) := Lib.hid (by have h4 := HZ1.out; omega)
    have N01 := Lib.hid n01
    have N02 := Lib.hid n02
    have N12 := Lib.hid n12
    have HX2 := Lib.hid (HX1.out.below hb HX1.out.1.1)
    have HP2 := Lib.hid (HP1.out.below hb HP1.out.1.1)
    have HD2 := Lib.hid (HD1.out.below hb HD1.out.1)
    have HB2 : Hid (Below w.heap.size w w2) := Lib.hid (HB1.out.trans (hb.mono HB1.out.size))
    have HG : Hid (w.heap.size + 3 ≤ g0 ∧ w.heap.size + 3 ≤ g1 ∧ w.heap.size + 3 ≤ g2 ∧ g0 < w2.heap.size ∧ g1 < w2.heap.size ∧ g2 < w2.heap.size ∧ w.heap.size + 3 ≤ w2.heap.size) := Lib.hid (by have h1 := hr0.lt g0 rfl; have h2 := hr1.lt g1 rfl; have h3 := hr2.lt g2 rfl; have h4 := HZ1.out; omega)
    clear hr0 hr1 hr2 n01 n02 n12 hlo hb HX1 HP1 HB1 HD1
    have x0 := HX2.out.c 0 rfl
    have x1 := HX2.out.c 1 rfl
    have x2 := HX2.out.c 2 rfl
    have y0 := HX2.out.f 0 (by simp)
    have y1 := HX2.out.f 1 (by simp)
    have y2 := HX2.out.f 2 (by simp)
    go_upto_region 4 with fail
    clear x0 x1 x2 y0 y1 y2
    generalize hW3 : World.setCell _ _ _ = W3
    have HX3 : Hid (Bw W3 w.heap.size [.slice (some ⟨g0, 0, none⟩) l2 d0, .slice (some ⟨g1, 0, none⟩) l2 d1, .slice (some ⟨g2, 0, none⟩) l2 d2]) := Lib.hid (by rw [← hW3]; exact ((HX2.out.put 0 (by simp) _).put 1 (by simp) _).put 2 (by simp) _)
    have HP3 : Hid (Bw W3 (w.heap.size + 2) [.slice none 0 0, .slice none 0 0, .slice none 0 0]) := Lib.hid (by rw [← hW3]; exact ((HP2.out.setOther (by show w.heap.size ≠ (w.heap.size + 2); omega) _).setOther (by show w.heap.size ≠ (w.heap.size + 2); omega) _).setOther (by show w.heap.size ≠ (w.heap.size + 2); omega) _)
    have HD3 : Hid (Bx W3 (w.heap.size + 1) [.int .i64 s, .int .i64 d, .int .i64 l, .int .i64 q]) := Lib.hid (by rw [← hW3]; exact ((HD2.out.setFar (by show w.heap.size ≠ w.heap.size + 1; omega) _).setFar (by show w.heap.size ≠ w.heap.size + 1; omega) _).setFar (by show w.heap.size ≠ w.heap.size + 1; omega) _)
    have HT0 : Hid (W3.ownsRow lo 2 1 (.slice (some ⟨g0, 0, none⟩) l2 d0) l2 (ic D)) := Lib.hid (by rw [← hW3]; exact (owns_far (owns_far (owns_far HR0.out (by have h9 := HG.out; simp [Value.ownBlock]; omega) _) (by have h9 := HG.out; simp [Value.ownBlock]; omega) _) (by have h9 := HG.out; simp [Value.ownBlock]; omega) _))
    have HT1 : Hid (W3.ownsRow lo 38 4 (.slice (some ⟨g1, 0, none⟩) l2 d1) l2 (ic M)) := Lib.hid (by rw [← hW3]; exact (owns_far (owns_far (owns_far HR1.out (by have h9 := HG.out; simp [Value.ownBlock]; omega) _) (by have h9 := HG.out; simp [Value.ownBlock]; omega) _) (by have h9 := HG.out; simp [Value.ownBlock]; omega) _))
    have HT2 : Hid (W3.ownsRow lo 2 1 (.slice (some ⟨g2, 0, none⟩) l2 d2) l2 (ic V)) := Lib.hid (by rw [← hW3]; exact (owns_far (owns_far (owns_far HR2.out (by have h9 := HG.out; simp [Value.ownBlock]; omega) _) (by have h9 := HG.out; simp [Value.ownBlock]; omega) _) (by have h9 := HG.out; simp [Value.ownBlock]; omega) _))
    have HB3 : Hid (Below w.heap.size w W3) := Lib.hid (by rw [← hW3]; exact ((HB2.out.setCell (Nat.le_refl _) _).setCell (Nat.le_refl _) _).setCell (Nat.le_refl _) _)
    have HZ3 : Hid (W3.heap.size = w2.heap.size) := Lib.hid (by rw [← hW3]; simp)
    clear hW3 HR0 HR1 HR2 HX2 HP2 HB2 HD2
    obtain ⟨z0, hz0⟩ : ∃ z, (ic M)[i * 4 + 0]? = some z := ⟨_, List.getElem?_eq_getElem (by rw [ic_length, HM.out]; omega)⟩
    have k0 : W3.cell? ⟨g1, i * 4 + 0, none⟩ = some z0 := by rw [HT1.out.cellAt (i * 4 + 0) (by omega)]; exact hz0
    have kf0 := HT1.out.frozenAt (i * 4 + 0)
    obtain ⟨z1, hz1⟩ : ∃ z, (ic M)[i * 4 + 1]? = some z := ⟨_, List.getElem?_eq_getElem (by rw [ic_length, HM.out]; omega)⟩
    have k1 : W3.cell? ⟨g1, i * 4 + 1, none⟩ = some z1 := by rw [HT1.out.cellAt (i * 4 + 1) (by omega)]; exact hz1
    have kf1 := HT1.out.frozenAt (i * 4 + 1)
    obtain ⟨z2, hz2⟩ : ∃ z, (ic M)[i * 4 + 2]? = some z := ⟨_, List.getElem?_eq_getElem (by rw [ic_length, HM.out]; omega)⟩
    have k2 : W3.cell? ⟨g1, i * 4 + 2, none⟩ = some z2 := by rw [HT1.out.cellAt (i * 4 + 2) (by omega)]; exact hz2
    have kf2 := HT1.out.frozenAt (i * 4 + 2)
    obtain ⟨z3, hz3⟩ : ∃ z, (ic M)[i * 4 + 3]? = some z := ⟨_, List.getElem?_eq_getElem (by rw [ic_length, HM.out]; omega)⟩
    have k3 : W3.cell? ⟨g1, i * 4 + 3, none⟩ = some z3 := by rw [HT1.out.cellAt (i * 4 + 3) (by omega)]; exact hz3
    have kf3 := HT1.out.frozenAt (i * 4 + 3)
    rw [Nat.add_zero] at k0 kf0
    have dd0 := HD3.out.c 0 rfl
    have dd1 := HD3.out.c 1 rfl
    have dd2 := HD3.out.c 2 rfl
    have dd3 := HD3.out.c 3 rfl
    have hst := ((((HT1.out.stored (i * 4) (.int .i64 s)).1.stored (i * 4 + 1) (.int .i64 d)).1.stored (i * 4 + 2) (.int .i64 l)).1.stored (i * 4 + 3) (.int .i64 q)).1
    simp only [← ic_set] at hst
    have Hst := Lib.hid hst
    clear hst
    have x0 := HX3.out.c 0 rfl
    have x1 := HX3.out.c 1 rfl
    have x2 := HX3.out.c 2 rfl
    have y0 := HX3.out.f 0 (by simp)
    have y1 := HX3.out.f 1 (by simp)
    have y2 := HX3.out.f 2 (by simp)
    go_upto_region 5 with fail
    generalize hW4 : World.setCell _ _ _ = W4
    clear x0 x1 x2 y0 y1 y2 k0 kf0 hz0 k1 kf1 hz1 k2 kf2 hz2 k3 kf3 hz3 dd0 dd1 dd2 dd3
    have HX4 : Hid (Bw W4 w.heap.size [.slice (some ⟨g0, 0, none⟩) l2 d0, .slice (some ⟨g1, 0, none⟩) l2 d1, .slice (some ⟨g2, 0, none⟩) l2 d2]) := Lib.hid (by rw [← hW4]; exact ((((HX3.out.setOther (by have h9 := HG.out; show g1 ≠ w.heap.size; omega) _).setOther (by have h9 := HG.out; show g1 ≠ w.heap.size; omega) _).setOther (by have h9 := HG.out; show g1 ≠ w.heap.size; omega) _).setOther (by have h9 := HG.out; show g1 ≠ w.heap.size; omega) _))
    have HP4 : Hid (Bw W4 (w.heap.size + 2) [.slice none 0 0, .slice none 0 0, .slice none 0 0]) := Lib.hid (by rw [← hW4]; exact ((((HP3.out.setOther (by have h9 := HG.out; show g1 ≠ (w.heap.size + 2); omega) _).setOther (by have h9 := HG.out; show g1 ≠ (w.heap.size + 2); omega) _).setOther (by have h9 := HG.out; show g1 ≠ (w.heap.size + 2); omega) _).setOther (by have h9 := HG.out; show g1 ≠ (w.heap.size + 2); omega) _))
    have HU0 : Hid (W4.ownsRow lo 2 1 (.slice (some ⟨g0, 0, none⟩) l2 d0) l2 (ic (D))) := Lib.hid (by rw [← hW4]; exact (owns_far (owns_far (owns_far (owns_far HT0.out (by have h9 := N01.out; simp [Value.ownBlock]; omega) _) (by have h9 := N01.out; simp [Value.ownBlock]; omega) _) (by have h9 := N01.out; simp [Value.ownBlock]; omega) _) (by have h9 := N01.out; simp [Value.ownBlock]; omega) _))
    have HU1 : Hid (W4.ownsRow lo 38 4 (.slice (some ⟨g1, 0, none⟩) l2 d1) l2 (ic (putDam M i s d l q))) := Lib.hid (by rw [← hW4]; exact Hst.out)
    have HU2 : Hid (W4.ownsRow lo 2 1 (.slice (some ⟨g2, 0, none⟩) l2 d2) l2 (ic (V))) := Lib.hid (by rw [← hW4]; exact (owns_far (owns_far (owns_far (owns_far HT2.out (by have h9 := N12.out; simp [Value.ownBlock]; omega) _) (by have h9 := N12.out; simp [Value.ownBlock]; omega) _) (by have h9 := N12.out; simp [Value.ownBlock]; omega) _) (by have h9 := N12.out; simp [Value.ownBlock]; omega) _))
    have HB4 : Hid (Below w.heap.size w W4) := Lib.hid (by rw [← hW4]; exact ((((HB3.out.setCell (by have h9 := HG.out; show w.heap.size ≤ g1; omega) _).setCell (by have h9 := HG.out; show w.heap.size ≤ g1; omega) _).setCell (by have h9 := HG.out; show w.heap.size ≤ g1; omega) _).setCell (by have h9 := HG.out; show w.heap.size ≤ g1; omega) _))
    have HZ4 : Hid (W4.heap.size = W3.heap.size) := Lib.hid (by rw [← hW4]; simp)
    clear hW4 Hst HT0 HT1 HT2 HX3 HP3 HB3 HD3
    obtain ⟨b2', hb2'⟩ : ∃ b, rivB D (putDam M i s d l q) V l2 = b := ⟨_, rfl⟩
    have HB2' := Lib.hid hb2'
    clear hb2'
    cases b2'
    · have HGv := Lib.hid (made_no (some ⟨g0, 0, none⟩) (some ⟨g1, 0, none⟩) (some ⟨g2, 0, none⟩) l2 l2 l2 d0 d1 d2 (D) (putDam M i s d l q) (V) W4 (owns_row HU0.out) (owns_row HU1.out) (owns_row HU2.out) HD.out (by rw [putDam_length]; exact HM.out) HVl.out ⟨by omega, by omega, by omega⟩ HB2'.out)
      have x0 := HX4.out.c 0 rfl
      have x1 := HX4.out.c 1 rfl
      have x2 := HX4.out.c 2 rfl
      go_wp2_with fail
      refine HGv.out.mono ?_
      rintro e w5 ⟨rfl, hb⟩
      clear x0 x1 x2 HGv
      have HP5 := Lib.hid (HP4.out.below hb HP4.out.1.1)
      have HB5 : Hid (Below w.heap.size w w5) := Lib.hid (HB4.out.trans (hb.mono HB4.out.size))
      clear hb
      have hv : R = failR := by rw [← HR.out]; unfold setDR; rw [HBB.out, Int.toNat_natCast, HB2'.out]; rfl
      have HV := Lib.hid hv
      clear hv
      have q0 := HP5.out.c 0 rfl
      have q1 := HP5.out.c 1 rfl
      have q2 := HP5.out.c 2 rfl
      have f0 := HP5.out.f 0 (by simp)
      have f1 := HP5.out.f 1 (by simp)
      have f2 := HP5.out.f 2 (by simp)
      go_wp2_with fail
      rw [HV.out]
      exact bodyPost_ret (v := .tuple #[.agg #[.slice none 0 0, .slice none 0 0, .slice none 0 0], .bool false]) (by first | (simp [results, Try.results22, go_sem, *]; done) | (simp (maxDischargeDepth := 12) [results, Try.results22, go_sem, *]; done) | (simp (maxDischargeDepth := 12) [results, Try.results22, go_sem, *]; rfl)) rfl (RivP.no (((HB5.out.setCell (by show w.heap.size ≤ (w.heap.size + 2); omega) _).setCell (by show w.heap.size ≤ (w.heap.size + 2); omega) _).setCell (by show w.heap.size ≤ (w.heap.size + 2); omega) _))
    · have HGv := Lib.hid (made_yes (some ⟨g0, 0, none⟩) (some ⟨g1, 0, none⟩) (some ⟨g2, 0, none⟩) l2 l2 l2 d0 d1 d2 (D) (putDam M i s d l q) (V) W4 (owns_row HU0.out) (owns_row HU1.out) (owns_row HU2.out) HD.out (by rw [putDam_length]; exact HM.out) HVl.out ⟨by omega, by omega, by omega⟩ HB2'.out)
      have x0 := HX4.out.c 0 rfl
      have x1 := HX4.out.c 1 rfl
      have x2 := HX4.out.c 2 rfl
      go_wp2_with fail
      refine HGv.out.mono ?_
      rintro e w5 ⟨rfl, hb⟩
      clear x0 x1 x2 HGv
      have HP5 := Lib.hid (HP4.out.below hb HP4.out.1.1)
      have HB5 : Hid (Below w.heap.size w w5) := Lib.hid (HB4.out.trans (hb.mono HB4.out.size))
      have HQ0 := Lib.hid (owns_below HU0.out hb (Nat.le_refl _))
      have HQ1 := Lib.hid (owns_below HU1.out hb (Nat.le_refl _))
      have HQ2 := Lib.hid (owns_below HU2.out hb (Nat.le_refl _))
      clear hb
      have hv : R = ⟨l2, D, putDam M i s d l q, V, true⟩ := by rw [← HR.out]; unfold setDR; rw [HBB.out, Int.toNat_natCast, HB2'.out]; rfl
      have HV := Lib.hid hv
      clear hv
      have q0 := HP5.out.c 0 rfl
      have q1 := HP5.out.c 1 rfl
      have q2 := HP5.out.c 2 rfl
      have f0 := HP5.out.f 0 (by simp)
      have f1 := HP5.out.f 1 (by simp)
      have f2 := HP5.out.f 2 (by simp)
      go_wp2_with fail
      rw [HV.out]
      have n01 := N01.out
      have n02 := N02.out
      have n12 := N12.out
      refine bodyPost_ret (v := .tuple #[.agg #[.slice (some ⟨g0, 0, none⟩) l2 d0, .slice (some ⟨g1, 0, none⟩) l2 d1, .slice (some ⟨g2, 0, none⟩) l2 d2], .bool true]) (by first | (simp [results, Try.results22, go_sem, *]; done) | (simp (maxDischargeDepth := 12) [results, Try.results22, go_sem, *]; done) | (simp (maxDischargeDepth := 12) [results, Try.results22, go_sem, *]; rfl)) rfl (RivP.yes (lo := w.heap.size) ?_ ?_ ?_ n01 n02 n12 (Nat.le_refl _) ?_)
      · exact owns_lo (owns_far (owns_far (owns_far HQ0.out (by have h9 := HG.out; simp [Value.ownBlock]; omega) _) (by have h9 := HG.out; simp [Value.ownBlock]; omega) _) (by have h9 := HG.out; simp [Value.ownBlock]; omega) _) (by have h9 := HG.out; have h8 := HLo.out; omega)
      · exact owns_lo (owns_far (owns_far (owns_far HQ1.out (by have h9 := HG.out; simp [Value.ownBlock]; omega) _) (by have h9 := HG.out; simp [Value.ownBlock]; omega) _) (by have h9 := HG.out; simp [Value.ownBlock]; omega) _) (by have h9 := HG.out; have h8 := HLo.out; omega)
      · exact owns_lo (owns_far (owns_far (owns_far HQ2.out (by have h9 := HG.out; simp [Value.ownBlock]; omega) _) (by have h9 := HG.out; simp [Value.ownBlock]; omega) _) (by have h9 := HG.out; simp [Value.ownBlock]; omega) _) (by have h9 := HG.out; have h8 := HLo.out; omega)
      · exact (((HB5.out.setCell (by show w.heap.size ≤ (w.heap.size + 2); omega) _).setCell (by show w.heap.size ≤ (w.heap.size + 2); omega) _).setCell (by show w.heap.size ≤ (w.heap.size + 2); omega) _)

end Go.Proofs.Ytnmmhaadkclogaa
