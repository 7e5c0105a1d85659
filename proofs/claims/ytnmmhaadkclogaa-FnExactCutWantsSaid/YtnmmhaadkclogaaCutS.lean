/- CutWants: the model. -/
import Derived.Test.YtnmmhaadkclogaaCutV
import Derived.StillTailTactics
namespace Go.Proofs.Ytnmmhaadkclogaa
open Go.RowKit
set_option linter.unusedVariables false
set_option linter.unusedSimpArgs false
set_option maxRecDepth 100000
attribute [local irreducible] wpV wpList Code.wp

set_option maxHeartbeats 16000000 in
theorem cutWants_s (a0 a1 a2 : Option Addr) (l0 n l2 c0 c1 c2 : Nat) (D M V : List Int) (x y : Int) (w : World) (hwx : (Lit.int .i64 x).wf = true) (hwy : (Lit.int .i64 y).wf = true) (h0 : RowC w a0 (ic D)) (h1 : RowC w a1 (ic M)) (h2 : RowC w a2 (ic V)) (hD : D.length = l0) (hM : M.length = n * 4) (hV : V.length = l2) (hl : l0 ≤ 1048576 ∧ n ≤ 1048576 ∧ l2 ≤ 1048576) :
    Calls Try.prog 44 #[.agg #[.slice a0 l0 c0, .slice a1 n c1, .slice a2 l2 c2], .int .i64 x, .int .i64 y] w (RivP (cutR D M V n x y) w) := by
  obtain ⟨R, hR⟩ : ∃ R, cutR D M V n x y = R := ⟨_, rfl⟩
  rw [hR]
  have HR := Lib.hid hR
  clear hR
  have hbl : Below w.heap.size w ((w.alloc (.cells #[.slice a0 l0 c0, .slice a1 n c1, .slice a2 l2 c2] 30)).alloc (.cells #[.slice none 0 0, .slice none 0 0, .slice none 0 0] 30)) := below2 w _ _
  have hbx : Bw ((w.alloc (.cells #[.slice a0 l0 c0, .slice a1 n c1, .slice a2 l2 c2] 30)).alloc (.cells #[.slice none 0 0, .slice none 0 0, .slice none 0 0] 30)) w.heap.size [.slice a0 l0 c0, .slice a1 n c1, .slice a2 l2 c2] := (Bw.new w [.slice a0 l0 c0, .slice a1 n c1, .slice a2 l2 c2] 30).alloc _
  have hbp : Bw ((w.alloc (.cells #[.slice a0 l0 c0, .slice a1 n c1, .slice a2 l2 c2] 30)).alloc (.cells #[.slice none 0 0, .slice none 0 0, .slice none 0 0] 30)) (w.heap.size + 1) [.slice none 0 0, .slice none 0 0, .slice none 0 0] := Bw.new1G w _ [.slice none 0 0, .slice none 0 0, .slice none 0 0] _
  have HC := Lib.hid (l06Is_any w.heap.size a0 a1 a2 l0 n l2 c0 c1 c2 D M V ((w.alloc (.cells #[.slice a0 l0 c0, .slice a1 n c1, .slice a2 l2 c2] 30)).alloc (.cells #[.slice none 0 0, .slice none 0 0, .slice none 0 0] 30)) hbx.1 (h0.below hbl (Nat.le_refl _)) (h1.below hbl (Nat.le_refl _)) (h2.below hbl (Nat.le_refl _)) hD hM hV hl)
  have HX := Lib.hid hbx
  have HP := Lib.hid hbp
  have HL0 := Lib.hid hbl
  have H0 := Lib.hid h0
  have H1 := Lib.hid h1
  have H2 := Lib.hid h2
  obtain ⟨bb, hbb⟩ : ∃ b, rivB D M V n = b := ⟨_, rfl⟩
  rw [hbb] at HC
  have HBB := Lib.hid hbb
  have HM := Lib.hid hM
  have HD := Lib.hid hD
  have HVl := Lib.hid hV
  have HL := Lib.hid hl
  clear h0 h1 h2 hD hM hV hl hbb hbl hbx hbp
  go_enter Try.func44, Try.ntmps44
  go_wp2_with fail
  refine HC.out.mono ?_
  rintro e w1 ⟨rfl, m, hw1⟩
  have HB1 : Hid (Below w.heap.size w w1) := Lib.hid (by rw [hw1]; exact below_drewN HL0.out _)
  have hbd9 : Below (w.heap.size + 2) ((w.alloc (.cells #[.slice a0 l0 c0, .slice a1 n c1, .slice a2 l2 c2] 30)).alloc (.cells #[.slice none 0 0, .slice none 0 0, .slice none 0 0] 30)) w1 := by rw [hw1]; exact below_drewN (Below.refl _ _) _
  clear hw1
  have HX1 := Lib.hid (HX.out.below hbd9 (by omega))
  have HP1 := Lib.hid (HP.out.below hbd9 (by omega))
  have HZ1 : Hid (w.heap.size + 2 ≤ w1.heap.size) := Lib.hid (by have h9 := hbd9.size; (try simp at h9); omega)
  clear hbd9 HC HX HP HL0
  cases bb
  · have hv : R = failR := by rw [← HR.out]; unfold cutR; rw [HBB.out]; rfl
    have HV := Lib.hid hv
    clear hv
    have q0 := HP1.out.c 0 rfl
    have q1 := HP1.out.c 1 rfl
    have q2 := HP1.out.c 2 rfl
    have f0 := HP1.out.f 0 (by simp)
    have f1 := HP1.out.f 1 (by simp)
    have f2 := HP1.out.f 2 (by simp)
    go_wp2_with fail
    rw [HV.out]
    exact bodyPost_ret (v := .tuple #[.agg #[.slice none 0 0, .slice none 0 0, .slice none 0 0], .bool false]) (by first | (simp [results, Try.results44, go_sem, *]; done) | (simp (maxDischargeDepth := 12) [results, Try.results44, go_sem, *]; done) | (simp (maxDischargeDepth := 12) [results, Try.results44, go_sem, *]; rfl)) rfl (RivP.no (((HB1.out.setCell (by show w.heap.size ≤ (w.heap.size + 1); omega) _).setCell (by show w.heap.size ≤ (w.heap.size + 1); omega) _).setCell (by show w.heap.size ≤ (w.heap.size + 1); omega) _))
  · go_wp2_with fail
    refine (inZ_any y 1 1000000000 _).mono ?_
    rintro e w' ⟨t1, ht1, rfl, rfl⟩
    have HT1_ := Lib.hid ht1
    clear ht1
    cases t1
    · have hv : R = failR := by rw [← HR.out]; unfold cutR; rw [HBB.out, show cutC x y = false from by unfold cutC; rw [HT1_.out]; rfl]; rfl
      have HV := Lib.hid hv
      clear hv
      have q0 := HP1.out.c 0 rfl
      have q1 := HP1.out.c 1 rfl
      have q2 := HP1.out.c 2 rfl
      have f0 := HP1.out.f 0 (by simp)
      have f1 := HP1.out.f 1 (by simp)
      have f2 := HP1.out.f 2 (by simp)
      go_wp2_with fail
      rw [HV.out]
      exact bodyPost_ret (v := .tuple #[.agg #[.slice none 0 0, .slice none 0 0, .slice none 0 0], .bool false]) (by first | (simp [results, Try.results44, go_sem, *]; done) | (simp (maxDischargeDepth := 12) [results, Try.results44, go_sem, *]; done) | (simp (maxDischargeDepth := 12) [results, Try.results44, go_sem, *]; rfl)) rfl (RivP.no (((HB1.out.setCell (by show w.heap.size ≤ (w.heap.size + 1); omega) _).setCell (by show w.heap.size ≤ (w.heap.size + 1); omega) _).setCell (by show w.heap.size ≤ (w.heap.size + 1); omega) _))
    go_wp2_with fail
    refine (inZ_any x 0 y _).mono ?_
    rintro e w' ⟨t2, ht2, rfl, rfl⟩
    have HT2_ := Lib.hid ht2
    clear ht2
    cases t2
    · have hv : R = failR := by rw [← HR.out]; unfold cutR; rw [HBB.out, show cutC x y = false from by unfold cutC; rw [HT1_.out, HT2_.out]; rfl]; rfl
      have HV := Lib.hid hv
      clear hv
      have q0 := HP1.out.c 0 rfl
      have q1 := HP1.out.c 1 rfl
      have q2 := HP1.out.c 2 rfl
      have f0 := HP1.out.f 0 (by simp)
      have f1 := HP1.out.f 1 (by simp)
      have f2 := HP1.out.f 2 (by simp)
      go_wp2_with fail
      rw [HV.out]
      exact bodyPost_ret (v := .tuple #[.agg #[.slice none 0 0, .slice none 0 0, .slice none 0 0], .bool false]) (by first | (simp [results, Try.results44, go_sem, *]; done) | (simp (maxDischargeDepth := 12) [results, Try.results44, go_sem, *]; done) | (simp (maxDischargeDepth := 12) [results, Try.results44, go_sem, *]; rfl)) rfl (RivP.no (((HB1.out.setCell (by show w.heap.size ≤ (w.heap.size + 1); omega) _).setCell (by show w.heap.size ≤ (w.heap.size + 1); omega) _).setCell (by show w.heap.size ≤ (w.heap.size + 1); omega) _))
    have hyy : 1 ≤ y ∧ y ≤ 1000000000 ∧ 0 ≤ x ∧ x ≤ y := by have h1 := HT1_.out; have h2 := HT2_.out; rw [Bool.and_eq_true, decide_eq_true_eq, decide_eq_true_eq] at h1 h2; omega
    clear HT1_ HT2_
    have HCt : Hid (cutC x y = true) := Lib.hid (by unfold cutC; simp; omega)
    obtain ⟨hy1, hy2, hx1, hx2⟩ := hyy
    have hyn : ¬ y = 0 := by omega
    have HT := Lib.hid (rivB_true HBB.out)
    have h0n : l0 = n := by have h7 := HT.out.1; have h8 := HD.out; omega
    subst h0n
    have h2n : l2 = l0 := by have h7 := HT.out.1; have h8 := HD.out; have h9 := HVl.out; omega
    subst h2n
    have hl12 : l2 ≤ 12 := by have h7 := HT.out.1; have h8 := HD.out; omega
    have hl1 : 0 < l2 := by have h7 := HT.out.1; have h8 := HD.out; omega
    obtain ⟨b0, o0, b1, o1, b2, o2, rfl, rfl, rfl, hsrc⟩ := Src.of H0.out H1.out H2.out HD.out HM.out HVl.out hl1 (by omega)
    have HSr := Lib.hid hsrc
    clear hsrc
    have HOw := Lib.hid (l06Own_any w.heap.size b0 o0 b1 o1 b2 o2 l2 c0 c1 c2 D M V w1 (HSr.out.below HB1.out (Nat.le_refl _)) HX1.out.1)
    have x0 := HX1.out.c 0 rfl
    have x1 := HX1.out.c 1 rfl
    have x2 := HX1.out.c 2 rfl
    go_wp2_with fail
    refine HOw.out.mono ?_
    rintro e w2 ⟨lo, g0, g1, g2, d0, d1, d2, rfl, hr0, hr1, hr2, n01, n02, n12, hlo, hb⟩
    clear x0 x1 x2 HOw
    have HR0 := Lib.hid hr0
    have HR1 := Lib.hid hr1
    have HR2 := Lib.hid hr2
    have HLo : Hid (w.heap.size ≤ lo) := Lib.hid (by have h4 := HZ1.out; omega)
    have N01 := Lib.hid n01
    have N02 := Lib.hid n02
    have N12 := Lib.hid n12
    have HX2 := Lib.hid (HX1.out.below hb HX1.out.1.1)
    have HP2 := Lib.hid (HP1.out.below hb HP1.out.1.1)
    have HB2 : Hid (Below w.heap.size w w2) := Lib.hid (HB1.out.trans (hb.mono HB1.out.size))
    have HG : Hid (w.heap.size + 2 ≤ g0 ∧ w.heap.size + 2 ≤ g1 ∧ w.heap.size + 2 ≤ g2 ∧ g0 < w2.heap.size ∧ g1 < w2.heap.size ∧ g2 < w2.heap.size ∧ w.heap.size + 2 ≤ w2.heap.size) := Lib.hid (by have h1 := hr0.lt g0 rfl; have h2 := hr1.lt g1 rfl; have h3 := hr2.lt g2 rfl; have h4 := HZ1.out; omega)
    clear hr0 hr1 hr2 n01 n02 n12 hlo hb HX1 HP1 HB1
    obtain ⟨t9, ht9⟩ : ∃ t, w2.heap.size = t := ⟨_, rfl⟩
    have HT9 := Lib.hid ht9
    go_upto_region 4 with fail
    generalize hW3 : World.alloc _ _ = W3
    have HX3 : Hid (Bw W3 t9 [.slice (some ⟨g0, 0, none⟩) l2 d0, .slice (some ⟨g1, 0, none⟩) l2 d1, .slice (some ⟨g2, 0, none⟩) l2 d2]) := Lib.hid (by rw [← hW3, ← ht9]; exact Bw.new w2 [.slice (some ⟨g0, 0, none⟩) l2 d0, .slice (some ⟨g1, 0, none⟩) l2 d1, .slice (some ⟨g2, 0, none⟩) l2 d2] _)
    (try rw [ht9])
    have HP3 : Hid (Bw W3 (w.heap.size + 1) [.slice none 0 0, .slice none 0 0, .slice none 0 0]) := Lib.hid (by rw [← hW3]; exact HP2.out.alloc _)
    have HT0 : Hid (W3.ownsRow lo 2 1 (.slice (some ⟨g0, 0, none⟩) l2 d0) l2 (ic D)) := Lib.hid (by rw [← hW3]; exact HR0.out.alloc _)
    have HT1 : Hid (W3.ownsRow lo 38 4 (.slice (some ⟨g1, 0, none⟩) l2 d1) l2 (ic M)) := Lib.hid (by rw [← hW3]; exact HR1.out.alloc _)
    have HT2 : Hid (W3.ownsRow lo 2 1 (.slice (some ⟨g2, 0, none⟩) l2 d2) l2 (ic V)) := Lib.hid (by rw [← hW3]; exact HR2.out.alloc _)
    have HB3 : Hid (Below w.heap.size w W3) := Lib.hid (by rw [← hW3]; exact HB2.out.alloc HB2.out.size _)
    clear ht9
    rw [HT9.out] at HG
    have HT2' : Hid (W3.ownsRow lo 2 1 (.slice (some ⟨g2, 0, none⟩) l2 d2) l2 (ic (cutV V x y 0 l2))) := Lib.hid (by rw [cutV_zero x y HVl.out]; exact HT2.out)
    clear hW3 HT2 HR0 HR1 HR2 HX2 HP2 HB2
    have x0 := HX3.out.c 0 rfl
    have x1 := HX3.out.c 1 rfl
    have x2 := HX3.out.c 2 rfl
    go_wp2_with fail
    go_loopw [9] (fun iv wr => ∃ k : Nat, k ≤ l2 ∧ iv = .int .i64 (k : Int) ∧ Hid (Bw wr t9 [.slice (some ⟨g0, 0, none⟩) l2 d0, .slice (some ⟨g1, 0, none⟩) l2 d1, .slice (some ⟨g2, 0, none⟩) l2 d2]) ∧ Hid (Bw wr (w.heap.size + 1) [.slice none 0 0, .slice none 0 0, .slice none 0 0]) ∧ Hid (wr.ownsRow lo 2 1 (.slice (some ⟨g0, 0, none⟩) l2 d0) l2 (ic D)) ∧ Hid (wr.ownsRow lo 38 4 (.slice (some ⟨g1, 0, none⟩) l2 d1) l2 (ic M)) ∧ Hid (wr.ownsRow lo 2 1 (.slice (some ⟨g2, 0, none⟩) l2 d2) l2 (ic (cutV V x y k l2))) ∧ Hid (Below w.heap.size w wr)) (fun iv _ => l2 - (intOf iv).toNat)
    case atStart => exact ⟨0, Nat.zero_le _, rfl, HX3, HP3, HT0, HT1, HT2', HB3⟩
    case round =>
    clear HX3 HP3 HT0 HT1 HT2' HB3 x0 x1 x2
    obtain ⟨k, hk, rfl, HX, HP, HT0, HT1, HT2, HB⟩ := hrel
    have hk0 : (0 : Int) ≤ (k : Int) := by omega
    have x2 := HX.out.c 2 rfl
    by_cases hlt : k < l2
    · have hk1 : (k : Int) < (l2 : Int) := by omega
      obtain ⟨v, hv⟩ : ∃ v, V.getD k 0 = v := ⟨_, rfl⟩
      have cv : wr.cell? ⟨g2, k, none⟩ = some (.int .i64 v) := by rw [HT2.out.cellAt k (by omega), ic_at (by rw [cutV_length]; exact hlt), cutV_at hlt, hv]
      have kf := HT2.out.frozenAt k
      have hvr := (rivB_dam HBB.out (j := k) hlt).2.2.2.2
      rw [hv] at hvr
      have hpr := cut_prod hvr.1 hvr.2 hx1 (by omega : x ≤ 1000000000)
      obtain ⟨hp1, hp2⟩ := hpr
      have Hv := Lib.hid hv
      have hdr : Below wr.heap.size wr wr.drew := (Below.refl _ _).drew
      have HXd := Lib.hid ((HX.out.below hdr HX.out.1.1).setOther (p := ⟨g2, k, none⟩) (by have h9 := HG.out; show g2 ≠ t9; omega) (.int .i64 (v * x / y)))
      have HPd := Lib.hid ((HP.out.below hdr HP.out.1.1).setOther (p := ⟨g2, k, none⟩) (by have h9 := HG.out; show g2 ≠ (w.heap.size + 1); omega) (.int .i64 (v * x / y)))
      have HT0d := Lib.hid (owns_far (p := ⟨g2, k, none⟩) (owns_below HT0.out hdr (Nat.le_refl _)) (by have h9 := N02.out; simp [Value.ownBlock]; omega) (.int .i64 (v * x / y)))
      have HT1d := Lib.hid (owns_far (p := ⟨g2, k, none⟩) (owns_below HT1.out hdr (Nat.le_refl _)) (by have h9 := N12.out; simp [Value.ownBlock]; omega) (.int .i64 (v * x / y)))
      have hst := ((owns_below HT2.out hdr (Nat.le_refl _)).stored k (.int .i64 (v * x / y))).1
      rw [← ic_set, ← Hv.out, cutV_set hlt, Hv.out] at hst
      have HT2d := Lib.hid hst
      have HBd : Hid (Below w.heap.size w (wr.drew.setCell ⟨g2, k, none⟩ (.int .i64 (v * x / y)))) := Lib.hid ((HB.out.drew).setCell (by have h9 := HG.out; show w.heap.size ≤ g2; omega) _)
      clear hv hvr hdr hst HX HP HT0 HT1 HT2 HB
      go_wp2_with fail
      have hw1 : IntKind.i64.wrap (v * x) = v * x := IntWalk.i64_in _ (by omega)
      have hw2 : IntKind.i64.wrap ((v * x).tdiv y) = v * x / y := IntWalk.i64_quo _ _ (by omega)
      go_still_tail 13, (by kernel_rfl)
      go_wp2_with fail
      go_roundw
      case rel => exact ⟨k + 1, by omega, by go_num, HXd, HPd, HT0d, HT1d, HT2d, HBd⟩
      case measure => simp [intOf]; omega
    · have hkl : k = l2 := by omega
      subst hkl
      have hv : R = ⟨k, D, M, cutV V x y k k, true⟩ := by rw [← HR.out]; unfold cutR; rw [HBB.out, HCt.out]; rfl
      have HV := Lib.hid hv
      clear hv
      clear x2
      have x0 := HX.out.c 0 rfl
      have x1 := HX.out.c 1 rfl
      have x2 := HX.out.c 2 rfl
      have q0 := HP.out.c 0 rfl
      have q1 := HP.out.c 1 rfl
      have q2 := HP.out.c 2 rfl
      have f0 := HP.out.f 0 (by simp)
      have f1 := HP.out.f 1 (by simp)
      have f2 := HP.out.f 2 (by simp)
      go_wp2_with fail
      rw [HV.out]
      have n01 := N01.out
      have n02 := N02.out
      have n12 := N12.out
      refine bodyPost_ret (v := .tuple #[.agg #[.slice (some ⟨g0, 0, none⟩) k d0, .slice (some ⟨g1, 0, none⟩) k d1, .slice (some ⟨g2, 0, none⟩) k d2], .bool true]) (by first | (simp [results, Try.results44, go_sem, *]; done) | (simp (maxDischargeDepth := 12) [results, Try.results44, go_sem, *]; done) | (simp (maxDischargeDepth := 12) [results, Try.results44, go_sem, *]; rfl)) rfl (RivP.yes (lo := w.heap.size) ?_ ?_ ?_ n01 n02 n12 (Nat.le_refl _) ?_)
      · exact owns_lo (owns_far (owns_far (owns_far HT0.out (by have h9 := HG.out; simp [Value.ownBlock]; omega) _) (by have h9 := HG.out; simp [Value.ownBlock]; omega) _) (by have h9 := HG.out; simp [Value.ownBlock]; omega) _) (by have h9 := HG.out; have h8 := HLo.out; omega)
      · exact owns_lo (owns_far (owns_far (owns_far HT1.out (by have h9 := HG.out; simp [Value.ownBlock]; omega) _) (by have h9 := HG.out; simp [Value.ownBlock]; omega) _) (by have h9 := HG.out; simp [Value.ownBlock]; omega) _) (by have h9 := HG.out; have h8 := HLo.out; omega)
      · exact owns_lo (owns_far (owns_far (owns_far HT2.out (by have h9 := HG.out; simp [Value.ownBlock]; omega) _) (by have h9 := HG.out; simp [Value.ownBlock]; omega) _) (by have h9 := HG.out; simp [Value.ownBlock]; omega) _) (by have h9 := HG.out; have h8 := HLo.out; omega)
      · exact (((HB.out.setCell (by show w.heap.size ≤ (w.heap.size + 1); omega) _).setCell (by show w.heap.size ≤ (w.heap.size + 1); omega) _).setCell (by show w.heap.size ≤ (w.heap.size + 1); omega) _)

end Go.Proofs.Ytnmmhaadkclogaa
