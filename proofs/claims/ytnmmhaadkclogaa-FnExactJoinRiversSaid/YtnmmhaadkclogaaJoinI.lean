/- JoinRivers: the program. -/
import Derived.Test.YtnmmhaadkclogaaJoinV
import Derived.Test.YtnmmhaadkclogaaCat
import Derived.Test.YtnmmhaadkclogaaRegMk
import Derived.Deep.RegionHeld3
namespace Go.Proofs.Ytnmmhaadkclogaa
open Go.RowKit
set_option linter.unusedVariables false
set_option linter.unusedSimpArgs false
set_option maxRecDepth 100000
attribute [local irreducible] wpV wpList Code.wp

set_option maxHeartbeats 16000000 in
theorem joinRivers_i (a0 a1 a2 : Option Addr) (l0 n l2 c0 c1 c2 : Nat) (D M V : List Int) (e0 e1 e2 : Option Addr) (q0 m q2 k0 k1 k2 : Nat) (E N U : List Int) (x : Int) (w : World) (hwx : (Lit.int .i64 x).wf = true) (h0 : RowC w a0 (ic D)) (h1 : RowC w a1 (ic M)) (h2 : RowC w a2 (ic V)) (hD : D.length = l0) (hM : M.length = n * 4) (hV : V.length = l2) (hl : l0 ≤ 1048576 ∧ n ≤ 1048576 ∧ l2 ≤ 1048576) (g0 : RowC w e0 (ic E)) (g1 : RowC w e1 (ic N)) (g2 : RowC w e2 (ic U)) (gD : E.length = q0) (gM : N.length = m * 4) (gV : U.length = q2) (gl : q0 ≤ 1048576 ∧ m ≤ 1048576 ∧ q2 ≤ 1048576) :
    Calls Try.prog 28 #[.agg #[.slice a0 l0 c0, .slice a1 n c1, .slice a2 l2 c2], .agg #[.slice e0 q0 k0, .slice e1 m k1, .slice e2 q2 k2], .int .i64 x] w (RivP (joinR D M V n E N U m x) w) := by
  obtain ⟨R, hR⟩ : ∃ R, joinR D M V n E N U m x = R := ⟨_, rfl⟩
  rw [hR]
  have HR := Lib.hid hR
  clear hR
  have hbl : Below w.heap.size w (((w.alloc (.cells #[.slice a0 l0 c0, .slice a1 n c1, .slice a2 l2 c2] 30)).alloc (.cells #[.slice e0 q0 k0, .slice e1 m k1, .slice e2 q2 k2] 30)).alloc (.cells #[.slice none 0 0, .slice none 0 0, .slice none 0 0] 30)) := bel3 w _ _ _
  have hbx : Bw (((w.alloc (.cells #[.slice a0 l0 c0, .slice a1 n c1, .slice a2 l2 c2] 30)).alloc (.cells #[.slice e0 q0 k0, .slice e1 m k1, .slice e2 q2 k2] 30)).alloc (.cells #[.slice none 0 0, .slice none 0 0, .slice none 0 0] 30)) w.heap.size [.slice a0 l0 c0, .slice a1 n c1, .slice a2 l2 c2] := ((Bw.new w [.slice a0 l0 c0, .slice a1 n c1, .slice a2 l2 c2] 30).alloc _).alloc _
  have hbe : Bw (((w.alloc (.cells #[.slice a0 l0 c0, .slice a1 n c1, .slice a2 l2 c2] 30)).alloc (.cells #[.slice e0 q0 k0, .slice e1 m k1, .slice e2 q2 k2] 30)).alloc (.cells #[.slice none 0 0, .slice none 0 0, .slice none 0 0] 30)) (w.heap.size + 1) [.slice e0 q0 k0, .slice e1 m k1, .slice e2 q2 k2] := (Bw.new1G w _ [.slice e0 q0 k0, .slice e1 m k1, .slice e2 q2 k2] _).alloc _
  have hbp : Bw (((w.alloc (.cells #[.slice a0 l0 c0, .slice a1 n c1, .slice a2 l2 c2] 30)).alloc (.cells #[.slice e0 q0 k0, .slice e1 m k1, .slice e2 q2 k2] 30)).alloc (.cells #[.slice none 0 0, .slice none 0 0, .slice none 0 0] 30)) (w.heap.size + 2) [.slice none 0 0, .slice none 0 0, .slice none 0 0] := Bw.new2G w _ _ [.slice none 0 0, .slice none 0 0, .slice none 0 0] _
  have HC := Lib.hid (hasNode_i a0 a1 a2 l0 n l2 c0 c1 c2 D M V x (((w.alloc (.cells #[.slice a0 l0 c0, .slice a1 n c1, .slice a2 l2 c2] 30)).alloc (.cells #[.slice e0 q0 k0, .slice e1 m k1, .slice e2 q2 k2] 30)).alloc (.cells #[.slice none 0 0, .slice none 0 0, .slice none 0 0] 30)) (h0.below hbl (Nat.le_refl _)) (h1.below hbl (Nat.le_refl _)) (h2.below hbl (Nat.le_refl _)) hD hM hV hl hwx)
  have HX := Lib.hid hbx
  have HE := Lib.hid hbe
  have HP := Lib.hid hbp
  have HL0 := Lib.hid hbl
  have H0 := Lib.hid h0
  have H1 := Lib.hid h1
  have H2 := Lib.hid h2
  have G0 := Lib.hid g0
  have G1 := Lib.hid g1
  have G2 := Lib.hid g2
  obtain ⟨bb, hbb⟩ : ∃ b, nodeB D M V n x = b := ⟨_, rfl⟩
  rw [hbb] at HC
  have HBB := Lib.hid hbb
  have HM := Lib.hid hM
  have HD := Lib.hid hD
  have HVl := Lib.hid hV
  have HL := Lib.hid hl
  have GM := Lib.hid gM
  have GD := Lib.hid gD
  have GV := Lib.hid gV
  have GL := Lib.hid gl
  clear h0 h1 h2 hD hM hV hl g0 g1 g2 gD gM gV gl hbb hbl hbx hbe hbp
  go_enter Try.func28, Try.ntmps28
  go_wp2_with fail
  refine HC.out.mono ?_
  rintro e w1 ⟨b9, hb9, rfl, hb⟩
  subst hb9
  have HB1 : Hid (Below w.heap.size w w1) := Lib.hid (HL0.out.trans (hb.mono (by first | (simp; done) | (simp; omega))))
  have hbd9 : Below (w.heap.size + 3) (((w.alloc (.cells #[.slice a0 l0 c0, .slice a1 n c1, .slice a2 l2 c2] 30)).alloc (.cells #[.slice e0 q0 k0, .slice e1 m k1, .slice e2 q2 k2] 30)).alloc (.cells #[.slice none 0 0, .slice none 0 0, .slice none 0 0] 30)) w1 := hb.mono (by first | (simp; done) | (simp; omega))
  clear hb
  have HX1 := Lib.hid (HX.out.below hbd9 (by omega))
  have HE1 := Lib.hid (HE.out.below hbd9 (by omega))
  have HP1 := Lib.hid (HP.out.below hbd9 (by omega))
  have HZ1 : Hid (w.heap.size + 3 ≤ w1.heap.size) := Lib.hid (by have h9 := hbd9.size; (try simp at h9); omega)
  clear hbd9 HC HX HE HP HL0
  cases bb
  · have hv : R = failR := by rw [← HR.out]; unfold joinR; rw [HBB.out]; rfl
    have HV := Lib.hid hv
    clear hv
    have r0 := HP1.out.c 0 rfl
    have r1 := HP1.out.c 1 rfl
    have r2 := HP1.out.c 2 rfl
    have f0 := HP1.out.f 0 (by simp)
    have f1 := HP1.out.f 1 (by simp)
    have f2 := HP1.out.f 2 (by simp)
    go_wp2_with fail
    rw [HV.out]
    exact bodyPost_ret (v := .tuple #[.agg #[.slice none 0 0, .slice none 0 0, .slice none 0 0], .bool false]) (by first | (simp [results, Try.results28, go_sem, *]; done) | (simp (maxDischargeDepth := 12) [results, Try.results28, go_sem, *]; done) | (simp (maxDischargeDepth := 12) [results, Try.results28, go_sem, *]; rfl)) rfl (RivP.no (((HB1.out.setCell (by show w.heap.size ≤ (w.heap.size + 2); omega) _).setCell (by show w.heap.size ≤ (w.heap.size + 2); omega) _).setCell (by show w.heap.size ≤ (w.heap.size + 2); omega) _))
  · have hC2 := validRiver_i e0 e1 e2 q0 m q2 k0 k1 k2 E N U w1 (G0.out.below HB1.out (Nat.le_refl _)) (G1.out.below HB1.out (Nat.le_refl _)) (G2.out.below HB1.out (Nat.le_refl _)) GD.out GM.out GV.out GL.out
    obtain ⟨b2, hb2⟩ : ∃ b, rivB E N U m = b := ⟨_, rfl⟩
    rw [hb2] at hC2
    have HC2 := Lib.hid hC2
    have HBE := Lib.hid hb2
    clear hC2 hb2
    have x_0 := HX1.out.c 0 rfl
    have x_1 := HX1.out.c 1 rfl
    have x_2 := HX1.out.c 2 rfl
    have y_0 := HE1.out.c 0 rfl
    have y_1 := HE1.out.c 1 rfl
    have y_2 := HE1.out.c 2 rfl
    go_wp2_with fail
    refine HC2.out.mono ?_
    rintro e w2 ⟨b9, hb9, rfl, hst⟩
    subst hb9
    clear HC2
    clear x_0 x_1 x_2 y_0 y_1 y_2
    have HX2 := Lib.hid (HX1.out.below hst HX1.out.1.1)
    have HE2 := Lib.hid (HE1.out.below hst HE1.out.1.1)
    have HP2 := Lib.hid (HP1.out.below hst HP1.out.1.1)
    have HB2 : Hid (Below w.heap.size w w2) := Lib.hid (HB1.out.trans (hst.mono HB1.out.size))
    have HZ2 : Hid (w.heap.size + 3 ≤ w2.heap.size) := Lib.hid (Nat.le_trans HZ1.out hst.size)
    clear hst HX1 HE1 HP1 HB1 HZ1
    cases b2
    · have hv : R = failR := by rw [← HR.out]; unfold joinR; rw [HBB.out, HBE.out]; rfl
      have HV := Lib.hid hv
      clear hv
      have r0 := HP2.out.c 0 rfl
      have r1 := HP2.out.c 1 rfl
      have r2 := HP2.out.c 2 rfl
      have f0 := HP2.out.f 0 (by simp)
      have f1 := HP2.out.f 1 (by simp)
      have f2 := HP2.out.f 2 (by simp)
      go_wp2_with fail
      rw [HV.out]
      exact bodyPost_ret (v := .tuple #[.agg #[.slice none 0 0, .slice none 0 0, .slice none 0 0], .bool false]) (by first | (simp [results, Try.results28, go_sem, *]; done) | (simp (maxDischargeDepth := 12) [results, Try.results28, go_sem, *]; done) | (simp (maxDischargeDepth := 12) [results, Try.results28, go_sem, *]; rfl)) rfl (RivP.no (((HB2.out.setCell (by show w.heap.size ≤ (w.heap.size + 2); omega) _).setCell (by show w.heap.size ≤ (w.heap.size + 2); omega) _).setCell (by show w.heap.size ≤ (w.heap.size + 2); omega) _))
    have HRv : Hid (rivB D M V n = true) := Lib.hid (nodeB_true HBB.out).1
    have HT := Lib.hid (rivB_true HRv.out)
    have hni := (nodeB_true HBB.out).2
    obtain ⟨hx1, hx2⟩ := hni
    have HTE := Lib.hid (rivB_true HBE.out)
    have h0n : l0 = n := by have h7 := HT.out.1; have h8 := HD.out; omega
    subst h0n
    have h2n : l2 = l0 := by have h7 := HT.out.1; have h8 := HD.out; have h9 := HVl.out; omega
    subst h2n
    have hl12 : l2 ≤ 12 := by have h7 := HT.out.1; have h8 := HD.out; omega
    have hl1 : 0 < l2 := by have h7 := HT.out.1; have h8 := HD.out; omega
    have h0n : q0 = m := by have h7 := HTE.out.1; have h8 := GD.out; omega
    subst h0n
    have h2n : q2 = q0 := by have h7 := HTE.out.1; have h8 := GD.out; have h9 := GV.out; omega
    subst h2n
    have hq12 : q2 ≤ 12 := by have h7 := HTE.out.1; have h8 := GD.out; omega
    have hq1 : 0 < q2 := by have h7 := HTE.out.1; have h8 := GD.out; omega
    obtain ⟨b0, o0, b1, o1, b2, o2, rfl, rfl, rfl, hsrc⟩ := Src.of H0.out H1.out H2.out HD.out HM.out HVl.out hl1 (by omega)
    have HSr := Lib.hid hsrc
    clear hsrc
    obtain ⟨u0, p0, u1, p1, u2, p2, rfl, rfl, rfl, hsrc⟩ := Src.of G0.out G1.out G2.out GD.out GM.out GV.out hq1 (by omega)
    have HSe := Lib.hid hsrc
    clear hsrc
    have HRg : Hid (∀ j, j < q2 → -1 ≤ E.getD j 0 ∧ E.getD j 0 ≤ (q2 : Int) - 1) := Lib.hid (fun j hj => by have h9 := rivB_range HBE.out j (by rw [GD.out]; exact hj); rw [GD.out] at h9; exact h9)
    obtain ⟨nq, hnq⟩ : ∃ t, l2 + q2 = t := ⟨_, rfl⟩
    have Hnq := Lib.hid hnq
    have HBa : Hid (Below w.heap.size w (w2.alloc (.cells #[.slice (some ⟨b0, o0, none⟩) l2 c0, .slice (some ⟨u0, p0, none⟩) q2 k0] 22))) := Lib.hid (HB2.out.alloc HB2.out.size _)
    have hs1 := HSr.out.below HBa.out (Nat.le_refl _)
    have hs2 := HSe.out.below HBa.out (Nat.le_refl _)
    have hcat := concatZ_any w2.heap.size b0 o0 l2 c0 u0 p0 q2 k0 D E (w2.alloc (.cells #[.slice (some ⟨b0, o0, none⟩) l2 c0, .slice (some ⟨u0, p0, none⟩) q2 k0] 22)) (by simp [go_sem]) (by simp [go_sem]) (by simp) hs1.l0 hs2.l0 hs1.k0 hs2.k0 (by rw [hs1.n0, Nat.mul_one]) (by rw [hs2.n0, Nat.mul_one]) hl1 hq1 (by omega) (by omega)
    rw [hnq] at hcat
    have HCat := Lib.hid hcat
    clear hs1 hs2 hcat hnq
    have x_0 := HX2.out.c 0 rfl
    have x_1 := HX2.out.c 1 rfl
    have x_2 := HX2.out.c 2 rfl
    have y_0 := HE2.out.c 0 rfl
    have y_1 := HE2.out.c 1 rfl
    have y_2 := HE2.out.c 2 rfl
    go_wp2_with fail
    refine HCat.out.mono ?_
    rintro e w3 ⟨g0, d0, rfl, hrow, hb⟩
    clear HCat x_0 x_1 x_2 y_0 y_1 y_2
    have HLo : Hid (w.heap.size + 3 ≤ w2.heap.size) := HZ2
    obtain ⟨lo, hlo⟩ : ∃ lo, w2.heap.size = lo := ⟨_, rfl⟩
    have hrow2 : w3.ownsRow lo 2 1 (.slice (some ⟨g0, 0, none⟩) nq d0) nq (ic (joinW D E x l2 0 q2)) := by rw [joinW_zero x l2 GD.out, ← hlo]; exact owns_lo hrow (by simp)
    rw [hlo] at HLo
    have HT0 := Lib.hid hrow2
    have HX3 := Lib.hid ((HX2.out.alloc (.cells #[.slice (some ⟨b0, o0, none⟩) l2 c0, .slice (some ⟨u0, p0, none⟩) q2 k0] 22)).below hb (by have h9 := HZ2.out; simp; omega))
    have HE3 := Lib.hid ((HE2.out.alloc (.cells #[.slice (some ⟨b0, o0, none⟩) l2 c0, .slice (some ⟨u0, p0, none⟩) q2 k0] 22)).below hb (by have h9 := HZ2.out; simp; omega))
    have HP3 := Lib.hid ((HP2.out.alloc (.cells #[.slice (some ⟨b0, o0, none⟩) l2 c0, .slice (some ⟨u0, p0, none⟩) q2 k0] 22)).below hb (by have h9 := HZ2.out; simp; omega))
    have HB3 : Hid (Below w.heap.size w w3) := Lib.hid (HBa.out.trans (hb.mono HBa.out.size))
    have HG0 : Hid (lo ≤ g0) := Lib.hid (hrow2.lt g0 rfl).1
    clear hrow hrow2 hb HBa HX2 HE2 HP2 HB2 HZ2 hlo
    have x_0 := HX3.out.c 0 rfl
    have x_1 := HX3.out.c 1 rfl
    have x_2 := HX3.out.c 2 rfl
    have y_0 := HE3.out.c 0 rfl
    have y_1 := HE3.out.c 1 rfl
    have y_2 := HE3.out.c 2 rfl
    go_wp2_with fail
    go_loopw [10, 11, 34] (fun av bv iv wr => ∃ k : Nat, k ≤ q2 ∧ iv = .int .i64 (k : Int) ∧ Hid (Bw wr w.heap.size [.slice (some ⟨b0, o0, none⟩) l2 c0, .slice (some ⟨b1, o1, none⟩) l2 c1, .slice (some ⟨b2, o2, none⟩) l2 c2]) ∧ Hid (Bw wr (w.heap.size + 1) [.slice (some ⟨u0, p0, none⟩) q2 k0, .slice (some ⟨u1, p1, none⟩) q2 k1, .slice (some ⟨u2, p2, none⟩) q2 k2]) ∧ Hid (Bw wr (w.heap.size + 2) [.slice none 0 0, .slice none 0 0, .slice none 0 0]) ∧ Hid (wr.ownsRow lo 2 1 (.slice (some ⟨g0, 0, none⟩) nq d0) nq (ic (joinW D E x l2 k q2))) ∧ Hid (Below w.heap.size w wr)) (fun _ _ iv _ => q2 - (intOf iv).toNat)
    case atStart => exact ⟨0, Nat.zero_le _, rfl, HX3, HE3, HP3, HT0, HB3⟩
    case round =>
    clear HX3 HE3 HP3 HT0 HB3 x_0 x_1 x_2 y_0 y_1 y_2
    obtain ⟨k, hk, rfl, HXx, HEe, HPp, HT, HBr⟩ := hrel
    have hk0 : (0 : Int) ≤ (k : Int) := by omega
    by_cases hlt : k < q2
    · have hk1 : (k : Int) < (q2 : Int) := by omega
      have cd : wr.cell? ⟨u0, p0 + k, none⟩ = some (.int .i64 (E.getD k 0)) := by rw [HBr.out.cell (p := ⟨u0, p0 + k, none⟩) HSe.out.l0]; exact HSe.out.k0 k (by rw [GD.out]; exact hlt)
      have hrk := HRg.out k hlt
      obtain ⟨z, hz⟩ : ∃ z, E.getD k 0 = z := ⟨_, rfl⟩
      rw [hz] at cd hrk
      have Hz := Lib.hid hz
      obtain ⟨hz1, hz2⟩ := hrk
      obtain ⟨v0, hv0⟩ : ∃ v, (ic (joinW D E x l2 k q2))[l2 + k]? = some v := ⟨_, List.getElem?_eq_getElem (by rw [ic_length, joinW_length, HD.out]; omega)⟩
      have hj9 : l2 + k < nq := by have h9 := Hnq.out; omega
      have kc : wr.cell? ⟨g0, l2 + k, none⟩ = some v0 := by rw [HT.out.cellAt (l2 + k) (by omega)]; exact hv0
      have kf := HT.out.frozenAt (l2 + k)
      obtain ⟨j, hj⟩ : ∃ j, l2 + k = j := ⟨_, rfl⟩
      rw [hj] at kc kf hj9
      have hji : (l2 : Int) + (k : Int) = (j : Int) := by omega
      have hj0 : (0 : Int) ≤ (j : Int) := by omega
      have hj1 : (j : Int) < (nq : Int) := by omega
      have hnq20 : nq ≤ 24 := by have h9 := Hnq.out; omega
      clear hz hv0
      by_cases hzn : z = -1
      · have hF : x = joinF x l2 (E.getD k 0) := by rw [Hz.out]; unfold joinF; rw [if_pos (by omega)]
        have hst := (HT.out.stored (l2 + k) (.int .i64 x)).1
        have hst2 := hst
        rw [← ic_set] at hst2
        have HF := Lib.hid hF
        clear hst hF
        have hst3 : (wr.setCell ⟨g0, j, none⟩ (.int .i64 x)).ownsRow lo 2 1 (.slice (some ⟨g0, 0, none⟩) nq d0) nq (ic (joinW D E x l2 (k + 1) q2)) := by
          rw [← joinW_set HD.out hlt, ← HF.out, ← hj]
          exact hst2
        have Hst := Lib.hid hst3
        clear hst2 hst3
        go_wp2_with fail
        go_roundw
        case rel => exact ⟨k + 1, by omega, by go_num, Lib.hid (HXx.out.setOther (by have h9 := HG0.out; have h8 := HLo.out; show g0 ≠ w.heap.size; omega) _), Lib.hid (HEe.out.setOther (by have h9 := HG0.out; have h8 := HLo.out; show g0 ≠ w.heap.size + 1; omega) _), Lib.hid (HPp.out.setOther (by have h9 := HG0.out; have h8 := HLo.out; show g0 ≠ w.heap.size + 2; omega) _), Hst, Lib.hid (HBr.out.setCell (by have h9 := HG0.out; have h8 := HLo.out; show w.heap.size ≤ g0; omega) _)⟩
        case measure => simp [intOf]; omega
      · have hF : (l2 : Int) + z = joinF x l2 (E.getD k 0) := by rw [Hz.out]; unfold joinF; rw [if_neg (by omega)]; omega
        have hst2 := (HT.out.stored (l2 + k) (.int .i64 ((l2 : Int) + z))).1
        rw [← ic_set] at hst2
        have HF := Lib.hid hF
        clear hF
        have hst3 : (wr.setCell ⟨g0, j, none⟩ (.int .i64 ((l2 : Int) + z))).ownsRow lo 2 1 (.slice (some ⟨g0, 0, none⟩) nq d0) nq (ic (joinW D E x l2 (k + 1) q2)) := by
          rw [← joinW_set HD.out hlt, ← HF.out, ← hj]
          exact hst2
        have Hst := Lib.hid hst3
        clear hst2 hst3
        go_wp2_with fail
        go_roundw
        case rel => exact ⟨k + 1, by omega, by go_num, Lib.hid (HXx.out.setOther (by have h9 := HG0.out; have h8 := HLo.out; show g0 ≠ w.heap.size; omega) _), Lib.hid (HEe.out.setOther (by have h9 := HG0.out; have h8 := HLo.out; show g0 ≠ w.heap.size + 1; omega) _), Lib.hid (HPp.out.setOther (by have h9 := HG0.out; have h8 := HLo.out; show g0 ≠ w.heap.size + 2; omega) _), Hst, Lib.hid (HBr.out.setCell (by have h9 := HG0.out; have h8 := HLo.out; show w.heap.size ≤ g0; omega) _)⟩
        case measure => simp [intOf]; omega
    · have hkl : k = q2 := by omega
      subst hkl
      rw [joinW_all] at HT
      have hnq2 := Hnq.out
      subst hnq2
      have K0 : Hid (Below wr.heap.size wr wr) := Lib.hid (Below.refl _ _)
      have HZK : Hid (w.heap.size + 3 ≤ wr.heap.size) := Lib.hid (by have h9 := HPp.out.1.1; omega)
      have HKeep : Hid (∀ W, Below wr.heap.size wr W → (W.cell? ⟨w.heap.size, 1, none⟩ = some (.slice (some ⟨b1, o1, none⟩) l2 c1) ∧ W.cell? ⟨w.heap.size, 2, none⟩ = some (.slice (some ⟨b2, o2, none⟩) l2 c2) ∧ W.cell? ⟨w.heap.size + 1, 1, none⟩ = some (.slice (some ⟨u1, p1, none⟩) k k1) ∧ W.cell? ⟨w.heap.size + 1, 2, none⟩ = some (.slice (some ⟨u2, p2, none⟩) k k2))) := Lib.hid fun W hW => ⟨(hW.cell (p := ⟨w.heap.size, 1, none⟩) HXx.out.1.1).trans (HXx.out.c 1 rfl), (hW.cell (p := ⟨w.heap.size, 2, none⟩) HXx.out.1.1).trans (HXx.out.c 2 rfl), (hW.cell (p := ⟨w.heap.size + 1, 1, none⟩) HEe.out.1.1).trans (HEe.out.c 1 rfl), (hW.cell (p := ⟨w.heap.size + 1, 2, none⟩) HEe.out.1.1).trans (HEe.out.c 2 rfl)⟩
      have HCD : Hid (∀ pb W, Below wr.heap.size wr W → W.cell? ⟨pb, 0, none⟩ = some (.slice (some ⟨b1, o1, none⟩) l2 c1) → W.cell? ⟨pb, 1, none⟩ = some (.slice (some ⟨u1, p1, none⟩) k k1) → pb < W.heap.size → Calls Try.prog 70 #[.slice (some ⟨pb, 0, none⟩) 2 2] W (fun e w' => ∃ g c, e = .returned (.slice (some ⟨g, 0, none⟩) (l2 + k) c) ∧ w'.ownsRow W.heap.size 38 4 (.slice (some ⟨g, 0, none⟩) (l2 + k) c) (l2 + k) (ic (M ++ N)) ∧ Below W.heap.size W w')) := Lib.hid fun pb W hW q9 q8 q7 => by
        have h9 : Below w.heap.size w W := HBr.out.trans (hW.mono HBr.out.size)
        have s1 := HSr.out.below h9 (Nat.le_refl _)
        have s2 := HSe.out.below h9 (Nat.le_refl _)
        exact concatD_any pb b1 o1 l2 c1 u1 p1 k k1 M N W q9 q8 q7 s1.l1 s2.l1 s1.k1 s2.k1 s1.n1 s2.n1 hl1 hq1 (by omega) (by omega)
      have HCV : Hid (∀ pb W, Below wr.heap.size wr W → W.cell? ⟨pb, 0, none⟩ = some (.slice (some ⟨b2, o2, none⟩) l2 c2) → W.cell? ⟨pb, 1, none⟩ = some (.slice (some ⟨u2, p2, none⟩) k k2) → pb < W.heap.size → Calls Try.prog 69 #[.slice (some ⟨pb, 0, none⟩) 2 2] W (fun e w' => ∃ g c, e = .returned (.slice (some ⟨g, 0, none⟩) (l2 + k) c) ∧ w'.ownsRow W.heap.size 2 1 (.slice (some ⟨g, 0, none⟩) (l2 + k) c) (l2 + k) (ic (V ++ U)) ∧ Below W.heap.size W w')) := Lib.hid fun pb W hW q9 q8 q7 => by
        have h9 : Below w.heap.size w W := HBr.out.trans (hW.mono HBr.out.size)
        have s1 := HSr.out.below h9 (Nat.le_refl _)
        have s2 := HSe.out.below h9 (Nat.le_refl _)
        exact concatZ_any pb b2 o2 l2 c2 u2 p2 k k2 V U W q9 q8 q7 s1.l2 s2.l2 s1.k2 s2.k2 (by rw [s1.n2, Nat.mul_one]) (by rw [s2.n2, Nat.mul_one]) hl1 hq1 (by omega) (by omega)
      have LD : Hid ((joinD D E x l2 k).length = l2 + k) := Lib.hid (by rw [joinD_length, HD.out])
      have LM : Hid ((M ++ N).length = (l2 + k) * 4) := Lib.hid (by rw [List.length_append, HM.out, GM.out]; omega)
      have LV : Hid ((V ++ U).length = l2 + k) := Lib.hid (by rw [List.length_append, HVl.out, GV.out])
      obtain ⟨b3, hb3⟩ : ∃ b, rivB (joinD D E x l2 k) (M ++ N) (V ++ U) (l2 + k) = b := ⟨_, rfl⟩
      have HB3' := Lib.hid hb3
      clear hb3
      have hgr := HT.out.lt g0 rfl
      have HGr := Lib.hid hgr
      clear hgr
      cases b3
      · skip
        have xx := HKeep.out _ K0.out
        obtain ⟨xx1, xx2, xx3, xx4⟩ := xx
        go_wp2_with fail
        go_region_held3 (fun W => W.cell? ⟨w.heap.size, 1, none⟩ = some (.slice (some ⟨b1, o1, none⟩) l2 c1) ∧ W.cell? ⟨w.heap.size, 2, none⟩ = some (.slice (some ⟨b2, o2, none⟩) l2 c2) ∧ W.cell? ⟨w.heap.size + 1, 1, none⟩ = some (.slice (some ⟨u1, p1, none⟩) k k1) ∧ W.cell? ⟨w.heap.size + 1, 2, none⟩ = some (.slice (some ⟨u2, p2, none⟩) k k2))
          (first | with_reducible exact HKeep.out _ K3.out | with_reducible exact HKeep.out _ K3.out.drew | (refine HKeep.out _ ?_; (repeat (first | with_reducible exact K3.out | with_reducible refine beld ?_ _ | with_reducible refine Below.drew ?_ | (with_reducible refine Below.alloc ?_ ?_ _; rotate_left; exact (by first | (simp; done) | (simp; omega) | (have h9 := HZK.out; simp; omega) | (have h9 := HZK1.out; simp; omega) | (have h9 := HZK2.out; simp; omega))))); done) | with_reducible exact HKeep.out _ K2.out | with_reducible exact HKeep.out _ K2.out.drew | (refine HKeep.out _ ?_; (repeat (first | with_reducible exact K2.out | with_reducible refine beld ?_ _ | with_reducible refine Below.drew ?_ | (with_reducible refine Below.alloc ?_ ?_ _; rotate_left; exact (by first | (simp; done) | (simp; omega) | (have h9 := HZK.out; simp; omega) | (have h9 := HZK1.out; simp; omega) | (have h9 := HZK2.out; simp; omega))))); done) | with_reducible exact HKeep.out _ K1.out | with_reducible exact HKeep.out _ K1.out.drew | (refine HKeep.out _ ?_; (repeat (first | with_reducible exact K1.out | with_reducible refine beld ?_ _ | with_reducible refine Below.drew ?_ | (with_reducible refine Below.alloc ?_ ?_ _; rotate_left; exact (by first | (simp; done) | (simp; omega) | (have h9 := HZK.out; simp; omega) | (have h9 := HZK1.out; simp; omega) | (have h9 := HZK2.out; simp; omega))))); done) | with_reducible exact HKeep.out _ K0.out | with_reducible exact HKeep.out _ K0.out.drew | (refine HKeep.out _ ?_; (repeat (first | with_reducible exact K0.out | with_reducible refine beld ?_ _ | with_reducible refine Below.drew ?_ | (with_reducible refine Below.alloc ?_ ?_ _; rotate_left; exact (by first | (simp; done) | (simp; omega) | (have h9 := HZK.out; simp; omega) | (have h9 := HZK1.out; simp; omega) | (have h9 := HZK2.out; simp; omega))))); done) | (obtain ⟨k0, k1, k2, k3⟩ := HKeep.out _ K3.out; exact ⟨by simp [go_sem, k0], by simp [go_sem, k1], by simp [go_sem, k2], by simp [go_sem, k3]⟩))
          (first | (go_at_call 70; refine (HCD.out _ _ (by repeat (first | with_reducible exact K0.out | with_reducible refine beld ?_ _ | with_reducible refine Below.drew ?_ | (with_reducible refine Below.alloc ?_ ?_ _; rotate_left; exact (by first | (simp; done) | (simp; omega) | (have h9 := HZK.out; simp; omega) | (have h9 := HZK1.out; simp; omega) | (have h9 := HZK2.out; simp; omega))))) (by simp [go_sem]) (by simp [go_sem]) (by first | (simp; done) | (simp; omega))).mono ?_; rintro e wA ⟨h1, e1, rfl, hrow, hb⟩; have K1 : Hid (Below wr.heap.size wr wA) := Lib.hid (Below.trans (by repeat (first | with_reducible exact K0.out | with_reducible refine beld ?_ _ | with_reducible refine Below.drew ?_ | (with_reducible refine Below.alloc ?_ ?_ _; rotate_left; exact (by first | (simp; done) | (simp; omega) | (have h9 := HZK.out; simp; omega) | (have h9 := HZK1.out; simp; omega) | (have h9 := HZK2.out; simp; omega))))) (hb.mono (by first | (simp; done) | (simp; omega)))); have HR1 := Lib.hid hrow; have HCe := Lib.hid (fun (p : Addr) hp => hb.cell (p := p) hp); have HS1 := Lib.hid (hrow.lt h1 rfl); have HZK1 : Hid (wr.heap.size ≤ wA.heap.size) := Lib.hid K1.out.size; have hsz1 := hb.size; have HSz1 := Lib.hid hsz1; clear hrow hb hsz1) | (go_at_call 69; refine (HCV.out _ _ (by repeat (first | with_reducible exact K1.out | with_reducible refine beld ?_ _ | with_reducible refine Below.drew ?_ | (with_reducible refine Below.alloc ?_ ?_ _; rotate_left; exact (by first | (simp; done) | (simp; omega) | (have h9 := HZK.out; simp; omega) | (have h9 := HZK1.out; simp; omega) | (have h9 := HZK2.out; simp; omega))))) (by first | (simp [go_sem]; done) | (rw [HCe.out _ (by first | (simp; done) | (simp; omega))]; simp [go_sem])) (by first | (simp [go_sem]; done) | (rw [HCe.out _ (by first | (simp; done) | (simp; omega))]; simp [go_sem])) (by first | (simp; done) | (have h9 := HSz1.out; (try simp at h9 ⊢); omega))).mono ?_; rintro e wB ⟨h2, e2, rfl, hrow, hb⟩; have K2 : Hid (Below wr.heap.size wr wB) := Lib.hid (Below.trans (by repeat (first | with_reducible exact K1.out | with_reducible refine beld ?_ _ | with_reducible refine Below.drew ?_ | (with_reducible refine Below.alloc ?_ ?_ _; rotate_left; exact (by first | (simp; done) | (simp; omega) | (have h9 := HZK.out; simp; omega) | (have h9 := HZK1.out; simp; omega) | (have h9 := HZK2.out; simp; omega))))) (hb.mono (by first | (simp; done) | (have h9 := HZK1.out; simp; omega) | exact HZK1.out))); have HR2 := Lib.hid hrow; have HR1' := Lib.hid (owns_below (by first | exact HR1.out | exact HR1.out.alloc _) hb (Nat.le_refl _)); have HS2 := Lib.hid (hrow.lt h2 rfl); have HZK2 : Hid (wr.heap.size ≤ wB.heap.size) := Lib.hid K2.out.size; clear hrow hb) | (go_at_call 66; refine (made_no (some ⟨g0, 0, none⟩) (some ⟨h1, 0, none⟩) (some ⟨h2, 0, none⟩) (l2 + k) (l2 + k) (l2 + k) d0 e1 e2 (joinD D E x l2 k) (M ++ N) (V ++ U) _ (owns_row (owns_below HT.out K2.out (Nat.le_refl _))) (owns_row HR1'.out) (owns_row HR2.out) LD.out LM.out LV.out ⟨by omega, by omega, by omega⟩ HB3'.out).mono ?_; rintro e wC ⟨rfl, hb⟩; have K3 : Hid (Below wr.heap.size wr wC) := Lib.hid (K2.out.trans (hb.mono HZK2.out)); have HU1 := Lib.hid (owns_below HR1'.out hb (Nat.le_refl _)); have HU2 := Lib.hid (owns_below HR2.out hb (Nat.le_refl _)); clear hb; have hbp := HPp.out.below K3.out HPp.out.1.1; have s_0 := hbp.c 0 rfl; have s_1 := hbp.c 1 rfl; have s_2 := hbp.c 2 rfl; have f0 := hbp.f 0 (by simp); have f1 := hbp.f 1 (by simp); have f2 := hbp.f 2 (by simp); clear hbp) | fail)
        all_goals go_wp2_with fail
        all_goals
          have hv : R = failR := by rw [← HR.out]; unfold joinR; rw [HBB.out, HBE.out, HB3'.out]; rfl
          have HV := Lib.hid hv
          clear hv
          rw [HV.out]
          have HB5 : Hid (Below w.heap.size w wC) := Lib.hid (HBr.out.trans (K3.out.mono HBr.out.size))
          exact bodyPost_ret (v := .tuple #[.agg #[.slice none 0 0, .slice none 0 0, .slice none 0 0], .bool false]) (by first | (simp [results, Try.results28, go_sem, *]; done) | (simp (maxDischargeDepth := 12) [results, Try.results28, go_sem, *]; done) | (simp (maxDischargeDepth := 12) [results, Try.results28, go_sem, *]; rfl)) rfl (RivP.no (((HB5.out.setCell (by show w.heap.size ≤ (w.heap.size + 2); omega) _).setCell (by show w.heap.size ≤ (w.heap.size + 2); omega) _).setCell (by show w.heap.size ≤ (w.heap.size + 2); omega) _))
      · skip
        have xx := HKeep.out _ K0.out
        obtain ⟨xx1, xx2, xx3, xx4⟩ := xx
        go_wp2_with fail
        go_region_held3 (fun W => W.cell? ⟨w.heap.size, 1, none⟩ = some (.slice (some ⟨b1, o1, none⟩) l2 c1) ∧ W.cell? ⟨w.heap.size, 2, none⟩ = some (.slice (some ⟨b2, o2, none⟩) l2 c2) ∧ W.cell? ⟨w.heap.size + 1, 1, none⟩ = some (.slice (some ⟨u1, p1, none⟩) k k1) ∧ W.cell? ⟨w.heap.size + 1, 2, none⟩ = some (.slice (some ⟨u2, p2, none⟩) k k2))
          (first | with_reducible exact HKeep.out _ K3.out | with_reducible exact HKeep.out _ K3.out.drew | (refine HKeep.out _ ?_; (repeat (first | with_reducible exact K3.out | with_reducible refine beld ?_ _ | with_reducible refine Below.drew ?_ | (with_reducible refine Below.alloc ?_ ?_ _; rotate_left; exact (by first | (simp; done) | (simp; omega) | (have h9 := HZK.out; simp; omega) | (have h9 := HZK1.out; simp; omega) | (have h9 := HZK2.out; simp; omega))))); done) | with_reducible exact HKeep.out _ K2.out | with_reducible exact HKeep.out _ K2.out.drew | (refine HKeep.out _ ?_; (repeat (first | with_reducible exact K2.out | with_reducible refine beld ?_ _ | with_reducible refine Below.drew ?_ | (with_reducible refine Below.alloc ?_ ?_ _; rotate_left; exact (by first | (simp; done) | (simp; omega) | (have h9 := HZK.out; simp; omega) | (have h9 := HZK1.out; simp; omega) | (have h9 := HZK2.out; simp; omega))))); done) | with_reducible exact HKeep.out _ K1.out | with_reducible exact HKeep.out _ K1.out.drew | (refine HKeep.out _ ?_; (repeat (first | with_reducible exact K1.out | with_reducible refine beld ?_ _ | with_reducible refine Below.drew ?_ | (with_reducible refine Below.alloc ?_ ?_ _; rotate_left; exact (by first | (simp; done) | (simp; omega) | (have h9 := HZK.out; simp; omega) | (have h9 := HZK1.out; simp; omega) | (have h9 := HZK2.out; simp; omega))))); done) | with_reducible exact HKeep.out _ K0.out | with_reducible exact HKeep.out _ K0.out.drew | (refine HKeep.out _ ?_; (repeat (first | with_reducible exact K0.out | with_reducible refine beld ?_ _ | with_reducible refine Below.drew ?_ | (with_reducible refine Below.alloc ?_ ?_ _; rotate_left; exact (by first | (simp; done) | (simp; omega) | (have h9 := HZK.out; simp; omega) | (have h9 := HZK1.out; simp; omega) | (have h9 := HZK2.out; simp; omega))))); done) | (obtain ⟨k0, k1, k2, k3⟩ := HKeep.out _ K3.out; exact ⟨by simp [go_sem, k0], by simp [go_sem, k1], by simp [go_sem, k2], by simp [go_sem, k3]⟩))
          (first | (go_at_call 70; refine (HCD.out _ _ (by repeat (first | with_reducible exact K0.out | with_reducible refine beld ?_ _ | with_reducible refine Below.drew ?_ | (with_reducible refine Below.alloc ?_ ?_ _; rotate_left; exact (by first | (simp; done) | (simp; omega) | (have h9 := HZK.out; simp; omega) | (have h9 := HZK1.out; simp; omega) | (have h9 := HZK2.out; simp; omega))))) (by simp [go_sem]) (by simp [go_sem]) (by first | (simp; done) | (simp; omega))).mono ?_; rintro e wA ⟨h1, e1, rfl, hrow, hb⟩; have K1 : Hid (Below wr.heap.size wr wA) := Lib.hid (Below.trans (by repeat (first | with_reducible exact K0.out | with_reducible refine beld ?_ _ | with_reducible refine Below.drew ?_ | (with_reducible refine Below.alloc ?_ ?_ _; rotate_left; exact (by first | (simp; done) | (simp; omega) | (have h9 := HZK.out; simp; omega) | (have h9 := HZK1.out; simp; omega) | (have h9 := HZK2.out; simp; omega))))) (hb.mono (by first | (simp; done) | (simp; omega)))); have HR1 := Lib.hid hrow; have HCe := Lib.hid (fun (p : Addr) hp => hb.cell (p := p) hp); have HS1 := Lib.hid (hrow.lt h1 rfl); have HZK1 : Hid (wr.heap.size ≤ wA.heap.size) := Lib.hid K1.out.size; have hsz1 := hb.size; have HSz1 := Lib.hid hsz1; clear hrow hb hsz1) | (go_at_call 69; refine (HCV.out _ _ (by repeat (first | with_reducible exact K1.out | with_reducible refine beld ?_ _ | with_reducible refine Below.drew ?_ | (with_reducible refine Below.alloc ?_ ?_ _; rotate_left; exact (by first | (simp; done) | (simp; omega) | (have h9 := HZK.out; simp; omega) | (have h9 := HZK1.out; simp; omega) | (have h9 := HZK2.out; simp; omega))))) (by first | (simp [go_sem]; done) | (rw [HCe.out _ (by first | (simp; done) | (simp; omega))]; simp [go_sem])) (by first | (simp [go_sem]; done) | (rw [HCe.out _ (by first | (simp; done) | (simp; omega))]; simp [go_sem])) (by first | (simp; done) | (have h9 := HSz1.out; (try simp at h9 ⊢); omega))).mono ?_; rintro e wB ⟨h2, e2, rfl, hrow, hb⟩; have K2 : Hid (Below wr.heap.size wr wB) := Lib.hid (Below.trans (by repeat (first | with_reducible exact K1.out | with_reducible refine beld ?_ _ | with_reducible refine Below.drew ?_ | (with_reducible refine Below.alloc ?_ ?_ _; rotate_left; exact (by first | (simp; done) | (simp; omega) | (have h9 := HZK.out; simp; omega) | (have h9 := HZK1.out; simp; omega) | (have h9 := HZK2.out; simp; omega))))) (hb.mono (by first | (simp; done) | (have h9 := HZK1.out; simp; omega) | exact HZK1.out))); have HR2 := Lib.hid hrow; have HR1' := Lib.hid (owns_below (by first | exact HR1.out | exact HR1.out.alloc _) hb (Nat.le_refl _)); have HS2 := Lib.hid (hrow.lt h2 rfl); have HZK2 : Hid (wr.heap.size ≤ wB.heap.size) := Lib.hid K2.out.size; clear hrow hb) | (go_at_call 66; refine (made_yes (some ⟨g0, 0, none⟩) (some ⟨h1, 0, none⟩) (some ⟨h2, 0, none⟩) (l2 + k) (l2 + k) (l2 + k) d0 e1 e2 (joinD D E x l2 k) (M ++ N) (V ++ U) _ (owns_row (owns_below HT.out K2.out (Nat.le_refl _))) (owns_row HR1'.out) (owns_row HR2.out) LD.out LM.out LV.out ⟨by omega, by omega, by omega⟩ HB3'.out).mono ?_; rintro e wC ⟨rfl, hb⟩; have K3 : Hid (Below wr.heap.size wr wC) := Lib.hid (K2.out.trans (hb.mono HZK2.out)); have HU1 := Lib.hid (owns_below HR1'.out hb (Nat.le_refl _)); have HU2 := Lib.hid (owns_below HR2.out hb (Nat.le_refl _)); clear hb; have hbp := HPp.out.below K3.out HPp.out.1.1; have s_0 := hbp.c 0 rfl; have s_1 := hbp.c 1 rfl; have s_2 := hbp.c 2 rfl; have f0 := hbp.f 0 (by simp); have f1 := hbp.f 1 (by simp); have f2 := hbp.f 2 (by simp); clear hbp) | fail)
        all_goals go_wp2_with fail
        all_goals
          have hv : R = ⟨l2 + k, joinD D E x l2 k, M ++ N, V ++ U, true⟩ := by rw [← HR.out]; unfold joinR; rw [HBB.out, HBE.out, HB3'.out]; rfl
          have HV := Lib.hid hv
          clear hv
          rw [HV.out]
          have HB5 : Hid (Below w.heap.size w wC) := Lib.hid (HBr.out.trans (K3.out.mono HBr.out.size))
          have HU0 := Lib.hid (owns_below HT.out K3.out (Nat.le_refl _))
          have hS1 := HS1.out
          have hS2 := HS2.out
          have hz1 := HZK1.out
          have hgr := HGr.out
          have hlo := HLo.out
          have hzk := HZK.out
          (try simp at hS1 hS2)
          have hU1 := HU1.out.lt h1 rfl
          have hU2 := HU2.out.lt h2 rfl
          have hq1 := HR1'.out.lt h1 rfl
          (try simp at hU1 hU2 hq1)
          refine bodyPost_ret (v := .tuple #[.agg #[.slice (some ⟨g0, 0, none⟩) (l2 + k) d0, .slice (some ⟨h1, 0, none⟩) (l2 + k) e1, .slice (some ⟨h2, 0, none⟩) (l2 + k) e2], .bool true]) (by first | (simp [results, Try.results28, go_sem, *]; done) | (simp (maxDischargeDepth := 12) [results, Try.results28, go_sem, *]; done) | (simp (maxDischargeDepth := 12) [results, Try.results28, go_sem, *]; rfl)) rfl (RivP.yes (lo := w.heap.size) ?_ ?_ ?_ (by omega) (by omega) (by omega) (Nat.le_refl _) ?_)
          · exact owns_lo (owns_far (owns_far (owns_far HU0.out (by simp [Value.ownBlock]; omega) _) (by simp [Value.ownBlock]; omega) _) (by simp [Value.ownBlock]; omega) _) (by first | omega | (simp; omega))
          · exact owns_lo (owns_far (owns_far (owns_far HU1.out (by simp [Value.ownBlock]; omega) _) (by simp [Value.ownBlock]; omega) _) (by simp [Value.ownBlock]; omega) _) (by first | omega | (simp; omega))
          · exact owns_lo (owns_far (owns_far (owns_far HU2.out (by simp [Value.ownBlock]; omega) _) (by simp [Value.ownBlock]; omega) _) (by simp [Value.ownBlock]; omega) _) (by first | omega | (simp; omega))
          · exact (((HB5.out.setCell (by show w.heap.size ≤ (w.heap.size + 2); omega) _).setCell (by show w.heap.size ≤ (w.heap.size + 2); omega) _).setCell (by show w.heap.size ≤ (w.heap.size + 2); omega) _)

end Go.Proofs.Ytnmmhaadkclogaa
