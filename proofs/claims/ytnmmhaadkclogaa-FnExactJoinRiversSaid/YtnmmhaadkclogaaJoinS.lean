/- JoinRivers: the model. -/
import Derived.Test.YtnmmhaadkclogaaJoinV
import Derived.Test.YtnmmhaadkclogaaCat
import Derived.Test.YtnmmhaadkclogaaRegMk
import Derived.Deep.RegionHeld3
namespace Go.Proofs.Ytnmmhaadkclogaa
open Go.RowKit
set_option linter.unusedVariables false
set_option linter.unusedSimpArgs false
set_option maxRecDepth 100000
attribute [local irreducible] wpV wpList Code.wp

set_option maxHeartbeats 16000000 in
theorem joinRivers_s (a0 a1 a2 : Option Addr) (l0 n l2 c0 c1 c2 : Nat) (D M V : List Int) (e0 e1 e2 : Option Addr) (q0 m q2 k0 k1 k2 : Nat) (E N U : List Int) (x : Int) (w : World) (hwx : (Lit.int .i64 x).wf = true) (h0 : RowC w a0 (ic D)) (h1 : RowC w a1 (ic M)) (h2 : RowC w a2 (ic V)) (hD : D.length = l0) (hM : M.length = n * 4) (hV : V.length = l2) (hl : l0 ≤ 1048576 ∧ n ≤ 1048576 ∧ l2 ≤ 1048576) (g0 : RowC w e0 (ic E)) (g1 : RowC w e1 (ic N)) (g2 : RowC w e2 (ic U)) (gD : E.length = q0) (gM : N.length = m * 4) (gV : U.length = q2) (gl : q0 ≤ 1048576 ∧ m ≤ 1048576 ∧ q2 ≤ 1048576) :
    Calls Try.prog 27 #[.agg #[.slice a0 l0 c0, .slice a1 n c1, .slice a2 l2 c2], .agg #[.slice e0 q0 k0, .slice e1 m k1, .slice e2 q2 k2], .int .i64 x] w (RivP (joinR D M V n E N U m x) w) := by
  obtain ⟨R, hR⟩ : ∃ R, joinR D M V n E N U m x = R := ⟨_, rfl⟩
  rw [hR]
  have HR := Lib.hid hR
  clear hR
  have hbl : Below w.heap.size w (((w.alloc (.cells #[.slice a0 l0 c0, .slice a1 n c1, .slice a2 l2 c2] 30)).alloc (.cells #[.slice e0 q0 k0, .slice e1 m k1, .slice e2 q2 k2] 30)).alloc (.cells #[.slice none 0 0, .slice none 0 0, .slice none 0 0] 30)) := bel3 w _ _ _
  have hbx : Bw (((w.alloc (.cells #[.slice a0 l0 c0, .slice a1 n c1, .slice a2 l2 c2] 30)).alloc (.cells #[.slice e0 q0 k0, .slice e1 m k1, .slice e2 q2 k2] 30)).alloc (.cells #[.slice none 0 0, .slice none 0 0, .slice none 0 0] 30)) w.heap.size [.slice a0 l0 c0, .slice a1 n c1, .slice a2 l2 c2] := ((Bw.new w [.slice a0 l0 c0, .slice a1 n c1, .slice a2 l2 c2] 30).alloc _).alloc _
  have hbe : Bw (((w.alloc (.cells #[.slice a0 l0 c0, .slice a1 n c1, .slice a2 l2 c2] 30)).alloc (.cells #[.slice e0 q0 k0, .slice e1 m k1, .slice e2 q2 k2] 30)).alloc (.cells #[.slice none 0 0, .slice none 0 0, .slice none 0 0] 30)) (w.heap.size + 1) [.slice e0 q0 k0, .slice e1 m k1, .slice e2 q2 k2] := (Bw.new1G w _ [.slice e0 q0 k0, .slice e1 m k1, .slice e2 q2 k2] _).alloc _
  have hbp : Bw (((w.alloc (.cells #[.slice a0 l0 c0, .slice a1 n c1, .slice a2 l2 c2] 30)).alloc (.cells #[.slice e0 q0 k0, .slice e1 m k1, .slice e2 q2 k2] 30)).alloc (.cells #[.slice none 0 0, .slice none 0 0, .slice none 0 0] 30)) (w.heap.size + 2) [.slice none 0 0, .slice none 0 0, .slice none 0 0] := Bw.new2G w _ _ [.slice none 0 0, .slice none 0 0, .slice none 0 0] _
  have HC := Lib.hid (l06Has_any w.heap.size a0 a1 a2 l0 n l2 c0 c1 c2 D M V x (((w.alloc (.cells #[.slice a0 l0 c0, .slice a1 n c1, .slice a2 l2 c2] 30)).alloc (.cells #[.slice e0 q0 k0, .slice e1 m k1, .slice e2 q2 k2] 30)).alloc (.cells #[.slice none 0 0, .slice none 0 0, .slice none 0 0] 30)) hbx.1 (h0.below hbl (Nat.le_refl _)) (h1.below hbl (Nat.le_refl _)) (h2.below hbl (Nat.le_refl _)) hD hM hV hl hwx)
  have HX := Lib.hid hbx
  have HE := Lib.hid hbe
  have HP := Lib.hid hbp
  have HL0 := Lib.hid hbl
  have H0 := Lib.hid h0
  have H1 := Lib.hid h1
  have H2 := Lib.hid h2
  have G0 := Lib.hid g0
  have G1 := Lib.hid g1
  have G2 := Lib.hid g2
  obtain ⟨bb, hbb⟩ : ∃ b, nodeB D M V n x = b := ⟨_, rfl⟩
  rw [hbb] at HC
  have HBB := Lib.hid hbb
  have HM := Lib.hid hM
  have HD := Lib.hid hD
  have HVl := Lib.hid hV
  have HL := Lib.hid hl
  have GM := Lib.hid gM
  have GD := Lib.hid gD
  have GV := Lib.hid gV
  have GL := Lib.hid gl
  clear h0 h1 h2 hD hM hV hl g0 g1 g2 gD gM gV gl hbb hbl hbx hbe hbp
  go_enter Try.func27, Try.ntmps27
  go_wp2_with fail
  refine HC.out.mono ?_
  rintro e w1 ⟨rfl, mm, hw1⟩
  have HB1 : Hid (Below w.heap.size w w1) := Lib.hid (by rw [hw1]; exact below_drewN HL0.out _)
  have hbd9 : Below (w.heap.size + 3) (((w.alloc (.cells #[.slice a0 l0 c0, .slice a1 n c1, .slice a2 l2 c2] 30)).alloc (.cells #[.slice e0 q0 k0, .slice e1 m k1, .slice e2 q2 k2] 30)).alloc (.cells #[.slice none 0 0, .slice none 0 0, .slice none 0 0] 30)) w1 := by rw [hw1]; exact below_drewN (Below.refl _ _) _
  clear hw1
  have HX1 := Lib.hid (HX.out.below hbd9 (by omega))
  have HE1 := Lib.hid (HE.out.below hbd9 (by omega))
  have HP1 := Lib.hid (HP.out.below hbd9 (by omega))
  have HZ1 : Hid (w.heap.size + 3 ≤ w1.heap.size) := Lib.hid (by have h9 := hbd9.size; (try simp at h9); omega)
  clear hbd9 HC HX HE HP HL0
  cases bb
  · have hv : R = failR := by rw [← HR.out]; unfold joinR; rw [HBB.out]; rfl
    have HV := Lib.hid hv
    clear hv
    have r0 := HP1.out.c 0 rfl
    have r1 := HP1.out.c 1 rfl
    have r2 := HP1.out.c 2 rfl
    have f0 := HP1.out.f 0 (by simp)
    have f1 := HP1.out.f 1 (by simp)
    have f2 := HP1.out.f 2 (by simp)
    go_wp2_with fail
    rw [HV.out]
    exact bodyPost_ret (v := .tuple #[.agg #[.slice none 0 0, .slice none 0 0, .slice none 0 0], .bool false]) (by first | (simp [results, Try.results27, go_sem, *]; done) | (simp (maxDischargeDepth := 12) [results, Try.results27, go_sem, *]; done) | (simp (maxDischargeDepth := 12) [results, Try.results27, go_sem, *]; rfl)) rfl (RivP.no (((HB1.out.setCell (by show w.heap.size ≤ (w.heap.size + 2); omega) _).setCell (by show w.heap.size ≤ (w.heap.size + 2); omega) _).setCell (by show w.heap.size ≤ (w.heap.size + 2); omega) _))
  · have hC2 := l06Is_any (w.heap.size + 1) e0 e1 e2 q0 m q2 k0 k1 k2 E N U w1 HE1.out.1 (G0.out.below HB1.out (Nat.le_refl _)) (G1.out.below HB1.out (Nat.le_refl _)) (G2.out.below HB1.out (Nat.le_refl _)) GD.out GM.out GV.out GL.out
    obtain ⟨b2, hb2⟩ : ∃ b, rivB E N U m = b := ⟨_, rfl⟩
    rw [hb2] at hC2
    have HC2 := Lib.hid hC2
    have HBE := Lib.hid hb2
    clear hC2 hb2
    have x_0 := HX1.out.c 0 rfl
    have x_1 := HX1.out.c 1 rfl
    have x_2 := HX1.out.c 2 rfl
    have y_0 := HE1.out.c 0 rfl
    have y_1 := HE1.out.c 1 rfl
    have y_2 := HE1.out.c 2 rfl
    go_wp2_with fail
    refine HC2.out.mono ?_
    rintro e w2 ⟨rfl, m2, hw2⟩
    have hst : Below w1.heap.size w1 w2 := by rw [hw2]; exact below_drewN (Below.refl _ _) _
    clear hw2 HC2
    clear x_0 x_1 x_2 y_0 y_1 y_2
    have HX2 := Lib.hid (HX1.out.below hst HX1.out.1.1)
    have HE2 := Lib.hid (HE1.out.below hst HE1.out.1.1)
    have HP2 := Lib.hid (HP1.out.below hst HP1.out.1.1)
    have HB2 : Hid (Below w.heap.size w w2) := Lib.hid (HB1.out.trans (hst.mono HB1.out.size))
    have HZ2 : Hid (w.heap.size + 3 ≤ w2.heap.size) := Lib.hid (Nat.le_trans HZ1.out hst.size)
    clear hst HX1 HE1 HP1 HB1 HZ1
    cases b2
    · have hv : R = failR := by rw [← HR.out]; unfold joinR; rw [HBB.out, HBE.out]; rfl
      have HV := Lib.hid hv
      clear hv
      have r0 := HP2.out.c 0 rfl
      have r1 := HP2.out.c 1 rfl
      have r2 := HP2.out.c 2 rfl
      have f0 := HP2.out.f 0 (by simp)
      have f1 := HP2.out.f 1 (by simp)
      have f2 := HP2.out.f 2 (by simp)
      go_wp2_with fail
      rw [HV.out]
      exact bodyPost_ret (v := .tuple #[.agg #[.slice none 0 0, .slice none 0 0, .slice none 0 0], .bool false]) (by first | (simp [results, Try.results27, go_sem, *]; done) | (simp (maxDischargeDepth := 12) [results, Try.results27, go_sem, *]; done) | (simp (maxDischargeDepth := 12) [results, Try.results27, go_sem, *]; rfl)) rfl (RivP.no (((HB2.out.setCell (by show w.heap.size ≤ (w.heap.size + 2); omega) _).setCell (by show w.heap.size ≤ (w.heap.size + 2); omega) _).setCell (by show w.heap.size ≤ (w.heap.size + 2); omega) _))
    have HRv : Hid (rivB D M V n = true) := Lib.hid (nodeB_true HBB.out).1
    have HT := Lib.hid (rivB_true HRv.out)
    have hni := (nodeB_true HBB.out).2
    obtain ⟨hx1, hx2⟩ := hni
    have HTE := Lib.hid (rivB_true HBE.out)
    have h0n : l0 = n := by have h7 := HT.out.1; have h8 := HD.out; omega
    subst h0n
    have h2n : l2 = l0 := by have h7 := HT.out.1; have h8 := HD.out; have h9 := HVl.out; omega
    subst h2n
    have hl12 : l2 ≤ 12 := by have h7 := HT.out.1; have h8 := HD.out; omega
    have hl1 : 0 < l2 := by have h7 := HT.out.1; have h8 := HD.out; omega
    have h0n : q0 = m := by have h7 := HTE.out.1; have h8 := GD.out; omega
    subst h0n
    have h2n : q2 = q0 := by have h7 := HTE.out.1; have h8 := GD.out; have h9 := GV.out; omega
    subst h2n
    have hq12 : q2 ≤ 12 := by have h7 := HTE.out.1; have h8 := GD.out; omega
    have hq1 : 0 < q2 := by have h7 := HTE.out.1; have h8 := GD.out; omega
    obtain ⟨b0, o0, b1, o1, b2, o2, rfl, rfl, rfl, hsrc⟩ := Src.of H0.out H1.out H2.out HD.out HM.out HVl.out hl1 (by omega)
    have HSr := Lib.hid hsrc
    clear hsrc
    obtain ⟨u0, p0, u1, p1, u2, p2, rfl, rfl, rfl, hsrc⟩ := Src.of G0.out G1.out G2.out GD.out GM.out GV.out hq1 (by omega)
    have HSe := Lib.hid hsrc
    clear hsrc
    have HRg : Hid (∀ j, j < q2 → -1 ≤ E.getD j 0 ∧ E.getD j 0 ≤ (q2 : Int) - 1) := Lib.hid (fun j hj => by have h9 := rivB_range HBE.out j (by rw [GD.out]; exact hj); rw [GD.out] at h9; exact h9)
    have HOw := Lib.hid (l06Own_any w.heap.size b0 o0 b1 o1 b2 o2 l2 c0 c1 c2 D M V w2 (HSr.out.below HB2.out (Nat.le_refl _)) HX2.out.1)
    go_wp2_with fail
    refine HOw.out.mono ?_
    rintro e w3 ⟨lo, g0, g1, g2, d0, d1, d2, rfl, hr0, hr1, hr2, n01, n02, n12, hlo, hb⟩
    clear HOw
    have HR0 := Lib.hid hr0
    have HR1 := Lib.hid hr1
    have HR2 := Lib.hid hr2
    have N01 := Lib.hid n01
    have N02 := Lib.hid n02
    have N12 := Lib.hid n12
    have HLo : Hid (w.heap.size + 3 ≤ lo) := Lib.hid (by have h4 := HZ2.out; omega)
    have HX3 := Lib.hid (HX2.out.below hb HX2.out.1.1)
    have HE3 := Lib.hid (HE2.out.below hb HE2.out.1.1)
    have HP3 := Lib.hid (HP2.out.below hb HP2.out.1.1)
    have HB3 : Hid (Below w.heap.size w w3) := Lib.hid (HB2.out.trans (hb.mono HB2.out.size))
    have HG : Hid (lo ≤ g0 ∧ lo ≤ g1 ∧ lo ≤ g2 ∧ g0 < w3.heap.size ∧ g1 < w3.heap.size ∧ g2 < w3.heap.size ∧ lo ≤ w3.heap.size) := Lib.hid (by have h1 := hr0.lt g0 rfl; have h2 := hr1.lt g1 rfl; have h3 := hr2.lt g2 rfl; omega)
    clear hr0 hr1 hr2 n01 n02 n12 hlo hb HX2 HE2 HP2 HB2
    obtain ⟨t, ht⟩ : ∃ t, w3.heap.size = t := ⟨_, rfl⟩
    have HT9 := Lib.hid ht
    have x_0 := HX3.out.c 0 rfl
    have x_1 := HX3.out.c 1 rfl
    have x_2 := HX3.out.c 2 rfl
    go_upto_region 4 with fail
    clear x_0 x_1 x_2
    generalize hW4 : World.alloc _ _ = W4
    (try rw [ht])
    have HT4 : Hid (Bw W4 t [.slice (some ⟨g0, 0, none⟩) l2 d0, .slice (some ⟨g1, 0, none⟩) l2 d1, .slice (some ⟨g2, 0, none⟩) l2 d2]) := Lib.hid (by rw [← hW4, ← ht]; exact Bw.new w3 [.slice (some ⟨g0, 0, none⟩) l2 d0, .slice (some ⟨g1, 0, none⟩) l2 d1, .slice (some ⟨g2, 0, none⟩) l2 d2] _)
    have HX4 : Hid (Bw W4 w.heap.size [.slice (some ⟨b0, o0, none⟩) l2 c0, .slice (some ⟨b1, o1, none⟩) l2 c1, .slice (some ⟨b2, o2, none⟩) l2 c2]) := Lib.hid (by rw [← hW4]; exact HX3.out.alloc _)
    have HE4 : Hid (Bw W4 (w.heap.size + 1) [.slice (some ⟨u0, p0, none⟩) q2 k0, .slice (some ⟨u1, p1, none⟩) q2 k1, .slice (some ⟨u2, p2, none⟩) q2 k2]) := Lib.hid (by rw [← hW4]; exact HE3.out.alloc _)
    have HP4 : Hid (Bw W4 (w.heap.size + 2) [.slice none 0 0, .slice none 0 0, .slice none 0 0]) := Lib.hid (by rw [← hW4]; exact HP3.out.alloc _)
    have HQ0 : Hid (W4.ownsRow lo 2 1 (.slice (some ⟨g0, 0, none⟩) l2 d0) l2 (ic D)) := Lib.hid (by rw [← hW4]; exact HR0.out.alloc _)
    have HQ1 : Hid (W4.ownsRow lo 38 4 (.slice (some ⟨g1, 0, none⟩) l2 d1) l2 (ic M)) := Lib.hid (by rw [← hW4]; exact HR1.out.alloc _)
    have HQ2 : Hid (W4.ownsRow lo 2 1 (.slice (some ⟨g2, 0, none⟩) l2 d2) l2 (ic V)) := Lib.hid (by rw [← hW4]; exact HR2.out.alloc _)
    have HB4 : Hid (Below w.heap.size w W4) := Lib.hid (by rw [← hW4]; exact HB3.out.alloc HB3.out.size _)
    have hz4 : t < W4.heap.size := by rw [← hW4, ← ht]; simp
    rw [ht] at HG
    have HZ4 := Lib.hid hz4
    have Htl : Hid (w.heap.size + 3 ≤ t) := Lib.hid (by have h1 := HG.out; have h2 := HLo.out; omega)
    clear hW4 hz4 ht HR0 HR1 HR2 HX3 HE3 HP3 HB3
    have HQ0' : Hid (W4.ownsRow lo 2 1 (.slice (some ⟨g0, 0, none⟩) (l2 + 0) d0) (l2 + 0) (ic (joinD D E x l2 0))) := Lib.hid (by rw [joinD_zero]; exact HQ0.out)
    have HT4' : Hid (Bw W4 t [.slice (some ⟨g0, 0, none⟩) (l2 + 0) d0, .slice (some ⟨g1, 0, none⟩) l2 d1, .slice (some ⟨g2, 0, none⟩) l2 d2]) := Lib.hid HT4.out
    clear HQ0 HT4
    have x_0 := HX4.out.c 0 rfl
    have x_1 := HX4.out.c 1 rfl
    have x_2 := HX4.out.c 2 rfl
    go_wp2_with fail
    go_loopw [10, 11] (fun iv dv wr => ∃ k : Nat, ∃ g c, k ≤ q2 ∧ iv = .int .i64 (k : Int) ∧ Hid (Bw wr t [.slice (some ⟨g, 0, none⟩) (l2 + k) c, .slice (some ⟨g1, 0, none⟩) l2 d1, .slice (some ⟨g2, 0, none⟩) l2 d2]) ∧ Hid (Bw wr (w.heap.size + 1) [.slice (some ⟨u0, p0, none⟩) q2 k0, .slice (some ⟨u1, p1, none⟩) q2 k1, .slice (some ⟨u2, p2, none⟩) q2 k2]) ∧ Hid (Bw wr (w.heap.size + 2) [.slice none 0 0, .slice none 0 0, .slice none 0 0]) ∧ Hid (wr.ownsRow lo 2 1 (.slice (some ⟨g, 0, none⟩) (l2 + k) c) (l2 + k) (ic (joinD D E x l2 k))) ∧ Hid (wr.ownsRow lo 38 4 (.slice (some ⟨g1, 0, none⟩) l2 d1) l2 (ic M)) ∧ Hid (wr.ownsRow lo 2 1 (.slice (some ⟨g2, 0, none⟩) l2 d2) l2 (ic V)) ∧ Hid (lo ≤ g ∧ g ≠ t ∧ g ≠ g1 ∧ g ≠ g2) ∧ Hid (t < wr.heap.size) ∧ Hid (Below w.heap.size w wr)) (fun iv _ _ => q2 - (intOf iv).toNat)
    case atStart => exact ⟨0, g0, d0, Nat.zero_le _, rfl, HT4', HE4, HP4, HQ0', HQ1, HQ2, Lib.hid ⟨HG.out.1, by have h9 := HG.out; omega, N01.out, N02.out⟩, HZ4, HB4⟩
    case round =>
    clear HT4' HE4 HP4 HQ0' HQ1 HQ2 HB4 x_0 x_1 x_2
    obtain ⟨k, g, c, hk, rfl, HTt, HEe, HPp, HO, HMm, HVv, Hg, HZr, HBr⟩ := hrel
    have hk0 : (0 : Int) ≤ (k : Int) := by omega
    by_cases hlt : k < q2
    · have hk1 : (k : Int) < (q2 : Int) := by omega
      have cd : wr.cell? ⟨u0, p0 + k, none⟩ = some (.int .i64 (E.getD k 0)) := by rw [HBr.out.cell (p := ⟨u0, p0 + k, none⟩) HSe.out.l0]; exact HSe.out.k0 k (by rw [GD.out]; exact hlt)
      have hrk := HRg.out k hlt
      obtain ⟨z, hz⟩ : ∃ z, E.getD k 0 = z := ⟨_, rfl⟩
      rw [hz] at cd hrk
      have Hz := Lib.hid hz
      clear hz
      obtain ⟨hz1, hz2⟩ := hrk
      have y_0 := HEe.out.c 0 rfl
      by_cases hzn : 0 ≤ z
      · have HOa := Lib.hid (HO.out.alloc (.cells #[.int .i64 (z + (l2 : Int))] 2))
        have Hcell := Lib.hid (show (wr.alloc (.cells #[.int .i64 (z + (l2 : Int))] 2)).cell? ⟨wr.heap.size, 0, none⟩ = some (.int .i64 (z + (l2 : Int))) by simp [go_sem])
        have Hlo := Lib.hid (show lo ≤ (wr.alloc (.cells #[.int .i64 (z + (l2 : Int))] 2)).heap.size by have h1 := HG.out; have h2 := HZr.out; simp; omega)
        have hkl : l2 + k ≤ 1048576 := by omega
        have x_0 := HTt.out.c 0 rfl
        have xf0 := HTt.out.f 0 (by simp)
        go_wp2_with (at_builtin; refine pushZ rfl rfl _ _ rfl rfl HOa.out wr.heap.size _ (z + (l2 : Int)) rfl Hcell.out hkl Hlo.out ?_)
        intro gn cn w8 hrow hgrow hgn hgl
        rw [show joinD D E x l2 k ++ [(z + (l2 : Int))] = joinD D E x l2 (k + 1) by rw [joinD_succ, show joinF x l2 (E.getD k 0) = z + (l2 : Int) from by rw [Hz.out]; unfold joinF; rw [if_neg (by omega)]]] at hrow
        have HO8 := Lib.hid hrow
        have hgg := Hg.out
        have hzr := HZr.out
        have hGG := HG.out
        have hgn9 : lo ≤ gn ∧ gn ≠ t ∧ gn ≠ g1 ∧ gn ≠ g2 := by
          rcases hgn with h | h
          · simp only [Value.ownBlock, Option.some.injEq] at h; omega
          · (try simp at h); omega
        have Hgn := Lib.hid hgn9
        have HTt8 := Lib.hid ((HTt.out.alloc (.cells #[.int .i64 (z + (l2 : Int))] 2)).pushed hgrow (by simp [Value.ownBlock]; omega))
        have HEe8 := Lib.hid ((HEe.out.alloc (.cells #[.int .i64 (z + (l2 : Int))] 2)).pushed hgrow (by have h9 := HLo.out; simp [Value.ownBlock]; omega))
        have HPp8 := Lib.hid ((HPp.out.alloc (.cells #[.int .i64 (z + (l2 : Int))] 2)).pushed hgrow (by have h9 := HLo.out; simp [Value.ownBlock]; omega))
        have HM8 := Lib.hid (owns_pushed (HMm.out.alloc (.cells #[.int .i64 (z + (l2 : Int))] 2)) hgrow (by intro k hk; simp only [Value.ownBlock, Option.some.injEq, ne_eq] at hk ⊢; omega))
        have HV8 := Lib.hid (owns_pushed (HVv.out.alloc (.cells #[.int .i64 (z + (l2 : Int))] 2)) hgrow (by intro k hk; simp only [Value.ownBlock, Option.some.injEq, ne_eq] at hk ⊢; omega))
        have HB8 : Hid (Below w.heap.size w w8) := Lib.hid ((HBr.out.alloc HBr.out.size (.cells #[.int .i64 (z + (l2 : Int))] 2)).grown hgrow (by have h9 := HBr.out.size; simp; omega) (fun k hk => by have h9 := HLo.out; simp only [Value.ownBlock, Option.some.injEq] at hk; omega))
        have HZ8 : Hid (t < w8.heap.size) := Lib.hid HTt8.out.1.1
        clear hrow hgrow hgn hgl hgn9 hgg hzr HO HOa Hcell Hlo HTt HEe HPp HMm HVv HBr HZr Hg x_0 xf0
        have x_0 := HTt8.out.c 0 rfl
        have xf0 := HTt8.out.f 0 (by simp)
        go_wp2_with fail
        go_roundw
        case rel => exact ⟨k + 1, gn, cn, by omega, by go_num, Lib.hid (HTt8.out.put 0 (by simp) _), Lib.hid (HEe8.out.setOther (by have h9 := Htl.out; show t ≠ w.heap.size + 1; omega) _), Lib.hid (HPp8.out.setOther (by have h9 := Htl.out; show t ≠ w.heap.size + 2; omega) _), Lib.hid (owns_far HO8.out (by have h9 := Hgn.out; simp [Value.ownBlock]; omega) _), Lib.hid (owns_far HM8.out (by have h9 := HG.out; simp [Value.ownBlock]; omega) _), Lib.hid (owns_far HV8.out (by have h9 := HG.out; simp [Value.ownBlock]; omega) _), Hgn, Lib.hid (by have h9 := HZ8.out; simp; exact h9), Lib.hid (HB8.out.setCell (by have h9 := Htl.out; show w.heap.size ≤ t; omega) _)⟩
        case measure => simp [intOf]; omega
      · have hzg : z < 0 := by omega
        have HOa := Lib.hid (HO.out.alloc (.cells #[.int .i64 x] 2))
        have Hcell := Lib.hid (show (wr.alloc (.cells #[.int .i64 x] 2)).cell? ⟨wr.heap.size, 0, none⟩ = some (.int .i64 x) by simp [go_sem])
        have Hlo := Lib.hid (show lo ≤ (wr.alloc (.cells #[.int .i64 x] 2)).heap.size by have h1 := HG.out; have h2 := HZr.out; simp; omega)
        have hkl : l2 + k ≤ 1048576 := by omega
        have x_0 := HTt.out.c 0 rfl
        have xf0 := HTt.out.f 0 (by simp)
        go_wp2_with (at_builtin; refine pushZ rfl rfl _ _ rfl rfl HOa.out wr.heap.size _ x rfl Hcell.out hkl Hlo.out ?_)
        intro gn cn w8 hrow hgrow hgn hgl
        rw [show joinD D E x l2 k ++ [x] = joinD D E x l2 (k + 1) by rw [joinD_succ, show joinF x l2 (E.getD k 0) = x from by rw [Hz.out]; unfold joinF; rw [if_pos (by omega)]]] at hrow
        have HO8 := Lib.hid hrow
        have hgg := Hg.out
        have hzr := HZr.out
        have hGG := HG.out
        have hgn9 : lo ≤ gn ∧ gn ≠ t ∧ gn ≠ g1 ∧ gn ≠ g2 := by
          rcases hgn with h | h
          · simp only [Value.ownBlock, Option.some.injEq] at h; omega
          · (try simp at h); omega
        have Hgn := Lib.hid hgn9
        have HTt8 := Lib.hid ((HTt.out.alloc (.cells #[.int .i64 x] 2)).pushed hgrow (by simp [Value.ownBlock]; omega))
        have HEe8 := Lib.hid ((HEe.out.alloc (.cells #[.int .i64 x] 2)).pushed hgrow (by have h9 := HLo.out; simp [Value.ownBlock]; omega))
        have HPp8 := Lib.hid ((HPp.out.alloc (.cells #[.int .i64 x] 2)).pushed hgrow (by have h9 := HLo.out; simp [Value.ownBlock]; omega))
        have HM8 := Lib.hid (owns_pushed (HMm.out.alloc (.cells #[.int .i64 x] 2)) hgrow (by intro k hk; simp only [Value.ownBlock, Option.some.injEq, ne_eq] at hk ⊢; omega))
        have HV8 := Lib.hid (owns_pushed (HVv.out.alloc (.cells #[.int .i64 x] 2)) hgrow (by intro k hk; simp only [Value.ownBlock, Option.some.injEq, ne_eq] at hk ⊢; omega))
        have HB8 : Hid (Below w.heap.size w w8) := Lib.hid ((HBr.out.alloc HBr.out.size (.cells #[.int .i64 x] 2)).grown hgrow (by have h9 := HBr.out.size; simp; omega) (fun k hk => by have h9 := HLo.out; simp only [Value.ownBlock, Option.some.injEq] at hk; omega))
        have HZ8 : Hid (t < w8.heap.size) := Lib.hid HTt8.out.1.1
        clear hrow hgrow hgn hgl hgn9 hgg hzr HO HOa Hcell Hlo HTt HEe HPp HMm HVv HBr HZr Hg x_0 xf0
        have x_0 := HTt8.out.c 0 rfl
        have xf0 := HTt8.out.f 0 (by simp)
        go_wp2_with fail
        go_roundw
        case rel => exact ⟨k + 1, gn, cn, by omega, by go_num, Lib.hid (HTt8.out.put 0 (by simp) _), Lib.hid (HEe8.out.setOther (by have h9 := Htl.out; show t ≠ w.heap.size + 1; omega) _), Lib.hid (HPp8.out.setOther (by have h9 := Htl.out; show t ≠ w.heap.size + 2; omega) _), Lib.hid (owns_far HO8.out (by have h9 := Hgn.out; simp [Value.ownBlock]; omega) _), Lib.hid (owns_far HM8.out (by have h9 := HG.out; simp [Value.ownBlock]; omega) _), Lib.hid (owns_far HV8.out (by have h9 := HG.out; simp [Value.ownBlock]; omega) _), Hgn, Lib.hid (by have h9 := HZ8.out; simp; exact h9), Lib.hid (HB8.out.setCell (by have h9 := Htl.out; show w.heap.size ≤ t; omega) _)⟩
        case measure => simp [intOf]; omega
    · have hkl : k = q2 := by omega
      subst hkl
      have x_0 := HTt.out.c 0 rfl
      have x_1 := HTt.out.c 1 rfl
      have x_2 := HTt.out.c 2 rfl
      have xf0 := HTt.out.f 0 (by simp)
      have xf1 := HTt.out.f 1 (by simp)
      have xf2 := HTt.out.f 2 (by simp)
      have y_0 := HEe.out.c 0 rfl
      have y_1 := HEe.out.c 1 rfl
      have y_2 := HEe.out.c 2 rfl
      have hsr := HSe.out.below HBr.out (Nat.le_refl _)
      have HSq := Lib.hid hsr
      clear hsr
      have hlw : lo ≤ wr.heap.size := by have h1 := HG.out; have h2 := HZr.out; omega
      go_wp2_with (at_builtin; refine pushMoreD rfl rfl _ _ rfl rfl HMm.out u1 p1 _ k rfl HSq.out.n1 HSq.out.k1 hq1 (by omega) hlw ?_)
      intro h1 e1 w8 hrow hgrow hgn hgl
      have HM8 := Lib.hid hrow
      have hgg := Hg.out
      have hzr := HZr.out
      have hGG := HG.out
      have n12 := N12.out
      have hLo := HLo.out
      have hh1 : lo ≤ h1 ∧ h1 ≠ t ∧ h1 ≠ g ∧ h1 ≠ g2 := by
        have k1 := (HO.out.lt g rfl).2
        rcases hgn with h | h
        · simp only [Value.ownBlock, Option.some.injEq] at h; omega
        · omega
      have Hh1 := Lib.hid hh1
      have HTt8 := Lib.hid (HTt.out.pushed hgrow (by simp [Value.ownBlock]; omega))
      have HEe8 := Lib.hid (HEe.out.pushed hgrow (by simp [Value.ownBlock]; omega))
      have HPp8 := Lib.hid (HPp.out.pushed hgrow (by simp [Value.ownBlock]; omega))
      have HO8 := Lib.hid (owns_pushed HO.out hgrow (by intro k hk; simp only [Value.ownBlock, Option.some.injEq, ne_eq] at hk ⊢; omega))
      have HV8 := Lib.hid (owns_pushed HVv.out hgrow (by intro k hk; simp only [Value.ownBlock, Option.some.injEq, ne_eq] at hk ⊢; omega))
      have HB8 : Hid (Below w.heap.size w w8) := Lib.hid (HBr.out.grown hgrow HBr.out.size (fun k hk => by simp only [Value.ownBlock, Option.some.injEq] at hk; omega))
      clear hrow hgrow hgn hgl hgg hzr hh1 x_0 x_1 x_2 xf0 xf1 xf2 y_0 y_1 y_2 HTt HEe HPp HMm HO HVv HBr HZr hlw HSq
      have x_0 := HTt8.out.c 0 rfl
      have x_1 := HTt8.out.c 1 rfl
      have x_2 := HTt8.out.c 2 rfl
      have xf0 := HTt8.out.f 0 (by simp)
      have xf1 := HTt8.out.f 1 (by simp)
      have xf2 := HTt8.out.f 2 (by simp)
      go_upto_region 13 with fail
      clear x_0 x_1 x_2 xf0 xf1 xf2
      generalize hW9 : World.setCell _ _ _ = W9
      have HT9' := Lib.hid (show Bw W9 t [.slice (some ⟨g, 0, none⟩) (l2 + k) c, .slice (some ⟨h1, 0, none⟩) (l2 + k) e1, .slice (some ⟨g2, 0, none⟩) l2 d2] by rw [← hW9]; exact HTt8.out.put 1 (by simp) _)
      have HE9 := Lib.hid (show Bw W9 (w.heap.size + 1) [.slice (some ⟨u0, p0, none⟩) k k0, .slice (some ⟨u1, p1, none⟩) k k1, .slice (some ⟨u2, p2, none⟩) k k2] by rw [← hW9]; exact HEe8.out.setOther (by have h9 := Htl.out; show t ≠ w.heap.size + 1; omega) _)
      have HP9 := Lib.hid (show Bw W9 (w.heap.size + 2) [.slice none 0 0, .slice none 0 0, .slice none 0 0] by rw [← hW9]; exact HPp8.out.setOther (by have h9 := Htl.out; show t ≠ w.heap.size + 2; omega) _)
      have HO9 := Lib.hid (show W9.ownsRow lo 2 1 (.slice (some ⟨g, 0, none⟩) (l2 + k) c) (l2 + k) (ic (joinD D E x l2 k)) by rw [← hW9]; exact owns_far HO8.out (by have h9 := Hg.out; simp [Value.ownBlock]; omega) _)
      have HM9 := Lib.hid (show W9.ownsRow lo 38 4 (.slice (some ⟨h1, 0, none⟩) (l2 + k) e1) (l2 + k) (ic (M ++ N)) by rw [← hW9]; exact owns_far HM8.out (by have h9 := Hh1.out; simp [Value.ownBlock]; omega) _)
      have HV9 := Lib.hid (show W9.ownsRow lo 2 1 (.slice (some ⟨g2, 0, none⟩) l2 d2) l2 (ic V) by rw [← hW9]; exact owns_far HV8.out (by have h9 := HG.out; simp [Value.ownBlock]; omega) _)
      have HB9 : Hid (Below w.heap.size w W9) := Lib.hid (by rw [← hW9]; exact HB8.out.setCell (by have h9 := Htl.out; show w.heap.size ≤ t; omega) _)
      clear hW9 HTt8 HEe8 HPp8 HO8 HM8 HV8 HB8 n12
      have x_0 := HT9'.out.c 0 rfl
      have x_1 := HT9'.out.c 1 rfl
      have x_2 := HT9'.out.c 2 rfl
      have xf0 := HT9'.out.f 0 (by simp)
      have xf1 := HT9'.out.f 1 (by simp)
      have xf2 := HT9'.out.f 2 (by simp)
      have y_0 := HE9.out.c 0 rfl
      have y_1 := HE9.out.c 1 rfl
      have y_2 := HE9.out.c 2 rfl
      have hsr := HSe.out.below HB9.out (Nat.le_refl _)
      have HSq := Lib.hid hsr
      clear hsr
      have hlw : lo ≤ W9.heap.size := by have h1 := (HT9'.out.1.1); have h2 := HG.out; omega
      go_wp2_with (at_builtin; refine pushMoreZ rfl rfl _ _ rfl rfl HV9.out u2 p2 _ k rfl (by rw [HSq.out.n2, Nat.mul_one]) HSq.out.k2 hq1 (by omega) hlw ?_)
      intro h2 e2 w8 hrow hgrow hgn hgl
      have HV8 := Lib.hid hrow
      have hgg := Hg.out
      have hh := Hh1.out
      have hh2 : lo ≤ h2 ∧ h2 ≠ t ∧ h2 ≠ g ∧ h2 ≠ h1 := by
        have k1 := (HO9.out.lt g rfl).2
        have k2 := (HM9.out.lt h1 rfl).2
        have k3 := HT9'.out.1.1
        rcases hgn with h | h
        · simp only [Value.ownBlock, Option.some.injEq] at h; omega
        · omega
      have Hh2 := Lib.hid hh2
      have HTt8 := Lib.hid (HT9'.out.pushed hgrow (by simp [Value.ownBlock]; omega))
      have HPp8 := Lib.hid (HP9.out.pushed hgrow (by simp [Value.ownBlock]; omega))
      have HO8 := Lib.hid (owns_pushed HO9.out hgrow (by intro k hk; simp only [Value.ownBlock, Option.some.injEq, ne_eq] at hk ⊢; omega))
      have HM8 := Lib.hid (owns_pushed HM9.out hgrow (by intro k hk; simp only [Value.ownBlock, Option.some.injEq, ne_eq] at hk ⊢; omega))
      have HB8 : Hid (Below w.heap.size w w8) := Lib.hid (HB9.out.grown hgrow HB9.out.size (fun k hk => by simp only [Value.ownBlock, Option.some.injEq] at hk; omega))
      clear hrow hgrow hgn hgl hgg hh hh2 x_0 x_1 x_2 xf0 xf1 xf2 y_0 y_1 y_2 HT9' HE9 HP9 HO9 HM9 HV9 HB9 hlw HSq hGG hLo
      have x_0 := HTt8.out.c 0 rfl
      have x_1 := HTt8.out.c 1 rfl
      have x_2 := HTt8.out.c 2 rfl
      have xf0 := HTt8.out.f 0 (by simp)
      have xf1 := HTt8.out.f 1 (by simp)
      have xf2 := HTt8.out.f 2 (by simp)
      go_upto_region 14 with fail
      clear x_0 x_1 x_2 xf0 xf1 xf2
      generalize hW9 : World.setCell _ _ _ = W9
      have HT9' := Lib.hid (show Bw W9 t [.slice (some ⟨g, 0, none⟩) (l2 + k) c, .slice (some ⟨h1, 0, none⟩) (l2 + k) e1, .slice (some ⟨h2, 0, none⟩) (l2 + k) e2] by rw [← hW9]; exact HTt8.out.put 2 (by simp) _)
      have HP9 := Lib.hid (show Bw W9 (w.heap.size + 2) [.slice none 0 0, .slice none 0 0, .slice none 0 0] by rw [← hW9]; exact HPp8.out.setOther (by have h9 := Htl.out; show t ≠ w.heap.size + 2; omega) _)
      have HU0 := Lib.hid (show W9.ownsRow lo 2 1 (.slice (some ⟨g, 0, none⟩) (l2 + k) c) (l2 + k) (ic (joinD D E x l2 k)) by rw [← hW9]; exact owns_far HO8.out (by have h9 := Hg.out; simp [Value.ownBlock]; omega) _)
      have HU1 := Lib.hid (show W9.ownsRow lo 38 4 (.slice (some ⟨h1, 0, none⟩) (l2 + k) e1) (l2 + k) (ic (M ++ N)) by rw [← hW9]; exact owns_far HM8.out (by have h9 := Hh1.out; simp [Value.ownBlock]; omega) _)
      have HU2 := Lib.hid (show W9.ownsRow lo 2 1 (.slice (some ⟨h2, 0, none⟩) (l2 + k) e2) (l2 + k) (ic (V ++ U)) by rw [← hW9]; exact owns_far HV8.out (by have h9 := Hh2.out; simp [Value.ownBlock]; omega) _)
      have HB4 : Hid (Below w.heap.size w W9) := Lib.hid (by rw [← hW9]; exact HB8.out.setCell (by have h9 := Htl.out; show w.heap.size ≤ t; omega) _)
      have N1 : Hid (g ≠ h1 ∧ g ≠ h2 ∧ h1 ≠ h2) := Lib.hid (by have a1 := Hh1.out; have a2 := Hh2.out; omega)
      clear hW9 HTt8 HPp8 HO8 HM8 HV8 HB8
      obtain ⟨b3, hb3⟩ : ∃ b, rivB (joinD D E x l2 k) (M ++ N) (V ++ U) (l2 + k) = b := ⟨_, rfl⟩
      have HB3' := Lib.hid hb3
      clear hb3
      have LD : Hid ((joinD D E x l2 k).length = l2 + k) := Lib.hid (by rw [joinD_length, HD.out])
      have LM : Hid ((M ++ N).length = (l2 + k) * 4) := Lib.hid (by rw [List.length_append, HM.out, GM.out]; omega)
      have LV : Hid ((V ++ U).length = l2 + k) := Lib.hid (by rw [List.length_append, HVl.out, GV.out])
      cases b3
      · have HGv := Lib.hid (give_no (some ⟨g, 0, none⟩) (some ⟨h1, 0, none⟩) (some ⟨h2, 0, none⟩) (l2 + k) (l2 + k) (l2 + k) c e1 e2 (joinD D E x l2 k) (M ++ N) (V ++ U) W9 (owns_row HU0.out) (owns_row HU1.out) (owns_row HU2.out) LD.out LM.out LV.out ⟨by omega, by omega, by omega⟩ HB3'.out)
        have x_0 := HT9'.out.c 0 rfl
        have x_1 := HT9'.out.c 1 rfl
        have x_2 := HT9'.out.c 2 rfl
        go_wp2_with fail
        refine HGv.out.mono ?_
        rintro e w5 ⟨rfl, hb⟩
        clear x_0 x_1 x_2 HGv
        have HP5 := Lib.hid (HP9.out.below hb HP9.out.1.1)
        have HB5 : Hid (Below w.heap.size w w5) := Lib.hid (HB4.out.trans (hb.mono HB4.out.size))
        clear hb
        have hv : R = failR := by rw [← HR.out]; unfold joinR; rw [HBB.out, HBE.out, HB3'.out]; rfl
        have HV := Lib.hid hv
        clear hv
        have s_0 := HP5.out.c 0 rfl
        have s_1 := HP5.out.c 1 rfl
        have s_2 := HP5.out.c 2 rfl
        have f0 := HP5.out.f 0 (by simp)
        have f1 := HP5.out.f 1 (by simp)
        have f2 := HP5.out.f 2 (by simp)
        go_wp2_with fail
        rw [HV.out]
        exact bodyPost_ret (v := .tuple #[.agg #[.slice none 0 0, .slice none 0 0, .slice none 0 0], .bool false]) (by first | (simp [results, Try.results27, go_sem, *]; done) | (simp (maxDischargeDepth := 12) [results, Try.results27, go_sem, *]; done) | (simp (maxDischargeDepth := 12) [results, Try.results27, go_sem, *]; rfl)) rfl (RivP.no (((HB5.out.setCell (by show w.heap.size ≤ (w.heap.size + 2); omega) _).setCell (by show w.heap.size ≤ (w.heap.size + 2); omega) _).setCell (by show w.heap.size ≤ (w.heap.size + 2); omega) _))
      · have HGv := Lib.hid (give_yes (some ⟨g, 0, none⟩) (some ⟨h1, 0, none⟩) (some ⟨h2, 0, none⟩) (l2 + k) (l2 + k) (l2 + k) c e1 e2 (joinD D E x l2 k) (M ++ N) (V ++ U) W9 (owns_row HU0.out) (owns_row HU1.out) (owns_row HU2.out) LD.out LM.out LV.out ⟨by omega, by omega, by omega⟩ HB3'.out)
        have x_0 := HT9'.out.c 0 rfl
        have x_1 := HT9'.out.c 1 rfl
        have x_2 := HT9'.out.c 2 rfl
        go_wp2_with fail
        refine HGv.out.mono ?_
        rintro e w5 ⟨rfl, hb⟩
        clear x_0 x_1 x_2 HGv
        have HP5 := Lib.hid (HP9.out.below hb HP9.out.1.1)
        have HB5 : Hid (Below w.heap.size w w5) := Lib.hid (HB4.out.trans (hb.mono HB4.out.size))
        have HQ0' := Lib.hid (owns_below HU0.out hb (Nat.le_refl _))
        have HQ1' := Lib.hid (owns_below HU1.out hb (Nat.le_refl _))
        have HQ2' := Lib.hid (owns_below HU2.out hb (Nat.le_refl _))
        clear hb
        have hv : R = ⟨l2 + k, joinD D E x l2 k, M ++ N, V ++ U, true⟩ := by rw [← HR.out]; unfold joinR; rw [HBB.out, HBE.out, HB3'.out]; rfl
        have HV := Lib.hid hv
        clear hv
        have s_0 := HP5.out.c 0 rfl
        have s_1 := HP5.out.c 1 rfl
        have s_2 := HP5.out.c 2 rfl
        have f0 := HP5.out.f 0 (by simp)
        have f1 := HP5.out.f 1 (by simp)
        have f2 := HP5.out.f 2 (by simp)
        go_wp2_with fail
        rw [HV.out]
        have n1 := N1.out
        have gg0 := (HU0.out.lt g rfl).1
        have gg1 := (HU1.out.lt h1 rfl).1
        have gg2 := (HU2.out.lt h2 rfl).1
        have hlo := HLo.out
        refine bodyPost_ret (v := .tuple #[.agg #[.slice (some ⟨g, 0, none⟩) (l2 + k) c, .slice (some ⟨h1, 0, none⟩) (l2 + k) e1, .slice (some ⟨h2, 0, none⟩) (l2 + k) e2], .bool true]) (by first | (simp [results, Try.results27, go_sem, *]; done) | (simp (maxDischargeDepth := 12) [results, Try.results27, go_sem, *]; done) | (simp (maxDischargeDepth := 12) [results, Try.results27, go_sem, *]; rfl)) rfl (RivP.yes (lo := w.heap.size) ?_ ?_ ?_ n1.1 n1.2.1 n1.2.2 (Nat.le_refl _) ?_)
        · exact owns_lo (owns_far (owns_far (owns_far HQ0'.out (by simp [Value.ownBlock]; omega) _) (by simp [Value.ownBlock]; omega) _) (by simp [Value.ownBlock]; omega) _) (by omega)
        · exact owns_lo (owns_far (owns_far (owns_far HQ1'.out (by simp [Value.ownBlock]; omega) _) (by simp [Value.ownBlock]; omega) _) (by simp [Value.ownBlock]; omega) _) (by omega)
        · exact owns_lo (owns_far (owns_far (owns_far HQ2'.out (by simp [Value.ownBlock]; omega) _) (by simp [Value.ownBlock]; omega) _) (by simp [Value.ownBlock]; omega) _) (by omega)
        · exact (((HB5.out.setCell (by show w.heap.size ≤ (w.heap.size + 2); omega) _).setCell (by show w.heap.size ≤ (w.heap.size + 2); omega) _).setCell (by show w.heap.size ≤ (w.heap.size + 2); omega) _)

end Go.Proofs.Ytnmmhaadkclogaa
