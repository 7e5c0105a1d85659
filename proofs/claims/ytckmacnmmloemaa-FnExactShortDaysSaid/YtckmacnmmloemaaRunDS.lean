/- RunDays: the model's contract. -/
import Derived.Test.YtckmacnmmloemaaRunI
import Derived.Test.YtckmacnmmloemaaRunS
import Derived.Test.YtckmacnmmloemaaRivS
import Derived.Test.YtckmacnmmloemaaDysS
import Derived.Test.YtckmacnmmloemaaSetV
namespace Go.Proofs.Ytckmacnmmloemaa
open Go.RowKit
set_option linter.unusedVariables false
set_option linter.unusedSimpArgs false
set_option maxRecDepth 100000
attribute [local irreducible] wpV wpList Code.wp

def RunTs (R : RunR) (w : World) (e : Ending) (w' : World) : Prop :=
  ∃ lo hi L p0 p1 p2 q0 q1 q2 x1 x2 x3 x4 l2 u2 sa za sc zc, e = .returned (.tuple #[.agg #[.slice p0 R.D.length q0, .slice p1 R.n q1, .slice p2 R.V.length q2], .slice sa R.G.length sc, .slice za R.S.length zc, .bool R.ok]) ∧ Below w.heap.size w w' ∧ RivAt w' lo hi L p0 p1 p2 q0 q1 q2 R.n R.D R.M R.V ∧ w.heap.size ≤ lo ∧ HSS w' x1 x2 x3 x4 (.slice sa R.G.length sc) R.G.length R.G ∧ HRow w' 2 1 l2 u2 (.slice za R.S.length zc) R.S.length (ic R.S) ∧ w.heap.size ≤ x1 ∧ w.heap.size ≤ x3 ∧ w.heap.size ≤ l2
def RunTi (R : RunR) (w : World) (e : Ending) (w' : World) : Prop :=
  ∃ lo hi L p0 p1 p2 q0 q1 q2 x1 x2 x3 x4 l2 u2 sa za sc zc, e = .returned (.tuple #[.agg #[.slice p0 R.D.length q0, .slice p1 R.n q1, .slice p2 R.V.length q2], .slice sa R.G.length sc, .slice za R.S.length zc, .bool R.ok]) ∧ RunAt R w w' lo hi L p0 p1 p2 q0 q1 q2 x1 x2 x3 x4 l2 u2 sa za sc zc
theorem RunTs.no {w w' : World} (hb : Below w.heap.size w w') : RunTs failN w (.returned (.tuple #[.agg #[.slice none 0 0, .slice none 0 0, .slice none 0 0], .slice none 0 0, .slice none 0 0, .bool false])) w' := by
  obtain ⟨lo, hi, L, p0, p1, p2, q0, q1, q2, x1, x2, x3, x4, l2, u2, sa, za, sc, zc, he, h1, h2, h3, h4, h5, h6, h7, h8, h9, h10, h11, h12, h13⟩ := RunP.no hb
  injection he with he
  injection he with he
  injection he with he
  simp only [List.cons.injEq, Value.slice.injEq] at he
  obtain ⟨⟨e1, -, e2⟩, ⟨e3, -, e4⟩, ⟨e5, -, e6⟩, ⟨e7, -, e8⟩, ⟨e9, -, e10⟩, -⟩ := he
  refine ⟨lo, hi, L, p0, p1, p2, q0, q1, q2, x1, x2, x3, x4, l2, u2, sa, za, sc, zc, ?_, h1, h2, h3, h4, h5, by omega, by omega, by omega⟩
  subst e1; subst e2; subst e3; subst e4; subst e5; subst e6; subst e7; subst e8; subst e9; subst e10
  rfl
set_option maxHeartbeats 16000000 in
theorem runDays_s (a0 a1 a2 sa : Option Addr) (l0 n l2 c0 c1 c2 len sc : Nat) (D M V : List Int) (Zs : List (List Int)) (w : World) (h0 : RowC w a0 (ic D)) (h1 : RowC w a1 (ic M)) (h2 : RowC w a2 (ic V)) (hD : D.length = l0) (hM : M.length = n * 4) (hV : V.length = l2) (hl : l0 ≤ 1048576 ∧ n ≤ 1048576 ∧ l2 ≤ 1048576) (h : RowSS w sa Zs) (hlen : Zs.length = len) (hrl : ∀ k, k < len → (zr Zs k).length ≤ 1048576) (hll : len ≤ 1048576) :
    Calls Try.prog 24 #[.agg #[.slice a0 l0 c0, .slice a1 n c1, .slice a2 l2 c2], .slice sa len sc] w (RunTs (runR D M V n Zs) w) := by
  obtain ⟨R, hR⟩ : ∃ R, runR D M V n Zs = R := ⟨_, rfl⟩
  rw [hR]
  have HR := Lib.hid hR
  clear hR
  have HD := Lib.hid hD
  have HM := Lib.hid hM
  have HVl := Lib.hid hV
  have HL := Lib.hid hl
  have H0 := Lib.hid h0
  have H1 := Lib.hid h1
  have H2 := Lib.hid h2
  have H := Lib.hid h
  have Hlen := Lib.hid hlen
  have Hrl := Lib.hid hrl
  obtain ⟨bb, hbb⟩ : ∃ b, rivB D M V n = b := ⟨_, rfl⟩
  have HBB := Lib.hid hbb
  go_enter Try.func24, Try.ntmps24
  go_upto_region 1 with fail
  generalize hW1 : World.alloc (World.alloc w _) _ = W1
  have HB1 : Hid (Below w.heap.size w W1) := Lib.hid (by rw [← hW1]; exact below2 w _ _)
  have HX1 : Hid (Bw W1 w.heap.size [.slice a0 l0 c0, .slice a1 n c1, .slice a2 l2 c2]) := Lib.hid (by rw [← hW1]; exact (Bw.new w [.slice a0 l0 c0, .slice a1 n c1, .slice a2 l2 c2] _).alloc _)
  have HP1 : Hid (Bw W1 (w.heap.size + 1) [.slice none 0 0, .slice none 0 0, .slice none 0 0]) := Lib.hid (by rw [← hW1]; exact Bw.new1G w _ [.slice none 0 0, .slice none 0 0, .slice none 0 0] _)
  have HS1 : Hid (W1.heap.size = w.heap.size + 2) := Lib.hid (by rw [← hW1]; simp)
  clear hW1
  have HC := Lib.hid (l06Is_any w.heap.size a0 a1 a2 l0 n l2 c0 c1 c2 D M V W1 HX1.out.1 (h0.below HB1.out (Nat.le_refl _)) (h1.below HB1.out (Nat.le_refl _)) (h2.below HB1.out (Nat.le_refl _)) hD hM hV hl)
  rw [hbb] at HC
  clear h0 h1 h2 hD hM hV hbb h hlen hrl
  go_wp2_with fail
  refine HC.out.mono ?_
  rintro e w2 ⟨rfl, m, hw2⟩
  have hb : Below W1.heap.size W1 w2 := by rw [hw2]; exact below_drewN (Below.refl _ _) _
  clear hw2 HC
  have HB2 : Hid (Below w.heap.size w w2) := Lib.hid (HB1.out.trans (hb.mono HB1.out.size))
  have HX2 := Lib.hid (HX1.out.below hb HX1.out.1.1)
  have HP2 := Lib.hid (HP1.out.below hb HP1.out.1.1)
  have HS2 : Hid (w.heap.size + 2 ≤ w2.heap.size) := Lib.hid (by have h9 := hb.size; have h8 := HS1.out; omega)
  clear hb HB1 HX1 HP1 HS1
  cases bb
  · have q0 := HP2.out.c 0 rfl
    have q1 := HP2.out.c 1 rfl
    have q2 := HP2.out.c 2 rfl
    have f0 := HP2.out.f 0 (by simp)
    have f1 := HP2.out.f 1 (by simp)
    have f2 := HP2.out.f 2 (by simp)
    have hv : R = failN := by rw [← HR.out]; unfold runR; rw [HBB.out]; rfl
    have HV := Lib.hid hv
    clear hv
    go_wp2_with fail
    rw [HV.out]
    exact bodyPost_ret (v := .tuple #[.agg #[.slice none 0 0, .slice none 0 0, .slice none 0 0], .slice none 0 0, .slice none 0 0, .bool false]) (by first | (simp [results, Try.results24, go_sem, *]; done) | (simp (maxDischargeDepth := 12) [results, Try.results24, go_sem, *]; done) | (simp (maxDischargeDepth := 12) [results, Try.results24, go_sem, *]; rfl)) rfl (RunTs.no (((HB2.out.setCell (by show w.heap.size ≤ (w.heap.size + 1); omega) _).setCell (by show w.heap.size ≤ (w.heap.size + 1); omega) _).setCell (by show w.heap.size ≤ (w.heap.size + 1); omega) _))
  · have HT := Lib.hid (rivB_true HBB.out)
    have h0n : l0 = n := by have h7 := HT.out.1; have h8 := HD.out; omega
    have h2n : l2 = n := by have h7 := HT.out.1; have h8 := HVl.out; omega
    have x0 := HX2.out.c 0 rfl
    obtain ⟨bd, hbd⟩ : ∃ b, (decide (len ≤ 64) && daysB Zs n) = b := ⟨_, rfl⟩
    have HDd := Lib.hid (l06Days_any sa len sc l0 Zs w2 (H.out.below HB2.out (Nat.le_refl _)) Hlen.out Hrl.out hll HL.out.1)
    rw [h0n, hbd] at HDd
    have HBD := Lib.hid hbd
    clear hbd
    obtain rfl : n = l0 := h0n.symm
    obtain rfl : n = l2 := h2n.symm
    go_wp2_with fail
    refine HDd.out.mono ?_
    rintro e w3 ⟨rfl, rfl⟩
    clear HDd x0
    cases bd
    · have q0 := HP2.out.c 0 rfl
      have q1 := HP2.out.c 1 rfl
      have q2 := HP2.out.c 2 rfl
      have f0 := HP2.out.f 0 (by simp)
      have f1 := HP2.out.f 1 (by simp)
      have f2 := HP2.out.f 2 (by simp)
      have hv : R = failN := by rw [← HR.out]; unfold runR; rw [HBB.out, Hlen.out, Bool.true_and, HBD.out]; rfl
      have HV := Lib.hid hv
      clear hv
      go_wp2_with fail
      rw [HV.out]
      exact bodyPost_ret (v := .tuple #[.agg #[.slice none 0 0, .slice none 0 0, .slice none 0 0], .slice none 0 0, .slice none 0 0, .bool false]) (by first | (simp [results, Try.results24, go_sem, *]; done) | (simp (maxDischargeDepth := 12) [results, Try.results24, go_sem, *]; done) | (simp (maxDischargeDepth := 12) [results, Try.results24, go_sem, *]; rfl)) rfl (RunTs.no (((HB2.out.setCell (by show w.heap.size ≤ (w.heap.size + 1); omega) _).setCell (by show w.heap.size ≤ (w.heap.size + 1); omega) _).setCell (by show w.heap.size ≤ (w.heap.size + 1); omega) _))
    · have hbd := HBD.out
      rw [Bool.and_eq_true, decide_eq_true_eq] at hbd
      obtain ⟨h64, hdy⟩ := hbd
      have hpos : 0 < n := by have h7 := HT.out.1; omega
      have h12 : n ≤ 12 := by have h7 := HT.out.1; omega
      obtain ⟨ba, oa, b1, o1, b3, o3, rfl, rfl, rfl, hsrc⟩ := Src.of (H0.out.below HB2.out (Nat.le_refl _)) (H1.out.below HB2.out (Nat.le_refl _)) (H2.out.below HB2.out (Nat.le_refl _)) HD.out HM.out HVl.out hpos (by omega)
      have HRn := Lib.hid (l06Run_any w.heap.size ba oa b1 o1 b3 o3 n c0 c1 c2 sa len sc D M V Zs w3 hsrc HX2.out.1 (H.out.below HB2.out (Nat.le_refl _)) Hlen.out hdy h64 h12 (rivB_range HBB.out) (by unfold acycB; rw [List.all_eq_true]; intro i hi; rw [decide_eq_true_eq]; exact HT.out.2.2 i (List.mem_range.1 hi)))
      clear hsrc
      have hv : R = ⟨n, D, (runTo D M V Zs n len).M, V, (runTo D M V Zs n len).G, (runTo D M V Zs n len).S, true⟩ := by rw [← HR.out]; unfold runR; rw [HBB.out, hdy, Hlen.out, decide_eq_true h64]; rfl
      have HV := Lib.hid hv
      have hq9 := runTo_len (D := D) (V := V) (Zs := Zs) HM.out len (fun j hj => (daysB_at hdy (show j < Zs.length by rw [Hlen.out]; exact hj)).1)
      have HE2 := Lib.hid hq9.2.1
      have HE3 := Lib.hid hq9.2.2.1
      clear hv hq9
      go_wp2_with fail
      refine HRn.out.mono ?_
      rintro e w4 ⟨lo, g0, g1, g2, d0, d1, d2, ga, gc, za, zc, rfl, r0, r1, r2, n01, n02, n12, hss, hzz, hlo, hb⟩
      have HB4 : Hid (Below w.heap.size w w4) := Lib.hid (HB2.out.trans (hb.mono HB2.out.size))
      have HP4 := Lib.hid (HP2.out.below hb HP2.out.1.1)
      have HR0 := Lib.hid r0
      have HR1 := Lib.hid r1
      have HR2 := Lib.hid r2
      have HNn : Hid (g0 ≠ g1 ∧ g0 ≠ g2 ∧ g1 ≠ g2) := Lib.hid ⟨n01, n02, n12⟩
      have HSS := Lib.hid hss
      have HZZ := Lib.hid hzz
      have HLo : Hid (w.heap.size + 2 ≤ lo) := Lib.hid (by have h9 := HS2.out; omega)
      clear HRn r0 r1 r2 n01 n02 n12 hss hzz hlo hb HB2 HX2 HP2 HS2
      go_upto_region 4 with fail
      generalize hW5 : World.alloc w4 _ = W5
      have HT5 : Hid (Bw W5 w4.heap.size [.slice (some ⟨g0, 0, none⟩) n d0, .slice (some ⟨g1, 0, none⟩) n d1, .slice (some ⟨g2, 0, none⟩) n d2]) := Lib.hid (by rw [← hW5]; exact Bw.new w4 [.slice (some ⟨g0, 0, none⟩) n d0, .slice (some ⟨g1, 0, none⟩) n d1, .slice (some ⟨g2, 0, none⟩) n d2] _)
      have hb5 : Below w4.heap.size w4 W5 := by rw [← hW5]; exact below1 w4 _
      have HP5 := Lib.hid (HP4.out.below hb5 HP4.out.1.1)
      have HB5 : Hid (Below w.heap.size w W5) := Lib.hid (HB4.out.trans (hb5.mono HB4.out.size))
      have HU0 := Lib.hid (owns_below HR0.out hb5 (Nat.le_refl _))
      have HU1 := Lib.hid (owns_below HR1.out hb5 (Nat.le_refl _))
      have HU2 := Lib.hid (owns_below HR2.out hb5 (Nat.le_refl _))
      have HS5 := Lib.hid (HSS.out.below hb5 ⟨Nat.le_refl _, Nat.le_refl _⟩)
      have HZ5 := Lib.hid (owns_below HZZ.out hb5 (Nat.le_refl _))
      clear hW5 hb5 HR0 HR1 HR2 HSS HZZ HP4 HB4
      have x_0 := HT5.out.c 0 rfl
      have x_1 := HT5.out.c 1 rfl
      have x_2 := HT5.out.c 2 rfl
      have q0 := HP5.out.c 0 rfl
      have q1 := HP5.out.c 1 rfl
      have q2 := HP5.out.c 2 rfl
      have f0 := HP5.out.f 0 (by simp)
      have f1 := HP5.out.f 1 (by simp)
      have f2 := HP5.out.f 2 (by simp)
      go_wp2_with fail
      rw [HV.out]
      have hlo9 := HLo.out
      have hkk : Kept (w.heap.size + 1) (w.heap.size + 2) W5 _ := ((Kept.set W5 ⟨w.heap.size + 1, 0, none⟩ (.slice (some ⟨g0, 0, none⟩) n d0) ⟨Nat.le_refl _, Nat.lt_succ_self _⟩).trans (Kept.set _ ⟨w.heap.size + 1, 1, none⟩ (.slice (some ⟨g1, 0, none⟩) n d1) ⟨Nat.le_refl _, Nat.lt_succ_self _⟩)).trans (Kept.set _ ⟨w.heap.size + 1, 2, none⟩ (.slice (some ⟨g2, 0, none⟩) n d2) ⟨Nat.le_refl _, Nat.lt_succ_self _⟩)
      have l0_ := (HU0.out.lt g0 rfl)
      have l1_ := (HU1.out.lt g1 rfl)
      have l2_ := (HU2.out.lt g2 rfl)
      have hrv := riv_lay (t := W5.heap.size) (ownsRow_sameG HU0.out fun b hb9 => hkk.block b (.inr (by have e9 := (HU0.out.lt b hb9).1; omega)) (HU0.out.lt b hb9).2) (ownsRow_sameG HU1.out fun b hb9 => hkk.block b (.inr (by have e9 := (HU1.out.lt b hb9).1; omega)) (HU1.out.lt b hb9).2) (ownsRow_sameG HU2.out fun b hb9 => hkk.block b (.inr (by have e9 := (HU2.out.lt b hb9).1; omega)) (HU2.out.lt b hb9).2) HNn.out.1 HNn.out.2.1 HNn.out.2.2 l0_.2 l1_.2 l2_.2 hkk.size HD.out HVl.out
      have hs9 := HS5.out.kept hkk ⟨.inr (by omega), .inr (by omega)⟩
      have hz9 : HRow _ 2 1 lo W5.heap.size (.slice za len zc) len (ic (runTo D M V Zs n len).S) := ⟨(ownsRow_sameG HZ5.out fun b hb9 => hkk.block b (.inr (by have e9 := (HZ5.out.lt b hb9).1; omega)) (HZ5.out.lt b hb9).2), fun b hb9 => (HZ5.out.lt b hb9).2, hkk.size⟩
      have hbe := HB5.out.trans (hkk.below (by omega) HB5.out.size)
      refine bodyPost_ret (v := .tuple #[.agg #[.slice (some ⟨g0, 0, none⟩) n d0, .slice (some ⟨g1, 0, none⟩) n d1, .slice (some ⟨g2, 0, none⟩) n d2], .slice ga len gc, .slice za len zc, .bool true]) (by first | (simp [results, Try.results24, go_sem, *]; done) | (simp (maxDischargeDepth := 12) [results, Try.results24, go_sem, *]; done) | (simp (maxDischargeDepth := 12) [results, Try.results24, go_sem, *]; rfl)) rfl ⟨lo, W5.heap.size, ⟨g0, g0 + 1, g1, g1 + 1, g2, g2 + 1⟩, some ⟨g0, 0, none⟩, some ⟨g1, 0, none⟩, some ⟨g2, 0, none⟩, d0, d1, d2, lo, w4.heap.size, lo, w4.heap.size, lo, W5.heap.size, ga, za, gc, zc, ?_, hbe, hrv, by omega, ?_, ?_, by omega, by omega, by omega⟩
      · simp only [HD.out, HVl.out, HE2.out, HE3.out]
      · simp only [HE2.out]; exact hs9
      · simp only [HE3.out]; exact hz9

end Go.Proofs.Ytckmacnmmloemaa
