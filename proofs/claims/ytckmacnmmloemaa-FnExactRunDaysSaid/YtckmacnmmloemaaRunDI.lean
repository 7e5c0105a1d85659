/- RunDays: the program's contract. -/
import Derived.Test.YtckmacnmmloemaaRunDS
import Derived.Deep.RegionHeld3
namespace Go.Proofs.Ytckmacnmmloemaa
open Go.RowKit
set_option linter.unusedVariables false
set_option linter.unusedSimpArgs false
set_option maxRecDepth 100000
attribute [local irreducible] wpV wpList Code.wp

set_option maxHeartbeats 16000000 in
theorem runDays_i (a0 a1 a2 sa : Option Addr) (l0 n l2 c0 c1 c2 len sc : Nat) (D M V : List Int) (Zs : List (List Int)) (w : World) (h0 : RowC w a0 (ic D)) (h1 : RowC w a1 (ic M)) (h2 : RowC w a2 (ic V)) (hD : D.length = l0) (hM : M.length = n * 4) (hV : V.length = l2) (hl : l0 ≤ 1048576 ∧ n ≤ 1048576 ∧ l2 ≤ 1048576) (h : RowSS w sa Zs) (hlen : Zs.length = len) (hrl : ∀ k, k < len → (zr Zs k).length ≤ 1048576) :
    Calls Try.prog 26 #[.agg #[.slice a0 l0 c0, .slice a1 n c1, .slice a2 l2 c2], .slice sa len sc] w (RunTi (runR D M V n Zs) w) := by
  have HRo : Hid (∀ W : World, Below w.heap.size w W → Calls Try.prog 65 #[.agg #[.slice a0 l0 c0, .slice a1 n c1, .slice a2 l2 c2], .slice sa len sc] W (RunP (runR D M V n Zs) W)) := Lib.hid fun W hW => runOf_any a0 a1 a2 sa l0 n l2 c0 c1 c2 len sc D M V Zs W (h0.below hW (Nat.le_refl _)) (h1.below hW (Nat.le_refl _)) (h2.below hW (Nat.le_refl _)) hD hM hV hl (h.below hW (Nat.le_refl _)) hlen hrl
  obtain ⟨⟨rn, rD, rM, rV, rG, rS, B⟩, hR⟩ : ∃ R, runR D M V n Zs = R := ⟨_, rfl⟩
  rw [hR] at HRo ⊢
  clear hR h0 h1 h2 hD hM hV hl h hlen hrl
  go_enter Try.func26, Try.ntmps26
  go_upto_region 1 with fail
  generalize hW1 : World.alloc (World.alloc w _) _ = W1
  have HB1 : Hid (Below w.heap.size w W1) := Lib.hid (by rw [← hW1]; exact below2 w _ _)
  have HX1 : Hid (Bw W1 w.heap.size [.slice a0 l0 c0, .slice a1 n c1, .slice a2 l2 c2]) := Lib.hid (by rw [← hW1]; exact (Bw.new w [.slice a0 l0 c0, .slice a1 n c1, .slice a2 l2 c2] _).alloc _)
  have HP1 : Hid (Bw W1 (w.heap.size + 1) [.slice none 0 0, .slice none 0 0, .slice none 0 0]) := Lib.hid (by rw [← hW1]; exact Bw.new1G w _ [.slice none 0 0, .slice none 0 0, .slice none 0 0] _)
  have HS1 : Hid (W1.heap.size = w.heap.size + 2) := Lib.hid (by rw [← hW1]; simp)
  clear hW1
  have x0 := HX1.out.c 0 rfl
  have x1 := HX1.out.c 1 rfl
  have x2 := HX1.out.c 2 rfl
  go_wp2_with fail
  refine (HRo.out W1 HB1.out).mono ?_
  rintro e w2 ⟨lo, hi, L, p0, p1, p2, q0, q1, q2, x1, x2, x3, x4, l2, u2, ga, za, gc, zc, rfl, hb, hrv, hlo, hss, hzz, y1, y2, y3, y4, y5, y6, y7, y8⟩
  simp only at hrv hss hzz
  clear HRo x0
  have HY : Hid (W1.heap.size ≤ lo ∧ lo ≤ hi ∧ hi ≤ x1 ∧ hi ≤ l2 ∧ (x2 ≤ l2 ∨ u2 ≤ x1) ∧ x2 ≤ x3 ∧ u2 ≤ x3 ∧ x1 ≤ x2 ∧ l2 ≤ u2) := Lib.hid ⟨hlo, y1, y2, y3, y4, y5, y6, y7, y8⟩
  have HB2 : Hid (Below w.heap.size w w2) := Lib.hid (HB1.out.trans (hb.mono HB1.out.size))
  have HP2 := Lib.hid (HP1.out.below hb HP1.out.1.1)
  have HRV := Lib.hid hrv
  have HSS := Lib.hid hss
  have HZZ := Lib.hid hzz
  have HS2 : Hid (w.heap.size + 2 ≤ w2.heap.size) := Lib.hid (by have h9 := hb.size; have h8 := HS1.out; omega)
  clear hb hrv hlo hss hzz y1 y2 y3 y4 y5 y6 y7 y8 HB1 HX1 HP1
  go_upto_region 2 with fail
  generalize hW3 : World.alloc w2 _ = W3
  obtain ⟨t, ht⟩ : ∃ t, w2.heap.size = t := ⟨_, rfl⟩
  have HT3 : Hid (Bw W3 t [.slice p0 rD.length q0, .slice p1 rn q1, .slice p2 rV.length q2, .slice ga rG.length gc, .slice za rS.length zc, .bool B]) := Lib.hid (by rw [← hW3, ← ht]; exact Bw.new w2 [.slice p0 rD.length q0, .slice p1 rn q1, .slice p2 rV.length q2, .slice ga rG.length gc, .slice za rS.length zc, .bool B] _)
  have hb3 : Below w2.heap.size w2 W3 := by rw [← hW3]; exact below1 w2 _
  have HP3 := Lib.hid (HP2.out.below hb3 HP2.out.1.1)
  have HB3 : Hid (Below w.heap.size w W3) := Lib.hid (HB2.out.trans (hb3.mono HB2.out.size))
  have HR3 := Lib.hid (HRV.out.below hb3 HRV.out.lh)
  have HG3 := Lib.hid (HSS.out.below hb3 HSS.out.lh)
  have HZ3 := Lib.hid (HZZ.out.below hb3 HZZ.out.2.2)
  (try rw [ht])
  have htw : w.heap.size + 2 ≤ t := by rw [← ht]; exact HS2.out
  clear hW3 hb3 HRV HSS HZZ HP2 HB2 HS2 ht
  have hdr : Below W3.heap.size W3 W3.drew := (Below.refl _ _).drew
  have t0_ := HT3.out.c 0 rfl
  have t1_ := HT3.out.c 1 rfl
  have t2_ := HT3.out.c 2 rfl
  have t3_ := HT3.out.c 3 rfl
  have t4_ := HT3.out.c 4 rfl
  have t5_ := HT3.out.c 5 rfl
  have q0_ := HP3.out.c 0 rfl
  have q1_ := HP3.out.c 1 rfl
  have q2_ := HP3.out.c 2 rfl
  have f0_ := HP3.out.f 0 (by simp)
  have f1_ := HP3.out.f 1 (by simp)
  have f2_ := HP3.out.f 2 (by simp)
  have hne : ¬ t = w.heap.size + 1 := by omega
  have hne2 : ¬ w.heap.size + 1 = t := fun e => hne e.symm
  go_wp2_with fail
  go_region_held3 (fun W => W.cell? ⟨t, 0, none⟩ = some (.slice p0 rD.length q0) ∧ W.cell? ⟨t, 1, none⟩ = some (.slice p1 rn q1) ∧ W.cell? ⟨t, 2, none⟩ = some (.slice p2 rV.length q2) ∧ W.cell? ⟨t, 3, none⟩ = some (.slice ga rG.length gc) ∧ W.cell? ⟨t, 4, none⟩ = some (.slice za rS.length zc) ∧ W.cell? ⟨t, 5, none⟩ = some (.bool B))
    (first | with_reducible exact ⟨t0_, t1_, t2_, t3_, t4_, t5_⟩ | exact ⟨t0_, t1_, t2_, t3_, t4_, t5_⟩ | exact ⟨by simp [go_sem, t0_, hne, hne2], by simp [go_sem, t1_, hne, hne2], by simp [go_sem, t2_, hne, hne2], by simp [go_sem, t3_, hne, hne2], by simp [go_sem, t4_, hne, hne2], by simp [go_sem, t5_, hne, hne2]⟩)
    (fail)
  all_goals go_wp2_with fail
  have hkk : Kept (w.heap.size + 1) (w.heap.size + 2) W3 _ := (Kept.of_below hdr (Nat.le_refl _)).trans (((Kept.set W3.drew ⟨w.heap.size + 1, 0, none⟩ (.slice p0 rD.length q0) ⟨Nat.le_refl _, Nat.lt_succ_self _⟩).trans (Kept.set _ ⟨w.heap.size + 1, 1, none⟩ (.slice p1 rn q1) ⟨Nat.le_refl _, Nat.lt_succ_self _⟩)).trans (Kept.set _ ⟨w.heap.size + 1, 2, none⟩ (.slice p2 rV.length q2) ⟨Nat.le_refl _, Nat.lt_succ_self _⟩))
  have hy := HY.out
  rw [HS1.out] at hy
  refine bodyPost_ret (v := .tuple #[.agg #[.slice p0 rD.length q0, .slice p1 rn q1, .slice p2 rV.length q2], .slice ga rG.length gc, .slice za rS.length zc, .bool B]) (by first | (simp [results, Try.results26, go_sem, *]; done) | (simp (maxDischargeDepth := 12) [results, Try.results26, go_sem, *]; done) | (simp (maxDischargeDepth := 12) [results, Try.results26, go_sem, *]; rfl)) rfl ⟨lo, hi, L, p0, p1, p2, q0, q1, q2, x1, x2, x3, x4, l2, u2, ga, za, gc, zc, rfl, HB3.out.trans (hkk.below (by omega) HB3.out.size), HR3.out.kept hkk (.inr (by omega)), by omega, HG3.out.kept hkk ⟨.inr (by omega), .inr (by omega)⟩, HZ3.out.kept hkk (.inr (by omega)), by omega, by omega, by omega, by omega, by omega, by omega, by omega, by omega⟩

end Go.Proofs.Ytckmacnmmloemaa
