/- The walk of the law on HalfWay. -/
import Derived.Test.YtckmacnmmloemaaHwS
import Derived.Test.YtckmacnmmloemaaHwI
import Derived.Test.YtckmacnmmloemaaRivO
import Derived.Test.YtckmacnmmloemaaRegMk
namespace Go.Proofs.Ytckmacnmmloemaa
open Go.RowKit
set_option linter.unusedVariables false
set_option linter.unusedSimpArgs false
set_option maxRecDepth 100000
attribute [local irreducible] wpV wpList Code.wp

set_option maxHeartbeats 16000000 in
theorem halfWayLaw_fits (a : Option Addr) (cap : Nat) (Zs : List (List Int)) (w : World) (has : RowSS w a Zs) (h1 : (Zs.length : Int) + (totZ Zs Zs.length : Int) ≤ 1048576) :
    Calls Try.prog 10 #[.slice a Zs.length cap] w fun e w' => e = .returned (.bool true) ∧ Below w.heap.size w w' := by
  have hlz : Zs.length ≤ 1048576 := by omega
  have hrl : ∀ k, k < Zs.length → (zr Zs k).length ≤ 1048576 := fun k hk => by have h9 := row_le (Zs := Zs) hk; omega
  have g1 : ¬ (1048576 : Int) - (Zs.length : Int) - (totZ Zs Zs.length : Int) < 0 := by omega
  have hcn : ¬ ((1 + totZ Zs Zs.length : Nat) : Int) < 0 := by omega
  have hlim := halfR_len Zs
  obtain ⟨⟨Z, B⟩, hR⟩ : ∃ R, halfR Zs = R := ⟨_, rfl⟩
  rw [hR] at hlim
  simp only at hlim
  have HS : Hid (∀ (f : Option Addr) (fc : Nat) (W : World), RowSS W f Zs → Calls Try.prog 40 #[.slice f Zs.length fc] W (fun e w' => ∃ lo hi a c, e = .returned (.tuple #[.slice a Z.length c, .bool B]) ∧ Below W.heap.size W w' ∧ HRow w' 2 1 lo hi (.slice a Z.length c) Z.length (ic Z) ∧ W.heap.size ≤ lo)) := Lib.hid fun f fc W kf => by
    have h9 := halfWay_s f Zs.length fc Zs W kf rfl hlz hrl
    rw [hR] at h9
    exact h9
  have HI : Hid (∀ (f : Option Addr) (fc : Nat) (W : World), RowSS W f Zs → Calls Try.prog 41 #[.slice f Zs.length fc] W (fun e w' => ∃ lo hi a c, e = .returned (.tuple #[.slice a Z.length c, .bool B]) ∧ Below W.heap.size W w' ∧ HRow w' 2 1 lo hi (.slice a Z.length c) Z.length (ic Z) ∧ W.heap.size ≤ lo)) := Lib.hid fun f fc W kf => by
    have h9 := halfWay_i f Zs.length fc Zs W kf rfl hlz hrl
    rw [hR] at h9
    exact h9
  have HAS := Lib.hid has
  have Hrl := Lib.hid hrl
  clear hR has hrl
  cases B
  all_goals
    have Bel_0 : Hid (Below w.heap.size w w) := Lib.hid (Below.refl w.heap.size w)
    go_enter Try.func10, Try.ntmps10
    go_wp2_with fail
    refine (szSS_fits a cap Zs 1048576 _ HAS.out (by omega) (by omega)).mono ?_
    rintro e w' ⟨rfl, rfl⟩
    go_wp2_with fail
    refine (copySS_any a cap Zs _ (HAS.out.below Bel_0.out (Nat.le_refl _)) hlz Hrl.out).mono ?_
    rintro e w1 ⟨sa, sc, rfl, hb, hrs⟩
    have z1 : w.heap.size + 0 ≤ w1.heap.size := (by have := hb.size; (try simp at this); omega)
    have Bel_1 : Hid (Below w.heap.size w w1) := Lib.hid (Bel_0.out.trans (hb.mono Bel_0.out.size))
    clear Bel_0
    clear hb
    have Ss_0 : Hid (HSS w1 (w.heap.size) (w1.heap.size) (.slice sa Zs.length sc) Zs.length Zs) := Lib.hid (hrs)
    clear hrs
    go_wp2_with fail
    refine (HS.out sa sc _ Ss_0.out.row).mono ?_
    rintro e w2 ⟨lot, hit, ta, tc, rfl, hb, hrt, hlot⟩
    have z2 : w1.heap.size + 0 ≤ w2.heap.size := (by have := hb.size; (try simp at this); omega)
    have Bel_2 : Hid (Below w.heap.size w w2) := Lib.hid (Bel_1.out.trans (hb.mono Bel_1.out.size))
    clear Bel_1
    have Ss_1 : Hid (HSS w2 (w.heap.size) (w1.heap.size) (.slice sa Zs.length sc) Zs.length Zs) := Lib.hid (Ss_0.out.below hb Ss_0.out.lh)
    clear Ss_0
    (try simp at hlot)
    have hht : hit ≤ w2.heap.size := hrt.2.2
    clear hb
    have Rt_0 : Hid (HRow w2 2 1 (lot) (hit) (.slice ta Z.length tc) Z.length (ic Z)) := Lib.hid (hrt)
    clear hrt
    clear Ss_1
    go_wp2_with fail
    refine (copySS_any a cap Zs _ (HAS.out.below Bel_2.out (Nat.le_refl _)) hlz Hrl.out).mono ?_
    rintro e w3 ⟨xa, xc, rfl, hb, hrx⟩
    have z3 : w2.heap.size + 0 ≤ w3.heap.size := (by have := hb.size; (try simp at this); omega)
    have Bel_3 : Hid (Below w.heap.size w w3) := Lib.hid (Bel_2.out.trans (hb.mono Bel_2.out.size))
    clear Bel_2
    have Rt_1 : Hid (HRow w3 2 1 (lot) (hit) (.slice ta Z.length tc) Z.length (ic Z)) := Lib.hid (Rt_0.out.below hb Rt_0.out.2.2)
    clear Rt_0
    clear hb
    have Sx_0 : Hid (HSS w3 (w2.heap.size) (w3.heap.size) (.slice xa Zs.length xc) Zs.length Zs) := Lib.hid (hrx)
    clear hrx
    go_wp2_with fail
    refine (HI.out xa xc _ Sx_0.out.row).mono ?_
    rintro e w4 ⟨log, hig, ga, gc, rfl, hb, hrg, hlog⟩
    have z4 : w3.heap.size + 0 ≤ w4.heap.size := (by have := hb.size; (try simp at this); omega)
    have Bel_4 : Hid (Below w.heap.size w w4) := Lib.hid (Bel_3.out.trans (hb.mono Bel_3.out.size))
    clear Bel_3
    have Rt_2 : Hid (HRow w4 2 1 (lot) (hit) (.slice ta Z.length tc) Z.length (ic Z)) := Lib.hid (Rt_1.out.below hb Rt_1.out.2.2)
    clear Rt_1
    have Sx_1 : Hid (HSS w4 (w2.heap.size) (w3.heap.size) (.slice xa Zs.length xc) Zs.length Zs) := Lib.hid (Sx_0.out.below hb Sx_0.out.lh)
    clear Sx_0
    (try simp at hlog)
    have hhg : hig ≤ w4.heap.size := hrg.2.2
    clear hb
    have Rg_0 : Hid (HRow w4 2 1 (log) (hig) (.slice ga Z.length gc) Z.length (ic Z)) := Lib.hid (hrg)
    clear hrg
    go_wp2_with fail
    refine (eqZ_any ga ta gc tc Z _ Rg_0.out.row Rt_2.out.row hlim).mono ?_
    rintro e w5 ⟨rfl, hb⟩
    have z5 : w4.heap.size + 0 ≤ w5.heap.size := (by have := hb.size; (try simp at this); omega)
    have Bel_5 : Hid (Below w.heap.size w w5) := Lib.hid (Bel_4.out.trans (hb.mono Bel_4.out.size))
    clear Bel_4
    have Rt_3 : Hid (HRow w5 2 1 (lot) (hit) (.slice ta Z.length tc) Z.length (ic Z)) := Lib.hid (Rt_2.out.below hb Rt_2.out.2.2)
    clear Rt_2
    have Sx_2 : Hid (HSS w5 (w2.heap.size) (w3.heap.size) (.slice xa Zs.length xc) Zs.length Zs) := Lib.hid (Sx_1.out.below hb Sx_1.out.lh)
    clear Sx_1
    have Rg_1 : Hid (HRow w5 2 1 (log) (hig) (.slice ga Z.length gc) Z.length (ic Z)) := Lib.hid (Rg_0.out.below hb Rg_0.out.2.2)
    clear Rg_0
    clear hb
    go_wp2_with fail
    refine (copySS_any a cap Zs _ (HAS.out.below Bel_5.out (Nat.le_refl _)) hlz Hrl.out).mono ?_
    rintro e w6 ⟨va, vc, rfl, hb, hrv⟩
    have z6 : w5.heap.size + 0 ≤ w6.heap.size := (by have := hb.size; (try simp at this); omega)
    have Bel_6 : Hid (Below w.heap.size w w6) := Lib.hid (Bel_5.out.trans (hb.mono Bel_5.out.size))
    clear Bel_5
    have Rt_4 : Hid (HRow w6 2 1 (lot) (hit) (.slice ta Z.length tc) Z.length (ic Z)) := Lib.hid (Rt_3.out.below hb Rt_3.out.2.2)
    clear Rt_3
    have Sx_3 : Hid (HSS w6 (w2.heap.size) (w3.heap.size) (.slice xa Zs.length xc) Zs.length Zs) := Lib.hid (Sx_2.out.below hb Sx_2.out.lh)
    clear Sx_2
    have Rg_2 : Hid (HRow w6 2 1 (log) (hig) (.slice ga Z.length gc) Z.length (ic Z)) := Lib.hid (Rg_1.out.below hb Rg_1.out.2.2)
    clear Rg_1
    clear hb
    have Sv_0 : Hid (HSS w6 (w5.heap.size) (w6.heap.size) (.slice va Zs.length vc) Zs.length Zs) := Lib.hid (hrv)
    clear hrv
    go_wp2_with fail
    refine (eqSS_any xa va xc vc Zs _ Sx_3.out.row Sv_0.out.row hlz Hrl.out).mono ?_
    rintro e w7 ⟨rfl, hb⟩
    have z7 : w6.heap.size + 0 ≤ w7.heap.size := (by have := hb.size; (try simp at this); omega)
    have Bel_7 : Hid (Below w.heap.size w w7) := Lib.hid (Bel_6.out.trans (hb.mono Bel_6.out.size))
    clear Bel_6
    have Rt_5 : Hid (HRow w7 2 1 (lot) (hit) (.slice ta Z.length tc) Z.length (ic Z)) := Lib.hid (Rt_4.out.below hb Rt_4.out.2.2)
    clear Rt_4
    have Sx_4 : Hid (HSS w7 (w2.heap.size) (w3.heap.size) (.slice xa Zs.length xc) Zs.length Zs) := Lib.hid (Sx_3.out.below hb Sx_3.out.lh)
    clear Sx_3
    have Rg_3 : Hid (HRow w7 2 1 (log) (hig) (.slice ga Z.length gc) Z.length (ic Z)) := Lib.hid (Rg_2.out.below hb Rg_2.out.2.2)
    clear Rg_2
    have Sv_1 : Hid (HSS w7 (w5.heap.size) (w6.heap.size) (.slice va Zs.length vc) Zs.length Zs) := Lib.hid (Sv_0.out.below hb Sv_0.out.lh)
    clear Sv_0
    clear hb
    clear Sv_1
    go_wp2_with fail
    have hmk := markSS_any w2.heap.size w3.heap.size 1 xa xc Zs _ Sx_4.out hlz Hrl.out (by omega)
    clear Sx_4
    refine (hmk).mono ?_
    rintro e w8 ⟨rfl, hf, hk⟩
    have z8 : w7.heap.size + 0 ≤ w8.heap.size := (by have := hk.size; (try simp at this); omega)
    have Bel_8 : Hid (Below w.heap.size w w8) := Lib.hid (Bel_7.out.trans (hk.below (by omega) (by omega)))
    clear Bel_7
    have Rt_6 : Hid (HRow w8 2 1 (lot) (hit) (.slice ta Z.length tc) Z.length (ic Z)) := Lib.hid (Rt_5.out.kept hk (by first | exact .inl (by omega) | exact .inr (by omega) | omega))
    clear Rt_5
    have Rg_4 : Hid (HRow w8 2 1 (log) (hig) (.slice ga Z.length gc) Z.length (ic Z)) := Lib.hid (Rg_3.out.kept hk (by first | exact .inl (by omega) | exact .inr (by omega) | omega))
    clear Rg_3
    clear hk
    have Sx_0 : Hid (HSS w8 (w2.heap.size) (w3.heap.size) (.slice xa Zs.length xc) Zs.length (marksSS 1 Zs Zs.length)) := Lib.hid (hf)
    clear hf
    clear Sx_0
    go_wp2_with fail
    refine (eqZ_any ga ta gc tc Z _ Rg_4.out.row Rt_6.out.row hlim).mono ?_
    rintro e w9 ⟨rfl, hb⟩
    have z9 : w8.heap.size + 0 ≤ w9.heap.size := (by have := hb.size; (try simp at this); omega)
    have Bel_9 : Hid (Below w.heap.size w w9) := Lib.hid (Bel_8.out.trans (hb.mono Bel_8.out.size))
    clear Bel_8
    have Rt_7 : Hid (HRow w9 2 1 (lot) (hit) (.slice ta Z.length tc) Z.length (ic Z)) := Lib.hid (Rt_6.out.below hb Rt_6.out.2.2)
    clear Rt_6
    have Rg_5 : Hid (HRow w9 2 1 (log) (hig) (.slice ga Z.length gc) Z.length (ic Z)) := Lib.hid (Rg_4.out.below hb Rg_4.out.2.2)
    clear Rg_4
    clear hb
    have hcm : ¬ ((1 + Z.length : Nat) : Int) < 0 := by omega
    go_wp2_with fail
    have hmk := markZ_any log hig 1 ga Z.length gc Z _ Rg_5.out hlim (by omega)
    clear Rg_5
    refine (hmk).mono ?_
    rintro e w10 ⟨rfl, hf, hk⟩
    have z10 : w9.heap.size + 0 ≤ w10.heap.size := (by have := hk.size; (try simp at this); omega)
    have Bel_10 : Hid (Below w.heap.size w w10) := Lib.hid (Bel_9.out.trans (hk.below (by omega) (by omega)))
    clear Bel_9
    have Rt_8 : Hid (HRow w10 2 1 (lot) (hit) (.slice ta Z.length tc) Z.length (ic Z)) := Lib.hid (Rt_7.out.kept hk (by first | exact .inl (by omega) | exact .inr (by omega) | omega))
    clear Rt_7
    clear hk
    have Rg_0 : Hid (HRow w10 2 1 (log) (hig) (.slice ga Z.length gc) Z.length (ic (marksZ 1 Z.length))) := Lib.hid (hf)
    clear hf
    go_wp2_with fail
    refine (heldZ_any log hig 1 ga Z.length gc _ Rg_0.out hlim (by omega)).mono ?_
    rintro e w' ⟨rfl, rfl⟩
    go_wp2_with fail
    refine (copySS_any a cap Zs _ (HAS.out.below Bel_10.out (Nat.le_refl _)) hlz Hrl.out).mono ?_
    rintro e w11 ⟨ea, ec, rfl, hb, hre⟩
    have z11 : w10.heap.size + 0 ≤ w11.heap.size := (by have := hb.size; (try simp at this); omega)
    have Bel_11 : Hid (Below w.heap.size w w11) := Lib.hid (Bel_10.out.trans (hb.mono Bel_10.out.size))
    clear Bel_10
    have Rt_9 : Hid (HRow w11 2 1 (lot) (hit) (.slice ta Z.length tc) Z.length (ic Z)) := Lib.hid (Rt_8.out.below hb Rt_8.out.2.2)
    clear Rt_8
    have Rg_1 : Hid (HRow w11 2 1 (log) (hig) (.slice ga Z.length gc) Z.length (ic (marksZ 1 Z.length))) := Lib.hid (Rg_0.out.below hb Rg_0.out.2.2)
    clear Rg_0
    clear hb
    have Se_0 : Hid (HSS w11 (w10.heap.size) (w11.heap.size) (.slice ea Zs.length ec) Zs.length Zs) := Lib.hid (hre)
    clear hre
    go_wp2_with fail
    refine (HI.out ea ec _ Se_0.out.row).mono ?_
    rintro e w12 ⟨loh, hih, ha, hc, rfl, hb, hrh, hloh⟩
    have z12 : w11.heap.size + 0 ≤ w12.heap.size := (by have := hb.size; (try simp at this); omega)
    have Bel_12 : Hid (Below w.heap.size w w12) := Lib.hid (Bel_11.out.trans (hb.mono Bel_11.out.size))
    clear Bel_11
    have Rt_10 : Hid (HRow w12 2 1 (lot) (hit) (.slice ta Z.length tc) Z.length (ic Z)) := Lib.hid (Rt_9.out.below hb Rt_9.out.2.2)
    clear Rt_9
    have Rg_2 : Hid (HRow w12 2 1 (log) (hig) (.slice ga Z.length gc) Z.length (ic (marksZ 1 Z.length))) := Lib.hid (Rg_1.out.below hb Rg_1.out.2.2)
    clear Rg_1
    have Se_1 : Hid (HSS w12 (w10.heap.size) (w11.heap.size) (.slice ea Zs.length ec) Zs.length Zs) := Lib.hid (Se_0.out.below hb Se_0.out.lh)
    clear Se_0
    (try simp at hloh)
    have hhh : hih ≤ w12.heap.size := hrh.2.2
    clear hb
    have Rh_0 : Hid (HRow w12 2 1 (loh) (hih) (.slice ha Z.length hc) Z.length (ic Z)) := Lib.hid (hrh)
    clear hrh
    clear Se_1
    go_wp2_with fail
    refine (eqZ_any ha ta hc tc Z _ Rh_0.out.row Rt_10.out.row hlim).mono ?_
    rintro e w13 ⟨rfl, hb⟩
    have z13 : w12.heap.size + 0 ≤ w13.heap.size := (by have := hb.size; (try simp at this); omega)
    have Bel_13 : Hid (Below w.heap.size w w13) := Lib.hid (Bel_12.out.trans (hb.mono Bel_12.out.size))
    clear Bel_12
    have Rt_11 : Hid (HRow w13 2 1 (lot) (hit) (.slice ta Z.length tc) Z.length (ic Z)) := Lib.hid (Rt_10.out.below hb Rt_10.out.2.2)
    clear Rt_10
    have Rg_3 : Hid (HRow w13 2 1 (log) (hig) (.slice ga Z.length gc) Z.length (ic (marksZ 1 Z.length))) := Lib.hid (Rg_2.out.below hb Rg_2.out.2.2)
    clear Rg_2
    have Rh_1 : Hid (HRow w13 2 1 (loh) (hih) (.slice ha Z.length hc) Z.length (ic Z)) := Lib.hid (Rh_0.out.below hb Rh_0.out.2.2)
    clear Rh_0
    clear hb
    go_wp2_with fail
    refine (heldZ_any log hig 1 ga Z.length gc _ Rg_3.out hlim (by omega)).mono ?_
    rintro e w' ⟨rfl, rfl⟩
    go_wp2_with fail
    go_ret
    exact ⟨rfl, Bel_13.out⟩

set_option maxHeartbeats 4000000 in
theorem halfWayLaw_not (a : Option Addr) (cap : Nat) (Zs : List (List Int)) (w : World) (has : RowSS w a Zs) (hm : Zs.length ≤ maxLen) (hrm : ∀ k, k < Zs.length → (zr Zs k).length ≤ maxLen) (h : ¬ (Zs.length : Int) + (totZ Zs Zs.length : Int) ≤ 1048576) :
    Calls Try.prog 10 #[.slice a Zs.length cap] w fun e w' => e = .returned (.bool true) ∧ Below w.heap.size w w' := by
  unfold maxLen at hm hrm
  have HSz := Lib.hid (szSS_not a cap Zs 1048576 w has (by omega) (by omega) (by omega) (by omega) (fun k hk => by have := hrm k hk; omega))
  clear hm hrm h has
  have hneg : ((-1 : Int) < 0) := by decide
  go_enter Try.func10, Try.ntmps10
  go_wp2_with fail
  refine HSz.out.mono ?_
  rintro e w1 ⟨rfl, rfl⟩
  go_wp2_with fail
  go_ret
  exact ⟨rfl, Below.refl _ _⟩
theorem walk_FnExactHalfWay (a : Option Addr) (len cap : Nat) (Zs : List (List Int)) (w : World) (ha : IsRowSS w a len cap Zs) :
    Calls Try.prog 10 #[.slice a len cap] w fun e w' => e = .returned (.bool true) ∧ Below w.heap.size w w' := by
  obtain ⟨hl, hc, hx, hr, hrm⟩ := ha
  subst hl
  by_cases h : (Zs.length : Int) + (totZ Zs Zs.length : Int) ≤ 1048576
  · exact halfWayLaw_fits a cap Zs w hr h
  · exact halfWayLaw_not a cap Zs w hr (by omega) hrm h
end Go.Proofs.Ytckmacnmmloemaa
