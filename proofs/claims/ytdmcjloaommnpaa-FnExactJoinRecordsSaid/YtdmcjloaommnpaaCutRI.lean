/- Parts of records: the program. -/
import Derived.Test.YtdmcjloaommnpaaRcC
namespace Go.Proofs.Ytdmcjloaommnpaa
open Go.RowKit
set_option linter.unusedVariables false
set_option linter.unusedSimpArgs false
set_option maxRecDepth 100000
attribute [local irreducible] wpV wpList Code.wp

theorem Bx.four {w : World} {b : Nat} {v0 v1 v2 v3 : Value} (h : Bx w b [v0, v1, v2, v3]) (u0 u1 u2 u3 : Value) : Bx ((((w.setCell ⟨b, 0, none⟩ u0).setCell ⟨b, 1, none⟩ u1).setCell ⟨b, 2, none⟩ u2).setCell ⟨b, 3, none⟩ u3) b [u0, u1, u2, u3] := by
  have c0 := h.c 0 rfl
  have c1 := h.c 1 rfl
  have c2 := h.c 2 rfl
  have c3 := h.c 3 rfl
  refine ⟨by simp only [setCell_size]; exact h.1, fun j x hj => ?_⟩
  rcases j with _ | _ | _ | _ | j
  · cases hj; simp (maxDischargeDepth := 8) [go_sem, c0, c1, c2, c3]
  · cases hj; simp (maxDischargeDepth := 8) [go_sem, c0, c1, c2, c3]
  · cases hj; simp (maxDischargeDepth := 8) [go_sem, c0, c1, c2, c3]
  · cases hj; simp (maxDischargeDepth := 8) [go_sem, c0, c1, c2, c3]
  · simp at hj
theorem kstep9 {B : Nat} {a w w' : World} (h : Below B a w) (hs : B ≤ a.heap.size) (hb : Below w.heap.size w w') : Below B a w' := h.trans (hb.mono (Nat.le_trans hs h.size))
theorem owns_lo9 {w : World} {lo lo' : Nat} {v : Value} {zs : List Nat} (h : RowO w lo v zs) (hl : lo' ≤ lo) : RowO w lo' v zs := ((FRow.mk h).mono hl (Nat.le_refl _) (Nat.le_refl _)).1

set_option maxHeartbeats 16000000 in
theorem cutRecord_impl (nm : ByteArray) (st sp : Int) (a : Option Addr) (cap : Nat) (zs : List Nat) (f t : Int) (w : World) (h : RowF .f32 w a zs) (hl : zs.length ≤ 1048576) (hz : ∀ z ∈ zs, z < 4294967296) (hs : nm.size ≤ 1048576) (hc : zs.length ≤ cap) (hf0 : -9223372036854775808 ≤ f) (hf1 : f ≤ 9223372036854775807) (ht0 : -9223372036854775808 ≤ t) (ht1 : t ≤ 9223372036854775807) : Calls Try.prog 42 #[.agg #[.string nm, .int .i64 st, .int .i64 sp, .slice a zs.length cap], .int .i64 f, .int .i64 t] w (RetHB (resCutRecord nm st sp zs f t).nm (resCutRecord nm st sp zs f t).wide (resCutRecord nm st sp zs f t).high (resCutRecord nm st sp zs f t).zs (resCutRecord nm st sp zs f t).ok w) := by
  have Hv := Lib.hid (validRec_i nm st sp a zs.length cap)
  have H := Lib.hid h
  have Hz := Lib.hid hz
  clear h hz
  have Rno := Lib.hid (@cut_no nm st sp zs f t)
  have Rout := Lib.hid (@cut_out nm st sp zs f t)
  have Rgo := Lib.hid (@cut_go nm st sp zs f t)
  have Rt := Lib.hid (@recB_true nm st sp zs.length)
  generalize resCutRecord nm st sp zs f t = R at *
  have HV : Hid (∀ W, Calls Try.prog 39 #[.agg #[.string nm, .int .i64 st, .int .i64 sp, .slice a zs.length cap]] W (SayB (recB nm st sp zs.length) W)) := Lib.hid fun W => validRec_i nm st sp a zs.length cap W hs hl
  clear Hv
  generalize hrb : recB nm st sp zs.length = rb at *
  have Hrb := Lib.hid hrb
  clear hrb
  by_cases hin : 0 ≤ f ∧ f < t ∧ t ≤ (zs.length : Int)
  rotate_left
  · have hF := Rout.out hin
    have HF := Lib.hid hF
    clear hF
    have hcase : f < 0 ∨ (¬ f < 0 ∧ t ≤ f) ∨ (¬ f < 0 ∧ ¬ t ≤ f ∧ t > (zs.length : Int)) := by omega
    clear hin
    rcases hcase with h1 | ⟨h1, h2⟩ | ⟨h1, h2, h3⟩
    all_goals
      go_enter Try.func42, Try.ntmps42
      go_wp2_with fail
      refine (HV.out _).mono ?_
      rintro e w3 ⟨bb, hbb, rfl, hb⟩
      have hx := ((BoxH.new w nm st sp (.slice a zs.length cap) 49).alloc (.cells ZR.toArray 49)).below hb (by first | (simp; done) | (simp; omega) | omega)
      have hp : Bw w3 (w.heap.size + 1) ZR := Bw.below (by have h9 := Bw.new (w.alloc (.cells #[.string nm, .int .i64 st, .int .i64 sp, .slice a zs.length cap] 49)) ZR 49; rw [show (w.alloc (.cells #[.string nm, .int .i64 st, .int .i64 sp, .slice a zs.length cap] 49)).heap.size = w.heap.size + 1 by simp] at h9; exact h9) hb (by first | (simp; done) | (simp; omega) | omega)
      obtain ⟨c0, c1, c2, c3, _⟩ := hx
      have q0 := hp.c 0 rfl
      have q1 := hp.c 1 rfl
      have q2 := hp.c 2 rfl
      have q3 := hp.c 3 rfl
      have f0 := hp.f 0 (by decide)
      have f1 := hp.f 1 (by decide)
      have f2 := hp.f 2 (by decide)
      have f3 := hp.f 3 (by decide)
      have HB := Lib.hid ((below2 _ _ _).trans (hb.mono (by first | (simp; done) | (simp; omega) | omega)) : Below w.heap.size w w3)
      have HP3 := Lib.hid hp
      clear hb hbb hp
      cases bb <;> (go_wp2_with fail; obtain ⟨W9, hW9⟩ : ∃ W, ((((w3.setCell ⟨w.heap.size + 1, 0, none⟩ (.string ⟨#[]⟩)).setCell ⟨w.heap.size + 1, 1, none⟩ (.int .i64 0)).setCell ⟨w.heap.size + 1, 2, none⟩ (.int .i64 0)).setCell ⟨w.heap.size + 1, 3, none⟩ (.slice none 0 0)) = W := ⟨_, rfl⟩; have hb9 := Bx.four (HP3.out).1 (.string ⟨#[]⟩) (.int .i64 0) (.int .i64 0) (.slice none 0 0); have hl9 : Below w.heap.size w ((((w3.setCell ⟨w.heap.size + 1, 0, none⟩ (.string ⟨#[]⟩)).setCell ⟨w.heap.size + 1, 1, none⟩ (.int .i64 0)).setCell ⟨w.heap.size + 1, 2, none⟩ (.int .i64 0)).setCell ⟨w.heap.size + 1, 3, none⟩ (.slice none 0 0)) := ((((HB.out).setCell (by first | (simp; done) | (simp; omega) | omega) _).setCell (by first | (simp; done) | (simp; omega) | omega) _).setCell (by first | (simp; done) | (simp; omega) | omega) _).setCell (by first | (simp; done) | (simp; omega) | omega) _; rw [hW9] at hb9 hl9; have p0 := hb9.c 0 rfl; have p1 := hb9.c 1 rfl; have p2 := hb9.c 2 rfl; have p3 := hb9.c 3 rfl; have HL9 := Lib.hid hl9; clear hb9 hl9; try rw [hW9]; clear hW9 q0 q1 q2 q3 f0 f1 f2 f3 c0 c1 c2 c3; refine bodyPost_ret (v := .tuple #[.agg ZR.toArray, .bool false]) (by first | (simp [results, Try.results42, go_sem, p0, p1, p2, p3]; done) | (simp [results, Try.results42, go_sem, p0, p1, p2, p3]; rfl)) rfl ?_; rw [HF.out]; exact ⟨none, 0, rfl, HL9.out, FRow.nil _ _⟩)
  obtain ⟨h1, h2, h3⟩ := hin
  cases rb
  · have hF := Rno.out rfl
    have HF := Lib.hid hF
    clear hF
    go_enter Try.func42, Try.ntmps42
    go_wp2_with fail
    refine (HV.out _).mono ?_
    rintro e w3 ⟨bb, hbb, rfl, hb⟩
    have hx := ((BoxH.new w nm st sp (.slice a zs.length cap) 49).alloc (.cells ZR.toArray 49)).below hb (by first | (simp; done) | (simp; omega) | omega)
    have hp : Bw w3 (w.heap.size + 1) ZR := Bw.below (by have h9 := Bw.new (w.alloc (.cells #[.string nm, .int .i64 st, .int .i64 sp, .slice a zs.length cap] 49)) ZR 49; rw [show (w.alloc (.cells #[.string nm, .int .i64 st, .int .i64 sp, .slice a zs.length cap] 49)).heap.size = w.heap.size + 1 by simp] at h9; exact h9) hb (by first | (simp; done) | (simp; omega) | omega)
    obtain ⟨c0, c1, c2, c3, _⟩ := hx
    have q0 := hp.c 0 rfl
    have q1 := hp.c 1 rfl
    have q2 := hp.c 2 rfl
    have q3 := hp.c 3 rfl
    have f0 := hp.f 0 (by decide)
    have f1 := hp.f 1 (by decide)
    have f2 := hp.f 2 (by decide)
    have f3 := hp.f 3 (by decide)
    have HB := Lib.hid ((below2 _ _ _).trans (hb.mono (by first | (simp; done) | (simp; omega) | omega)) : Below w.heap.size w w3)
    have HP3 := Lib.hid hp
    clear hb hp
    subst hbb
    go_wp2_with fail
    obtain ⟨W9, hW9⟩ : ∃ W, ((((w3.setCell ⟨w.heap.size + 1, 0, none⟩ (.string ⟨#[]⟩)).setCell ⟨w.heap.size + 1, 1, none⟩ (.int .i64 0)).setCell ⟨w.heap.size + 1, 2, none⟩ (.int .i64 0)).setCell ⟨w.heap.size + 1, 3, none⟩ (.slice none 0 0)) = W := ⟨_, rfl⟩
    have hb9 := Bx.four (HP3.out).1 (.string ⟨#[]⟩) (.int .i64 0) (.int .i64 0) (.slice none 0 0)
    have hl9 : Below w.heap.size w ((((w3.setCell ⟨w.heap.size + 1, 0, none⟩ (.string ⟨#[]⟩)).setCell ⟨w.heap.size + 1, 1, none⟩ (.int .i64 0)).setCell ⟨w.heap.size + 1, 2, none⟩ (.int .i64 0)).setCell ⟨w.heap.size + 1, 3, none⟩ (.slice none 0 0)) := ((((HB.out).setCell (by first | (simp; done) | (simp; omega) | omega) _).setCell (by first | (simp; done) | (simp; omega) | omega) _).setCell (by first | (simp; done) | (simp; omega) | omega) _).setCell (by first | (simp; done) | (simp; omega) | omega) _
    rw [hW9] at hb9 hl9
    have p0 := hb9.c 0 rfl
    have p1 := hb9.c 1 rfl
    have p2 := hb9.c 2 rfl
    have p3 := hb9.c 3 rfl
    have HL9 := Lib.hid hl9
    clear hb9 hl9
    try rw [hW9]
    clear hW9 q0 q1 q2 q3 f0 f1 f2 f3 c0 c1 c2 c3
    refine bodyPost_ret (v := .tuple #[.agg ZR.toArray, .bool false]) (by first | (simp [results, Try.results42, go_sem, p0, p1, p2, p3]; done) | (simp [results, Try.results42, go_sem, p0, p1, p2, p3]; rfl)) rfl ?_
    rw [HF.out]
    exact ⟨none, 0, rfl, HL9.out, FRow.nil _ _⟩
  have hgo := Rgo.out rfl h1 h2 h3
  obtain ⟨_, s1, s2, s3, s4, hl1, hl2⟩ := Rt.out rfl
  clear Rno Rout Rgo Rt
  obtain ⟨f', hfe⟩ : ∃ k : Nat, f = (k : Int) := ⟨f.toNat, by omega⟩
  obtain ⟨t', hte⟩ : ∃ k : Nat, t = (k : Int) := ⟨t.toNat, by omega⟩
  subst hfe hte
  rw [Int.toNat_natCast, Int.toNat_natCast] at hgo
  obtain ⟨b, o, ha⟩ : ∃ b o, a = some ⟨b, o, none⟩ := by rcases H.out with h9 | ⟨b', o', e1, _, _⟩; exact absurd h9 (by intro h8; rw [h8] at hl1; simp at hl1); exact ⟨b', o', e1⟩
  subst ha
  have hy : ((zs.take t').drop f').length = t' - f' := by rw [List.length_drop, List.length_take]; omega
  have hm0 : 0 ≤ (f' : Int) * sp := Int.mul_nonneg (by omega) (by omega)
  have hm1 : (f' : Int) * sp ≤ 128 * 65535 := Int.mul_le_mul (by omega) s4 (by omega) (by omega)
  have hw1 : IntKind.i64.wrap ((f' : Int) * sp) = (f' : Int) * sp := IntWalk.i64_in _ (by omega)
  have hw2 : IntKind.i64.wrap (st + (f' : Int) * sp) = st + (f' : Int) * sp := IntWalk.i64_in _ (by omega)
  have HC : Hid (∀ W, Below w.heap.size w W → Calls Try.prog 80 #[.slice (some ⟨b, o + f', none⟩) (t' - f') (cap - f')] W fun e w' => ∃ g c, e = .returned (.slice (some ⟨g, 0, none⟩) (t' - f') c) ∧ RowO w' W.heap.size (.slice (some ⟨g, 0, none⟩) (t' - f') c) ((zs.take t').drop f') ∧ Below W.heap.size W w') := Lib.hid fun W hW => by
    have h9 := clone_f (some ⟨b, o + f', none⟩) (cap - f') ((zs.take t').drop f') W (RowF.drop8 (RowF.take8 (H.out.below hW (Nat.le_refl _)) (by omega)) (by rw [List.length_take]; omega)) (by omega) (by omega)
    rw [hy] at h9
    exact h9
  generalize (zs.take t').drop f' = ys at *
  obtain ⟨s', hse⟩ : ∃ s, st + (f' : Int) * sp = s := ⟨_, rfl⟩
  rw [hse] at hgo
  have hw3 : IntKind.i64.wrap (st + (f' : Int) * sp) = s' := by rw [hw2, hse]
  clear hw2
  have n1 : ¬ (f' : Int) < 0 := by omega
  have n2 : ¬ (t' : Int) ≤ (f' : Int) := by omega
  have n3 : ¬ (t' : Int) > (zs.length : Int) := by omega
  have n4 : (f' : Int) ≤ (t' : Int) := by omega
  have n5 : (t' : Int) ≤ (cap : Int) := by omega
  have n6 : ¬ cap = f' := by omega
  have n7 : (0 : Int) ≤ (f' : Int) := by omega
  have hyl : t' - f' ≤ 1048576 := by omega
  have HM := Lib.hid (fun g c W => madeRecord_any nm s' sp (some ⟨g, 0, none⟩) (t' - f') c W hs hyl)
  have HY := Lib.hid hy
  have HGo := Lib.hid hgo
  clear hy hgo hse
  cases hok : recB nm s' sp (t' - f')
  · have hR : R = failR := by rw [HGo.out]; first | exact giveR_n (by rw [HY.out]; exact hok) | exact giveR_y (by rw [HY.out]; exact hok)
    have HR := Lib.hid hR
    have HOk := Lib.hid hok
    clear hR hok
    have HN : Hid (∀ (g c : Nat) (W : World), Calls Try.prog 84 #[.agg #[.string nm, .int .i64 s', .int .i64 sp, .slice (some ⟨g, 0, none⟩) (t' - f') c]] W fun e w' => e = .returned (.tuple #[.agg #[.string ⟨#[]⟩, .int .i64 0, .int .i64 0, .slice none 0 0], .bool false]) ∧ Below W.heap.size W w') := Lib.hid fun g c W => (HM.out g c W).mono fun e w' ⟨ok, k1, k2, k3⟩ => by
      obtain rfl : ok = false := k1.symm.trans HOk.out
      exact ⟨k2, k3⟩
    go_enter Try.func42, Try.ntmps42
    go_wp2_with fail
    refine (HV.out _).mono ?_
    rintro e w3 ⟨bb, hbb, rfl, hb⟩
    subst hbb
    have hx := ((BoxH.new w nm st sp (.slice (some ⟨b, o, none⟩) zs.length cap) 49).alloc (.cells ZR.toArray 49)).below hb (by first | (simp; done) | (simp; omega) | omega)
    have hp : Bw w3 (w.heap.size + 1) ZR := Bw.below (by have h9 := Bw.new (w.alloc (.cells #[.string nm, .int .i64 st, .int .i64 sp, .slice (some ⟨b, o, none⟩) zs.length cap] 49)) ZR 49; rw [show (w.alloc (.cells #[.string nm, .int .i64 st, .int .i64 sp, .slice (some ⟨b, o, none⟩) zs.length cap] 49)).heap.size = w.heap.size + 1 by simp] at h9; exact h9) hb (by first | (simp; done) | (simp; omega) | omega)
    have HP := Lib.hid hp
    have HX := Lib.hid hx
    have HB := Lib.hid ((below2 _ _ _).trans (hb.mono (by first | (simp; done) | (simp; omega) | omega)) : Below w.heap.size w w3)
    have HS3 : Hid (w.heap.size + 2 ≤ w3.heap.size) := Lib.hid (by have := hb.size; simp at this; omega)
    obtain ⟨c0, c1, c2, c3, _⟩ := hx
    clear hb hp
    have K0 : Hid (Below (w.heap.size + 2) w3 w3) := Lib.hid (Below.refl _ _)
    have HKeep : Hid (∀ W, Below (w.heap.size + 2) w3 W → (W.cell? ⟨w.heap.size, 0, none⟩ = some (.string nm) ∧ W.cell? ⟨w.heap.size, 1, none⟩ = some (.int .i64 st) ∧ W.cell? ⟨w.heap.size, 2, none⟩ = some (.int .i64 sp) ∧ W.cell? ⟨w.heap.size, 3, none⟩ = some (.slice (some ⟨b, o, none⟩) zs.length cap))) := Lib.hid fun W hW => ⟨(hW.cell (p := ⟨w.heap.size, 0, none⟩) (by show w.heap.size < w.heap.size + 2; omega)).trans HX.out.c0, (hW.cell (p := ⟨w.heap.size, 1, none⟩) (by show w.heap.size < w.heap.size + 2; omega)).trans HX.out.c1, (hW.cell (p := ⟨w.heap.size, 2, none⟩) (by show w.heap.size < w.heap.size + 2; omega)).trans HX.out.c2, (hW.cell (p := ⟨w.heap.size, 3, none⟩) (by show w.heap.size < w.heap.size + 2; omega)).trans HX.out.c3⟩
    skip
    go_wp2_with fail
    go_region_held3 (fun W => W.cell? ⟨w.heap.size, 0, none⟩ = some (.string nm) ∧ W.cell? ⟨w.heap.size, 1, none⟩ = some (.int .i64 st) ∧ W.cell? ⟨w.heap.size, 2, none⟩ = some (.int .i64 sp) ∧ W.cell? ⟨w.heap.size, 3, none⟩ = some (.slice (some ⟨b, o, none⟩) zs.length cap))
      (first | with_reducible exact HKeep.out _ K2.out | with_reducible exact HKeep.out _ K2.out.drew | with_reducible exact HKeep.out _ K1.out | with_reducible exact HKeep.out _ K1.out.drew | with_reducible exact HKeep.out _ K0.out | with_reducible exact HKeep.out _ K0.out.drew | (obtain ⟨k0, k1, k2, k3⟩ := HKeep.out _ K2.out; exact ⟨by simp [go_sem, k0], by simp [go_sem, k1], by simp [go_sem, k2], by simp [go_sem, k3]⟩))
      (first | (go_at_call 80; refine (HC.out _ (by first | with_reducible exact HB.out | with_reducible exact HB.out.drew)).mono ?_; rintro e w4 ⟨gg, gd, rfl, hrow, hb⟩; have K1 := Lib.hid (kstep9 (by first | with_reducible exact K0.out | with_reducible exact K0.out.drew) HS3.out hb); have HS4 : Hid (w.heap.size + 2 ≤ w4.heap.size) := Lib.hid (Nat.le_trans HS3.out K1.out.size); have HRow : Hid (RowO w4 (w.heap.size + 2) (.slice (some ⟨gg, 0, none⟩) (t' - f') gd) ys) := Lib.hid (owns_lo9 hrow (Nat.le_trans HS3.out (Below.size (by first | with_reducible exact K0.out | with_reducible exact K0.out.drew)))); clear hrow hb) | (go_at_call 84; refine (HN.out _ _ _).mono ?_; rintro e w5 ⟨rfl, hb⟩; have K2 := Lib.hid (K1.out.trans (hb.mono HS4.out)); have HRow5 := Lib.hid (HRow.out.below hb (Nat.le_refl _)); have hp := HP.out.below K2.out (by show w.heap.size + 1 < w.heap.size + 2; omega); have q0 := hp.c 0 rfl; have q1 := hp.c 1 rfl; have q2 := hp.c 2 rfl; have q3 := hp.c 3 rfl; have f0 := hp.f 0 (by decide); have f1 := hp.f 1 (by decide); have f2 := hp.f 2 (by decide); have f3 := hp.f 3 (by decide); have HP5 := Lib.hid hp; clear hp hb) | fail)
    go_wp2_with fail
    have hbl : Below w.heap.size w w5 := HB.out.trans (K2.out.mono (Nat.le_add_right _ _))
    have HBL := Lib.hid hbl
    clear hbl
    obtain ⟨W9, hW9⟩ : ∃ W, ((((w5.setCell ⟨w.heap.size + 1, 0, none⟩ (.string ⟨#[]⟩)).setCell ⟨w.heap.size + 1, 1, none⟩ (.int .i64 0)).setCell ⟨w.heap.size + 1, 2, none⟩ (.int .i64 0)).setCell ⟨w.heap.size + 1, 3, none⟩ (.slice none 0 0)) = W := ⟨_, rfl⟩
    have hb9 := Bx.four (HP5.out).1 (.string ⟨#[]⟩) (.int .i64 0) (.int .i64 0) (.slice none 0 0)
    have hl9 : Below w.heap.size w ((((w5.setCell ⟨w.heap.size + 1, 0, none⟩ (.string ⟨#[]⟩)).setCell ⟨w.heap.size + 1, 1, none⟩ (.int .i64 0)).setCell ⟨w.heap.size + 1, 2, none⟩ (.int .i64 0)).setCell ⟨w.heap.size + 1, 3, none⟩ (.slice none 0 0)) := ((((HBL.out).setCell (by first | (simp; done) | (simp; omega) | omega) _).setCell (by first | (simp; done) | (simp; omega) | omega) _).setCell (by first | (simp; done) | (simp; omega) | omega) _).setCell (by first | (simp; done) | (simp; omega) | omega) _
    rw [hW9] at hb9 hl9
    have p0 := hb9.c 0 rfl
    have p1 := hb9.c 1 rfl
    have p2 := hb9.c 2 rfl
    have p3 := hb9.c 3 rfl
    have HL9 := Lib.hid hl9
    clear hb9 hl9
    try rw [hW9]
    clear hW9 q0 q1 q2 q3 f0 f1 f2 f3
    refine bodyPost_ret (v := .tuple #[.agg ZR.toArray, .bool false]) (by first | (simp [results, Try.results42, go_sem, p0, p1, p2, p3]; done) | (simp [results, Try.results42, go_sem, p0, p1, p2, p3]; rfl)) rfl ?_
    rw [HR.out]
    exact ⟨none, 0, rfl, HL9.out, FRow.nil _ _⟩
  · have hR : R = ⟨nm, s', sp, ys, true⟩ := by rw [HGo.out]; first | exact giveR_n (by rw [HY.out]; exact hok) | exact giveR_y (by rw [HY.out]; exact hok)
    have HR := Lib.hid hR
    have HOk := Lib.hid hok
    clear hR hok
    have HN : Hid (∀ (g c : Nat) (W : World), Calls Try.prog 84 #[.agg #[.string nm, .int .i64 s', .int .i64 sp, .slice (some ⟨g, 0, none⟩) (t' - f') c]] W fun e w' => e = .returned (.tuple #[.agg #[.string nm, .int .i64 s', .int .i64 sp, .slice (some ⟨g, 0, none⟩) (t' - f') c], .bool true]) ∧ Below W.heap.size W w') := Lib.hid fun g c W => (HM.out g c W).mono fun e w' ⟨ok, k1, k2, k3⟩ => by
      obtain rfl : ok = true := k1.symm.trans HOk.out
      exact ⟨k2, k3⟩
    go_enter Try.func42, Try.ntmps42
    go_wp2_with fail
    refine (HV.out _).mono ?_
    rintro e w3 ⟨bb, hbb, rfl, hb⟩
    subst hbb
    have hx := ((BoxH.new w nm st sp (.slice (some ⟨b, o, none⟩) zs.length cap) 49).alloc (.cells ZR.toArray 49)).below hb (by first | (simp; done) | (simp; omega) | omega)
    have hp : Bw w3 (w.heap.size + 1) ZR := Bw.below (by have h9 := Bw.new (w.alloc (.cells #[.string nm, .int .i64 st, .int .i64 sp, .slice (some ⟨b, o, none⟩) zs.length cap] 49)) ZR 49; rw [show (w.alloc (.cells #[.string nm, .int .i64 st, .int .i64 sp, .slice (some ⟨b, o, none⟩) zs.length cap] 49)).heap.size = w.heap.size + 1 by simp] at h9; exact h9) hb (by first | (simp; done) | (simp; omega) | omega)
    have HP := Lib.hid hp
    have HX := Lib.hid hx
    have HB := Lib.hid ((below2 _ _ _).trans (hb.mono (by first | (simp; done) | (simp; omega) | omega)) : Below w.heap.size w w3)
    have HS3 : Hid (w.heap.size + 2 ≤ w3.heap.size) := Lib.hid (by have := hb.size; simp at this; omega)
    obtain ⟨c0, c1, c2, c3, _⟩ := hx
    clear hb hp
    have K0 : Hid (Below (w.heap.size + 2) w3 w3) := Lib.hid (Below.refl _ _)
    have HKeep : Hid (∀ W, Below (w.heap.size + 2) w3 W → (W.cell? ⟨w.heap.size, 0, none⟩ = some (.string nm) ∧ W.cell? ⟨w.heap.size, 1, none⟩ = some (.int .i64 st) ∧ W.cell? ⟨w.heap.size, 2, none⟩ = some (.int .i64 sp) ∧ W.cell? ⟨w.heap.size, 3, none⟩ = some (.slice (some ⟨b, o, none⟩) zs.length cap))) := Lib.hid fun W hW => ⟨(hW.cell (p := ⟨w.heap.size, 0, none⟩) (by show w.heap.size < w.heap.size + 2; omega)).trans HX.out.c0, (hW.cell (p := ⟨w.heap.size, 1, none⟩) (by show w.heap.size < w.heap.size + 2; omega)).trans HX.out.c1, (hW.cell (p := ⟨w.heap.size, 2, none⟩) (by show w.heap.size < w.heap.size + 2; omega)).trans HX.out.c2, (hW.cell (p := ⟨w.heap.size, 3, none⟩) (by show w.heap.size < w.heap.size + 2; omega)).trans HX.out.c3⟩
    skip
    go_wp2_with fail
    go_region_held3 (fun W => W.cell? ⟨w.heap.size, 0, none⟩ = some (.string nm) ∧ W.cell? ⟨w.heap.size, 1, none⟩ = some (.int .i64 st) ∧ W.cell? ⟨w.heap.size, 2, none⟩ = some (.int .i64 sp) ∧ W.cell? ⟨w.heap.size, 3, none⟩ = some (.slice (some ⟨b, o, none⟩) zs.length cap))
      (first | with_reducible exact HKeep.out _ K2.out | with_reducible exact HKeep.out _ K2.out.drew | with_reducible exact HKeep.out _ K1.out | with_reducible exact HKeep.out _ K1.out.drew | with_reducible exact HKeep.out _ K0.out | with_reducible exact HKeep.out _ K0.out.drew | (obtain ⟨k0, k1, k2, k3⟩ := HKeep.out _ K2.out; exact ⟨by simp [go_sem, k0], by simp [go_sem, k1], by simp [go_sem, k2], by simp [go_sem, k3]⟩))
      (first | (go_at_call 80; refine (HC.out _ (by first | with_reducible exact HB.out | with_reducible exact HB.out.drew)).mono ?_; rintro e w4 ⟨gg, gd, rfl, hrow, hb⟩; have K1 := Lib.hid (kstep9 (by first | with_reducible exact K0.out | with_reducible exact K0.out.drew) HS3.out hb); have HS4 : Hid (w.heap.size + 2 ≤ w4.heap.size) := Lib.hid (Nat.le_trans HS3.out K1.out.size); have HRow : Hid (RowO w4 (w.heap.size + 2) (.slice (some ⟨gg, 0, none⟩) (t' - f') gd) ys) := Lib.hid (owns_lo9 hrow (Nat.le_trans HS3.out (Below.size (by first | with_reducible exact K0.out | with_reducible exact K0.out.drew)))); clear hrow hb) | (go_at_call 84; refine (HN.out _ _ _).mono ?_; rintro e w5 ⟨rfl, hb⟩; have K2 := Lib.hid (K1.out.trans (hb.mono HS4.out)); have HRow5 := Lib.hid (HRow.out.below hb (Nat.le_refl _)); have hp := HP.out.below K2.out (by show w.heap.size + 1 < w.heap.size + 2; omega); have q0 := hp.c 0 rfl; have q1 := hp.c 1 rfl; have q2 := hp.c 2 rfl; have q3 := hp.c 3 rfl; have f0 := hp.f 0 (by decide); have f1 := hp.f 1 (by decide); have f2 := hp.f 2 (by decide); have f3 := hp.f 3 (by decide); have HP5 := Lib.hid hp; clear hp hb) | fail)
    go_wp2_with fail
    have hbl : Below w.heap.size w w5 := HB.out.trans (K2.out.mono (Nat.le_add_right _ _))
    have HBL := Lib.hid hbl
    clear hbl
    have hr5 : RowO w5 (w.heap.size + 2) (.slice (some ⟨gg, 0, none⟩) ys.length gd) ys := by rw [HY.out]; exact HRow5.out
    have h6 : RowO ((((w5.setCell ⟨w.heap.size + 1, 0, none⟩ (.string nm)).setCell ⟨w.heap.size + 1, 1, none⟩ (.int .i64 s')).setCell ⟨w.heap.size + 1, 2, none⟩ (.int .i64 sp)).setCell ⟨w.heap.size + 1, 3, none⟩ (.slice (some ⟨gg, 0, none⟩) (t' - f') gd)) (w.heap.size + 2) (.slice (some ⟨gg, 0, none⟩) ys.length gd) ys := (((hr5.setFar (by intro h9; have := (HRow5.out.lo gg rfl).1; simp [Value.ownBlock] at h9; omega) _).setFar (by intro h9; have := (HRow5.out.lo gg rfl).1; simp [Value.ownBlock] at h9; omega) _).setFar (by intro h9; have := (HRow5.out.lo gg rfl).1; simp [Value.ownBlock] at h9; omega) _).setFar (by intro h9; have := (HRow5.out.lo gg rfl).1; simp [Value.ownBlock] at h9; omega) _
    have H6 := Lib.hid h6
    clear h6 hr5
    obtain ⟨W9, hW9⟩ : ∃ W, ((((w5.setCell ⟨w.heap.size + 1, 0, none⟩ (.string nm)).setCell ⟨w.heap.size + 1, 1, none⟩ (.int .i64 s')).setCell ⟨w.heap.size + 1, 2, none⟩ (.int .i64 sp)).setCell ⟨w.heap.size + 1, 3, none⟩ (.slice (some ⟨gg, 0, none⟩) (t' - f') gd)) = W := ⟨_, rfl⟩
    have hb9 := Bx.four (HP5.out).1 (.string nm) (.int .i64 s') (.int .i64 sp) (.slice (some ⟨gg, 0, none⟩) (t' - f') gd)
    have hl9 : Below w.heap.size w ((((w5.setCell ⟨w.heap.size + 1, 0, none⟩ (.string nm)).setCell ⟨w.heap.size + 1, 1, none⟩ (.int .i64 s')).setCell ⟨w.heap.size + 1, 2, none⟩ (.int .i64 sp)).setCell ⟨w.heap.size + 1, 3, none⟩ (.slice (some ⟨gg, 0, none⟩) (t' - f') gd)) := ((((HBL.out).setCell (by first | (simp; done) | (simp; omega) | omega) _).setCell (by first | (simp; done) | (simp; omega) | omega) _).setCell (by first | (simp; done) | (simp; omega) | omega) _).setCell (by first | (simp; done) | (simp; omega) | omega) _
    rw [hW9] at hb9 hl9
    have p0 := hb9.c 0 rfl
    have p1 := hb9.c 1 rfl
    have p2 := hb9.c 2 rfl
    have p3 := hb9.c 3 rfl
    have HL9 := Lib.hid hl9
    clear hb9 hl9
    rw [hW9] at H6
    try rw [hW9]
    clear hW9 q0 q1 q2 q3 f0 f1 f2 f3
    refine bodyPost_ret (v := .tuple #[.agg #[.string nm, .int .i64 s', .int .i64 sp, .slice (some ⟨gg, 0, none⟩) (t' - f') gd], .bool true]) (by first | (simp [results, Try.results42, go_sem, p0, p1, p2, p3]; done) | (simp [results, Try.results42, go_sem, p0, p1, p2, p3]; rfl)) rfl ?_
    rw [HR.out]
    exact ⟨some ⟨gg, 0, none⟩, gd, by rw [HY.out], HL9.out, (FRow.mk H6.out).mono (Nat.le_add_right _ _) (Nat.le_refl _) (Nat.le_refl _)⟩

end Go.Proofs.Ytdmcjloaommnpaa
