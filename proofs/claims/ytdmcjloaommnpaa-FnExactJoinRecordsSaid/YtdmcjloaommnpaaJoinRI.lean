/- Records joined: the program. -/
import Derived.Test.YtdmcjloaommnpaaCutRI
import Derived.Test.YtdmcjloaommnpaaCatF
import Derived.Deep.Cut
namespace Go.Proofs.Ytdmcjloaommnpaa
open Go.RowKit
set_option linter.unusedVariables false
set_option linter.unusedSimpArgs false
set_option maxRecDepth 100000
attribute [local irreducible] wpV wpList Code.wp

def resJoinRecords (nA : ByteArray) (stA spA : Int) (zA : List Nat) (nB : ByteArray) (stB spB : Int) (zB : List Nat) : RecR :=
  if (recB nA stA spA zA.length && recB nB stB spB zB.length) && ((nA.toList == nB.toList) && (decide (stB = stA + (zA.length : Int) * spA) && decide (spB = spA))) then giveR nA stA spA (zA ++ zB) else failR
theorem join_1 {nA nB : ByteArray} {stA spA stB spB : Int} {zA zB : List Nat} (h : recB nA stA spA zA.length = false) : resJoinRecords nA stA spA zA nB stB spB zB = failR := by unfold resJoinRecords; rw [h]; rfl
theorem join_2 {nA nB : ByteArray} {stA spA stB spB : Int} {zA zB : List Nat} (h : recB nB stB spB zB.length = false) : resJoinRecords nA stA spA zA nB stB spB zB = failR := by unfold resJoinRecords; rw [h, Bool.and_false]; rfl
theorem join_3 {nA nB : ByteArray} {stA spA stB spB : Int} {zA zB : List Nat} (h : ¬ ((nA.toList == nB.toList) = true ∧ stB = stA + (zA.length : Int) * spA ∧ spB = spA)) : resJoinRecords nA stA spA zA nB stB spB zB = failR := by
  unfold resJoinRecords
  rw [if_neg]
  intro hc
  simp only [Bool.and_eq_true, decide_eq_true_eq] at hc
  exact h ⟨hc.2.1, hc.2.2.1, hc.2.2.2⟩
theorem join_go {nA nB : ByteArray} {stA spA stB spB : Int} {zA zB : List Nat} (h0 : (nA.toList == nB.toList) = true) (h4 : spB = spA) (h1 : recB nA stA spA zA.length = true) (h2 : recB nB stB spB zB.length = true) (h3 : stB = stA + (zA.length : Int) * spA) : resJoinRecords nA stA spA zA nB stB spB zB = giveR nA stA spA (zA ++ zB) := by
  unfold resJoinRecords
  rw [h0, h1, h2, decide_eq_true h3, decide_eq_true h4]; rfl
theorem resJoinRecords_len (nA : ByteArray) (stA spA : Int) (zA : List Nat) (nB : ByteArray) (stB spB : Int) (zB : List Nat) : (resJoinRecords nA stA spA zA nB stB spB zB).zs.length ≤ 1048576 := by
  cases hA : recB nA stA spA zA.length
  · rw [join_1 hA]; exact Nat.zero_le _
  · cases hB : recB nB stB spB zB.length
    · rw [join_2 hB]; exact Nat.zero_le _
    · unfold resJoinRecords
      split
      · refine giveR_len _ _ _ _ ?_
        have a := (recB_true hA).2.2.2.2.2.2
        have b := (recB_true hB).2.2.2.2.2.2
        rw [List.length_append]; omega
      · exact Nat.zero_le _
set_option maxHeartbeats 2000000 in
theorem timesOf_any (nm : ByteArray) (st sp : Int) (a : Option Addr) (n cap : Nat) (w : World) :
    Calls Try.prog 85 #[.agg #[.string nm, .int .i64 st, .int .i64 sp, .slice a n cap]] w fun e w' => e = .returned (.agg #[.int .i64 st, .int .i64 sp]) ∧ Below w.heap.size w w' := by
  go_enter Try.func85, Try.ntmps85
  go_wp2_with fail
  refine bodyPost_ret (v := .agg #[.int .i64 st, .int .i64 sp]) (by simp (maxDischargeDepth := 8) [results, Try.results85, go_sem]) rfl ⟨rfl, ?_⟩
  first | exact below2 _ _ _ | exact (((below2 _ _ _)).setCell (by first | (simp; done) | (simp; omega) | omega) _).setCell (by first | (simp; done) | (simp; omega) | omega) _

set_option maxHeartbeats 16000000 in
theorem joinRecords_impl (nA : ByteArray) (stA spA : Int) (aA : Option Addr) (cA : Nat) (zA : List Nat) (nB : ByteArray) (stB spB : Int) (aB : Option Addr) (cB : Nat) (zB : List Nat) (w : World) (hA : RowF .f32 w aA zA) (hlA : zA.length ≤ 1048576) (hzA : ∀ z ∈ zA, z < 4294967296) (hsA : nA.size ≤ 1048576) (hB : RowF .f32 w aB zB) (hlB : zB.length ≤ 1048576) (hzB : ∀ z ∈ zB, z < 4294967296) (hsB : nB.size ≤ 1048576) : Calls Try.prog 46 #[.agg #[.string nA, .int .i64 stA, .int .i64 spA, .slice aA zA.length cA], .agg #[.string nB, .int .i64 stB, .int .i64 spB, .slice aB zB.length cB]] w (RetHB (resJoinRecords nA stA spA zA nB stB spB zB).nm (resJoinRecords nA stA spA zA nB stB spB zB).wide (resJoinRecords nA stA spA zA nB stB spB zB).high (resJoinRecords nA stA spA zA nB stB spB zB).zs (resJoinRecords nA stA spA zA nB stB spB zB).ok w) := by
  have J1 := Lib.hid (@join_1 nA nB stA spA stB spB zA zB)
  have J2 := Lib.hid (@join_2 nA nB stA spA stB spB zA zB)
  have J3 := Lib.hid (@join_3 nA nB stA spA stB spB zA zB)
  have JG : Hid ((nA.toList == nB.toList) = true → spB = spA → recB nA stA spA zA.length = true → recB nB stB spB zB.length = true → stB = stA + (zA.length : Int) * spA → resJoinRecords nA stA spA zA nB stB spB zB = giveR nA stA spA (zA ++ zB)) := Lib.hid fun e1 e2 h1 h2 h3 => join_go e1 e2 h1 h2 h3
  generalize resJoinRecords nA stA spA zA nB stB spB zB = R at *
  have HA := Lib.hid hA
  have HBr := Lib.hid hB
  clear hA hB hzA hzB
  have VA : Hid (∀ W, Calls Try.prog 39 #[.agg #[.string nA, .int .i64 stA, .int .i64 spA, .slice aA zA.length cA]] W (SayB (recB nA stA spA zA.length) W)) := Lib.hid fun W => validRec_i nA stA spA aA zA.length cA W hsA hlA
  have VB : Hid (∀ W, Calls Try.prog 39 #[.agg #[.string nB, .int .i64 stB, .int .i64 spB, .slice aB zB.length cB]] W (SayB (recB nB stB spB zB.length) W)) := Lib.hid fun W => validRec_i nB stB spB aB zB.length cB W hsB hlB
  have TA := Lib.hid (@recB_true nA stA spA zA.length)
  have TB := Lib.hid (@recB_true nB stB spB zB.length)
  generalize hra : recB nA stA spA zA.length = ra at *
  generalize hrb : recB nB stB spB zB.length = rb at *
  have Hra := Lib.hid hra
  have Hrb := Lib.hid hrb
  clear hra hrb
  obtain ⟨w2, hw2⟩ : ∃ W, (((w.alloc (.cells #[.string nA, .int .i64 stA, .int .i64 spA, .slice aA zA.length cA] 49)).alloc (.cells #[.string nB, .int .i64 stB, .int .i64 spB, .slice aB zB.length cB] 49)).alloc (.cells #[.string ⟨#[]⟩, .int .i64 0, .int .i64 0, .slice none 0 0] 49)) = W := ⟨_, rfl⟩
  have HXA : Hid (BoxH w2 w.heap.size nA stA spA (.slice aA zA.length cA)) := Lib.hid (by rw [← hw2]; exact ((BoxH.new w nA stA spA (.slice aA zA.length cA) 49).alloc _).alloc _)
  have HXB : Hid (BoxH w2 (w.heap.size + 1) nB stB spB (.slice aB zB.length cB)) := Lib.hid (by rw [← hw2]; exact (BoxH.at (w.alloc _) (w.heap.size + 1) (by simp) nB stB spB (.slice aB zB.length cB) 49).alloc _)
  have HP2 : Hid (Bw w2 (w.heap.size + 2) ZR) := Lib.hid (by rw [← hw2]; have h9 := Bw.new ((w.alloc (.cells #[.string nA, .int .i64 stA, .int .i64 spA, .slice aA zA.length cA] 49)).alloc (.cells #[.string nB, .int .i64 stB, .int .i64 spB, .slice aB zB.length cB] 49)) ZR 49; rw [show ((w.alloc (.cells #[.string nA, .int .i64 stA, .int .i64 spA, .slice aA zA.length cA] 49)).alloc (.cells #[.string nB, .int .i64 stB, .int .i64 spB, .slice aB zB.length cB] 49)).heap.size = w.heap.size + 2 by simp] at h9; exact h9)
  have HB : Hid (Below w.heap.size w w2) := Lib.hid (by rw [← hw2]; exact below3 _ _ _ _)
  have HS2 : Hid (w2.heap.size = w.heap.size + 3) := Lib.hid (by rw [← hw2]; simp)
  have K2 : Hid (Below (w.heap.size + 3) w2 w2) := Lib.hid (Below.refl _ _)
  have c := HXA.out
  obtain ⟨xa0, xa1, xa2, xa3, _⟩ := c
  go_enter Try.func46, Try.ntmps46
  go_wp2_with fail
  (try rw [hw2])
  refine (VA.out _).mono ?_
  rintro e w3 ⟨bb, hbb, rfl, hb⟩
  subst hbb
  clear hw2 xa0 xa1 xa2 xa3
  have K3 := Lib.hid (kstep9 K2.out (Nat.le_of_eq HS2.out.symm) hb)
  obtain ⟨xa0, xa1, xa2, xa3, _⟩ := HXA.out.below K3.out (by omega)
  obtain ⟨xb0, xb1, xb2, xb3, _⟩ := HXB.out.below K3.out (by omega)
  have hp := HP2.out.below K3.out (by show w.heap.size + 2 < w.heap.size + 3; omega)
  have q0 := hp.c 0 rfl
  have q1 := hp.c 1 rfl
  have q2 := hp.c 2 rfl
  have q3 := hp.c 3 rfl
  have f0 := hp.f 0 (by decide)
  have f1 := hp.f 1 (by decide)
  have f2 := hp.f 2 (by decide)
  have f3 := hp.f 3 (by decide)
  have HP13 := Lib.hid hp
  have HB3 := Lib.hid (HB.out.trans (K3.out.mono (by omega)) : Below w.heap.size w w3)
  clear hp
  clear hb
  cases ra
  · have HF := Lib.hid (J1.out (by first | rfl | trivial))
    go_wp2_with fail
    obtain ⟨W9, hW9⟩ : ∃ W, ((((w3.setCell ⟨w.heap.size + 2, 0, none⟩ (.string ⟨#[]⟩)).setCell ⟨w.heap.size + 2, 1, none⟩ (.int .i64 0)).setCell ⟨w.heap.size + 2, 2, none⟩ (.int .i64 0)).setCell ⟨w.heap.size + 2, 3, none⟩ (.slice none 0 0)) = W := ⟨_, rfl⟩
    have hb9 := Bx.four (HP13.out).1 (.string ⟨#[]⟩) (.int .i64 0) (.int .i64 0) (.slice none 0 0)
    have hl9 : Below w.heap.size w ((((w3.setCell ⟨w.heap.size + 2, 0, none⟩ (.string ⟨#[]⟩)).setCell ⟨w.heap.size + 2, 1, none⟩ (.int .i64 0)).setCell ⟨w.heap.size + 2, 2, none⟩ (.int .i64 0)).setCell ⟨w.heap.size + 2, 3, none⟩ (.slice none 0 0)) := ((((HB3.out).setCell (by first | (simp; done) | (simp; omega) | omega) _).setCell (by first | (simp; done) | (simp; omega) | omega) _).setCell (by first | (simp; done) | (simp; omega) | omega) _).setCell (by first | (simp; done) | (simp; omega) | omega) _
    rw [hW9] at hb9 hl9
    have p0 := hb9.c 0 rfl
    have p1 := hb9.c 1 rfl
    have p2 := hb9.c 2 rfl
    have p3 := hb9.c 3 rfl
    have HL9 := Lib.hid hl9
    clear hb9 hl9
    try rw [hW9]
    clear hW9
    clear xa0 xa1 xa2 xa3 xb0 xb1 xb2 xb3 q0 q1 q2 q3 f0 f1 f2 f3
    refine bodyPost_ret (v := .tuple #[.agg ZR.toArray, .bool false]) (by first | (simp [results, Try.results46, go_sem, p0, p1, p2, p3]; done) | (simp [results, Try.results46, go_sem, p0, p1, p2, p3]; rfl)) rfl ?_
    rw [HF.out]
    exact ⟨none, 0, rfl, HL9.out, FRow.nil _ _⟩
  go_wp2_with fail
  refine (VB.out _).mono ?_
  rintro e w4 ⟨bb, hbb, rfl, hb⟩
  subst hbb
  clear xa0 xa1 xa2 xa3 xb0 xb1 xb2 xb3 q0 q1 q2 q3 f0 f1 f2 f3
  have K4 := Lib.hid (kstep9 K3.out (Nat.le_of_eq HS2.out.symm) hb)
  obtain ⟨xa0, xa1, xa2, xa3, _⟩ := HXA.out.below K4.out (by omega)
  obtain ⟨xb0, xb1, xb2, xb3, _⟩ := HXB.out.below K4.out (by omega)
  have hp := HP2.out.below K4.out (by show w.heap.size + 2 < w.heap.size + 3; omega)
  have q0 := hp.c 0 rfl
  have q1 := hp.c 1 rfl
  have q2 := hp.c 2 rfl
  have q3 := hp.c 3 rfl
  have f0 := hp.f 0 (by decide)
  have f1 := hp.f 1 (by decide)
  have f2 := hp.f 2 (by decide)
  have f3 := hp.f 3 (by decide)
  have HP14 := Lib.hid hp
  have HB4 := Lib.hid (HB.out.trans (K4.out.mono (by omega)) : Below w.heap.size w w4)
  clear hp
  clear hb
  cases rb
  · have HF := Lib.hid (J2.out (by first | rfl | trivial))
    go_wp2_with fail
    obtain ⟨W9, hW9⟩ : ∃ W, ((((w4.setCell ⟨w.heap.size + 2, 0, none⟩ (.string ⟨#[]⟩)).setCell ⟨w.heap.size + 2, 1, none⟩ (.int .i64 0)).setCell ⟨w.heap.size + 2, 2, none⟩ (.int .i64 0)).setCell ⟨w.heap.size + 2, 3, none⟩ (.slice none 0 0)) = W := ⟨_, rfl⟩
    have hb9 := Bx.four (HP14.out).1 (.string ⟨#[]⟩) (.int .i64 0) (.int .i64 0) (.slice none 0 0)
    have hl9 : Below w.heap.size w ((((w4.setCell ⟨w.heap.size + 2, 0, none⟩ (.string ⟨#[]⟩)).setCell ⟨w.heap.size + 2, 1, none⟩ (.int .i64 0)).setCell ⟨w.heap.size + 2, 2, none⟩ (.int .i64 0)).setCell ⟨w.heap.size + 2, 3, none⟩ (.slice none 0 0)) := ((((HB4.out).setCell (by first | (simp; done) | (simp; omega) | omega) _).setCell (by first | (simp; done) | (simp; omega) | omega) _).setCell (by first | (simp; done) | (simp; omega) | omega) _).setCell (by first | (simp; done) | (simp; omega) | omega) _
    rw [hW9] at hb9 hl9
    have p0 := hb9.c 0 rfl
    have p1 := hb9.c 1 rfl
    have p2 := hb9.c 2 rfl
    have p3 := hb9.c 3 rfl
    have HL9 := Lib.hid hl9
    clear hb9 hl9
    try rw [hW9]
    clear hW9
    clear xa0 xa1 xa2 xa3 xb0 xb1 xb2 xb3 q0 q1 q2 q3 f0 f1 f2 f3
    refine bodyPost_ret (v := .tuple #[.agg ZR.toArray, .bool false]) (by first | (simp [results, Try.results46, go_sem, p0, p1, p2, p3]; done) | (simp [results, Try.results46, go_sem, p0, p1, p2, p3]; rfl)) rfl ?_
    rw [HF.out]
    exact ⟨none, 0, rfl, HL9.out, FRow.nil _ _⟩
  cases hnm : (nA.toList == nB.toList)
  · have Hnm := Lib.hid hnm
    have HF := Lib.hid (J3.out (fun hc => by rw [Hnm.out] at hc; exact absurd hc.1 (by decide)))
    go_wp2_with fail
    obtain ⟨W9, hW9⟩ : ∃ W, ((((w4.setCell ⟨w.heap.size + 2, 0, none⟩ (.string ⟨#[]⟩)).setCell ⟨w.heap.size + 2, 1, none⟩ (.int .i64 0)).setCell ⟨w.heap.size + 2, 2, none⟩ (.int .i64 0)).setCell ⟨w.heap.size + 2, 3, none⟩ (.slice none 0 0)) = W := ⟨_, rfl⟩
    have hb9 := Bx.four (HP14.out).1 (.string ⟨#[]⟩) (.int .i64 0) (.int .i64 0) (.slice none 0 0)
    have hl9 : Below w.heap.size w ((((w4.setCell ⟨w.heap.size + 2, 0, none⟩ (.string ⟨#[]⟩)).setCell ⟨w.heap.size + 2, 1, none⟩ (.int .i64 0)).setCell ⟨w.heap.size + 2, 2, none⟩ (.int .i64 0)).setCell ⟨w.heap.size + 2, 3, none⟩ (.slice none 0 0)) := ((((HB4.out).setCell (by first | (simp; done) | (simp; omega) | omega) _).setCell (by first | (simp; done) | (simp; omega) | omega) _).setCell (by first | (simp; done) | (simp; omega) | omega) _).setCell (by first | (simp; done) | (simp; omega) | omega) _
    rw [hW9] at hb9 hl9
    have p0 := hb9.c 0 rfl
    have p1 := hb9.c 1 rfl
    have p2 := hb9.c 2 rfl
    have p3 := hb9.c 3 rfl
    have HL9 := Lib.hid hl9
    clear hb9 hl9
    try rw [hW9]
    clear hW9
    clear xa0 xa1 xa2 xa3 xb0 xb1 xb2 xb3 q0 q1 q2 q3 f0 f1 f2 f3
    refine bodyPost_ret (v := .tuple #[.agg ZR.toArray, .bool false]) (by first | (simp [results, Try.results46, go_sem, p0, p1, p2, p3]; done) | (simp [results, Try.results46, go_sem, p0, p1, p2, p3]; rfl)) rfl ?_
    rw [HF.out]
    exact ⟨none, 0, rfl, HL9.out, FRow.nil _ _⟩
  obtain ⟨_, s1, s2, s3, s4, l1, l2⟩ := TA.out (by first | rfl | trivial)
  obtain ⟨_, r1, r2, r3, r4, m1, m2⟩ := TB.out (by first | rfl | trivial)
  clear TA TB
  have hm0 : 0 ≤ (zA.length : Int) * spA := Int.mul_nonneg (by omega) (by omega)
  have hm1 : (zA.length : Int) * spA ≤ 128 * 65535 := Int.mul_le_mul (by omega) s4 (by omega) (by omega)
  have hw1 : IntKind.i64.wrap ((zA.length : Int) * spA) = (zA.length : Int) * spA := IntWalk.i64_in _ (by omega)
  have hw0 : IntKind.i64.wrap (stA + (zA.length : Int) * spA) = stA + (zA.length : Int) * spA := IntWalk.i64_in _ (by omega)
  obtain ⟨E, hE⟩ : ∃ s, stA + (zA.length : Int) * spA = s := ⟨_, rfl⟩
  have hw3 : IntKind.i64.wrap (stA + (zA.length : Int) * spA) = E := by rw [hw0, hE]
  rw [hE] at JG J3
  clear hw0
  have HE := Lib.hid hE
  clear hE
  go_upto_region 4 with fail
  have Hnm := Lib.hid hnm
  clear hw1 hw3 hnm hm0 hm1
  have HKeep : Hid (∀ W, Below (w.heap.size + 3) w2 W → (W.cell? ⟨w.heap.size + 1, 0, none⟩ = some (.string nB) ∧ W.cell? ⟨w.heap.size + 1, 1, none⟩ = some (.int .i64 stB) ∧ W.cell? ⟨w.heap.size + 1, 2, none⟩ = some (.int .i64 spB) ∧ W.cell? ⟨w.heap.size + 1, 3, none⟩ = some (.slice aB zB.length cB) ∧ W.cell? ⟨w.heap.size, 2, none⟩ = some (.int .i64 spA))) := Lib.hid fun W hW => ⟨(HXB.out.below hW (by omega)).c0, (HXB.out.below hW (by omega)).c1, (HXB.out.below hW (by omega)).c2, (HXB.out.below hW (by omega)).c3, (HXA.out.below hW (by omega)).c2⟩
  have HT := Lib.hid (fun W => timesOf_any nB stB spB aB zB.length cB W)
  clear xa0 xa1 xa2 xa3 xb0 xb1 xb2 xb3 q0 q1 q2 q3 f0 f1 f2 f3
  by_cases hst : stB = E
  rotate_left
  · have hst2 : (stB == E) = false := beq_eq_false_iff_ne.2 hst
    obtain ⟨xa0, xa1, xa2, xa3, _⟩ := HXA.out.below K4.out (by omega)
    obtain ⟨xb0, xb1, xb2, xb3, _⟩ := HXB.out.below K4.out (by omega)
    go_region_held3 (fun W => W.cell? ⟨w.heap.size + 1, 0, none⟩ = some (.string nB) ∧ W.cell? ⟨w.heap.size + 1, 1, none⟩ = some (.int .i64 stB) ∧ W.cell? ⟨w.heap.size + 1, 2, none⟩ = some (.int .i64 spB) ∧ W.cell? ⟨w.heap.size + 1, 3, none⟩ = some (.slice aB zB.length cB) ∧ W.cell? ⟨w.heap.size, 2, none⟩ = some (.int .i64 spA))
      (first | with_reducible exact HKeep.out _ K5.out | with_reducible exact HKeep.out _ K5.out.drew | with_reducible exact HKeep.out _ K4.out | with_reducible exact HKeep.out _ K4.out.drew)
      (first | (go_at_call 85; refine (HT.out _).mono ?_; rintro e w5 ⟨rfl, hb⟩; have K5 := Lib.hid (kstep9 (by first | with_reducible exact K4.out | with_reducible exact K4.out.drew) (Nat.le_of_eq HS2.out.symm) hb); clear hb) | fail)
    clear xa0 xa1 xa2 xa3 xb0 xb1 xb2 xb3
    obtain ⟨xa0, xa1, xa2, xa3, _⟩ := HXA.out.below K5.out (by omega)
    obtain ⟨xb0, xb1, xb2, xb3, _⟩ := HXB.out.below K5.out (by omega)
    have hp := HP2.out.below K5.out (by show w.heap.size + 2 < w.heap.size + 3; omega)
    have q0 := hp.c 0 rfl
    have q1 := hp.c 1 rfl
    have q2 := hp.c 2 rfl
    have q3 := hp.c 3 rfl
    have f0 := hp.f 0 (by decide)
    have f1 := hp.f 1 (by decide)
    have f2 := hp.f 2 (by decide)
    have f3 := hp.f 3 (by decide)
    have HP15 := Lib.hid hp
    have HB5 := Lib.hid (HB.out.trans (K5.out.mono (by omega)) : Below w.heap.size w w5)
    clear hp
    have HF := Lib.hid (J3.out (fun hc => hst hc.2.1))
    go_wp2_with fail
    obtain ⟨W9, hW9⟩ : ∃ W, ((((w5.setCell ⟨w.heap.size + 2, 0, none⟩ (.string ⟨#[]⟩)).setCell ⟨w.heap.size + 2, 1, none⟩ (.int .i64 0)).setCell ⟨w.heap.size + 2, 2, none⟩ (.int .i64 0)).setCell ⟨w.heap.size + 2, 3, none⟩ (.slice none 0 0)) = W := ⟨_, rfl⟩
    have hb9 := Bx.four (HP15.out).1 (.string ⟨#[]⟩) (.int .i64 0) (.int .i64 0) (.slice none 0 0)
    have hl9 : Below w.heap.size w ((((w5.setCell ⟨w.heap.size + 2, 0, none⟩ (.string ⟨#[]⟩)).setCell ⟨w.heap.size + 2, 1, none⟩ (.int .i64 0)).setCell ⟨w.heap.size + 2, 2, none⟩ (.int .i64 0)).setCell ⟨w.heap.size + 2, 3, none⟩ (.slice none 0 0)) := ((((HB5.out).setCell (by first | (simp; done) | (simp; omega) | omega) _).setCell (by first | (simp; done) | (simp; omega) | omega) _).setCell (by first | (simp; done) | (simp; omega) | omega) _).setCell (by first | (simp; done) | (simp; omega) | omega) _
    rw [hW9] at hb9 hl9
    have p0 := hb9.c 0 rfl
    have p1 := hb9.c 1 rfl
    have p2 := hb9.c 2 rfl
    have p3 := hb9.c 3 rfl
    have HL9 := Lib.hid hl9
    clear hb9 hl9
    try rw [hW9]
    clear hW9
    clear xa0 xa1 xa2 xa3 xb0 xb1 xb2 xb3 q0 q1 q2 q3 f0 f1 f2 f3
    refine bodyPost_ret (v := .tuple #[.agg ZR.toArray, .bool false]) (by first | (simp [results, Try.results46, go_sem, p0, p1, p2, p3]; done) | (simp [results, Try.results46, go_sem, p0, p1, p2, p3]; rfl)) rfl ?_
    rw [HF.out]
    exact ⟨none, 0, rfl, HL9.out, FRow.nil _ _⟩
  by_cases hsp : spB = spA
  rotate_left
  · subst hst
    have hsp2 : (spB == spA) = false := beq_eq_false_iff_ne.2 hsp
    obtain ⟨xa0, xa1, xa2, xa3, _⟩ := HXA.out.below K4.out (by omega)
    obtain ⟨xb0, xb1, xb2, xb3, _⟩ := HXB.out.below K4.out (by omega)
    go_region_held3 (fun W => W.cell? ⟨w.heap.size + 1, 0, none⟩ = some (.string nB) ∧ W.cell? ⟨w.heap.size + 1, 1, none⟩ = some (.int .i64 stB) ∧ W.cell? ⟨w.heap.size + 1, 2, none⟩ = some (.int .i64 spB) ∧ W.cell? ⟨w.heap.size + 1, 3, none⟩ = some (.slice aB zB.length cB) ∧ W.cell? ⟨w.heap.size, 2, none⟩ = some (.int .i64 spA))
      (first | with_reducible exact HKeep.out _ K5.out | with_reducible exact HKeep.out _ K5.out.drew | with_reducible exact HKeep.out _ K4.out | with_reducible exact HKeep.out _ K4.out.drew)
      (first | (go_at_call 85; refine (HT.out _).mono ?_; rintro e w5 ⟨rfl, hb⟩; have K5 := Lib.hid (kstep9 (by first | with_reducible exact K4.out | with_reducible exact K4.out.drew) (Nat.le_of_eq HS2.out.symm) hb); clear hb) | fail)
    clear xa0 xa1 xa2 xa3 xb0 xb1 xb2 xb3
    obtain ⟨xa0, xa1, xa2, xa3, _⟩ := HXA.out.below K5.out (by omega)
    obtain ⟨xb0, xb1, xb2, xb3, _⟩ := HXB.out.below K5.out (by omega)
    have hp := HP2.out.below K5.out (by show w.heap.size + 2 < w.heap.size + 3; omega)
    have q0 := hp.c 0 rfl
    have q1 := hp.c 1 rfl
    have q2 := hp.c 2 rfl
    have q3 := hp.c 3 rfl
    have f0 := hp.f 0 (by decide)
    have f1 := hp.f 1 (by decide)
    have f2 := hp.f 2 (by decide)
    have f3 := hp.f 3 (by decide)
    have HP15 := Lib.hid hp
    have HB5 := Lib.hid (HB.out.trans (K5.out.mono (by omega)) : Below w.heap.size w w5)
    clear hp
    have HF := Lib.hid (J3.out (fun hc => hsp hc.2.2))
    go_wp2_with fail
    obtain ⟨W9, hW9⟩ : ∃ W, ((((w5.setCell ⟨w.heap.size + 2, 0, none⟩ (.string ⟨#[]⟩)).setCell ⟨w.heap.size + 2, 1, none⟩ (.int .i64 0)).setCell ⟨w.heap.size + 2, 2, none⟩ (.int .i64 0)).setCell ⟨w.heap.size + 2, 3, none⟩ (.slice none 0 0)) = W := ⟨_, rfl⟩
    have hb9 := Bx.four (HP15.out).1 (.string ⟨#[]⟩) (.int .i64 0) (.int .i64 0) (.slice none 0 0)
    have hl9 : Below w.heap.size w ((((w5.setCell ⟨w.heap.size + 2, 0, none⟩ (.string ⟨#[]⟩)).setCell ⟨w.heap.size + 2, 1, none⟩ (.int .i64 0)).setCell ⟨w.heap.size + 2, 2, none⟩ (.int .i64 0)).setCell ⟨w.heap.size + 2, 3, none⟩ (.slice none 0 0)) := ((((HB5.out).setCell (by first | (simp; done) | (simp; omega) | omega) _).setCell (by first | (simp; done) | (simp; omega) | omega) _).setCell (by first | (simp; done) | (simp; omega) | omega) _).setCell (by first | (simp; done) | (simp; omega) | omega) _
    rw [hW9] at hb9 hl9
    have p0 := hb9.c 0 rfl
    have p1 := hb9.c 1 rfl
    have p2 := hb9.c 2 rfl
    have p3 := hb9.c 3 rfl
    have HL9 := Lib.hid hl9
    clear hb9 hl9
    try rw [hW9]
    clear hW9
    clear xa0 xa1 xa2 xa3 xb0 xb1 xb2 xb3 q0 q1 q2 q3 f0 f1 f2 f3
    refine bodyPost_ret (v := .tuple #[.agg ZR.toArray, .bool false]) (by first | (simp [results, Try.results46, go_sem, p0, p1, p2, p3]; done) | (simp [results, Try.results46, go_sem, p0, p1, p2, p3]; rfl)) rfl ?_
    rw [HF.out]
    exact ⟨none, 0, rfl, HL9.out, FRow.nil _ _⟩
  have HJ := Lib.hid (JG.out (by first | exact Hnm.out | trivial) hsp (by first | rfl | trivial) (by first | rfl | trivial) hst)
  clear JG J1 J2 J3
  subst hst
  have hsp9 := hsp.symm
  subst hsp9
  obtain ⟨xa0, xa1, xa2, xa3, _⟩ := HXA.out.below K4.out (by omega)
  obtain ⟨xb0, xb1, xb2, xb3, _⟩ := HXB.out.below K4.out (by omega)
  go_region_held3 (fun W => W.cell? ⟨w.heap.size + 1, 0, none⟩ = some (.string nB) ∧ W.cell? ⟨w.heap.size + 1, 1, none⟩ = some (.int .i64 stB) ∧ W.cell? ⟨w.heap.size + 1, 2, none⟩ = some (.int .i64 spA) ∧ W.cell? ⟨w.heap.size + 1, 3, none⟩ = some (.slice aB zB.length cB) ∧ W.cell? ⟨w.heap.size, 2, none⟩ = some (.int .i64 spA))
    (first | with_reducible exact HKeep.out _ K5.out | with_reducible exact HKeep.out _ K5.out.drew | with_reducible exact HKeep.out _ K4.out | with_reducible exact HKeep.out _ K4.out.drew)
    (first | (go_at_call 85; refine (HT.out _).mono ?_; rintro e w5 ⟨rfl, hb⟩; have K5 := Lib.hid (kstep9 (by first | with_reducible exact K4.out | with_reducible exact K4.out.drew) (Nat.le_of_eq HS2.out.symm) hb); clear hb) | fail)
  clear xa0 xa1 xa2 xa3 xb0 xb1 xb2 xb3
  obtain ⟨xa0, xa1, xa2, xa3, _⟩ := HXA.out.below K5.out (by omega)
  obtain ⟨xb0, xb1, xb2, xb3, _⟩ := HXB.out.below K5.out (by omega)
  have hp := HP2.out.below K5.out (by show w.heap.size + 2 < w.heap.size + 3; omega)
  have q0 := hp.c 0 rfl
  have q1 := hp.c 1 rfl
  have q2 := hp.c 2 rfl
  have q3 := hp.c 3 rfl
  have f0 := hp.f 0 (by decide)
  have f1 := hp.f 1 (by decide)
  have f2 := hp.f 2 (by decide)
  have f3 := hp.f 3 (by decide)
  have HP15 := Lib.hid hp
  have HB5 := Lib.hid (HB.out.trans (K5.out.mono (by omega)) : Below w.heap.size w w5)
  clear hp
  clear HKeep
  go_upto_region 6 with fail
  clear xa0 xa1 xa2 xa3 xb0 xb1 xb2 xb3 q0 q1 q2 q3 f0 f1 f2 f3
  obtain ⟨bA, oA, hbA⟩ : ∃ b o, aA = some ⟨b, o, none⟩ := by rcases HA.out with h9 | ⟨b', o', e1, _, _⟩; exact absurd h9 (by intro h8; rw [h8] at l1; simp at l1); exact ⟨b', o', e1⟩
  subst hbA
  obtain ⟨bB, oB, hbB⟩ : ∃ b o, aB = some ⟨b, o, none⟩ := by rcases HBr.out with h9 | ⟨b', o', e1, _, _⟩; exact absurd h9 (by intro h8; rw [h8] at m1; simp at m1); exact ⟨b', o', e1⟩
  subst hbB
  have HCC : Hid (∀ W, Below (w.heap.size + 3) w2 W → Calls Try.prog 86 #[.slice (some ⟨W.heap.size, 0, none⟩) 2 2] (W.alloc (.cells #[.slice (some ⟨bA, oA, none⟩) zA.length cA, .slice (some ⟨bB, oB, none⟩) zB.length cB] 22)) fun e w' => ∃ g c, e = .returned (.slice (some ⟨g, 0, none⟩) (zA.length + zB.length) c) ∧ RowO w' W.heap.size (.slice (some ⟨g, 0, none⟩) (zA.length + zB.length) c) (zA ++ zB) ∧ Below W.heap.size W w') := Lib.hid fun W hW => by
    have hw : Below w.heap.size w W := HB.out.trans (hW.mono (by omega))
    have ra := (HA.out.below hw (Nat.le_refl _)).below (bel1 W (.cells #[.slice (some ⟨bA, oA, none⟩) zA.length cA, .slice (some ⟨bB, oB, none⟩) zB.length cB] 22)) (Nat.le_refl _)
    have rb := (HBr.out.below hw (Nat.le_refl _)).below (bel1 W (.cells #[.slice (some ⟨bA, oA, none⟩) zA.length cA, .slice (some ⟨bB, oB, none⟩) zB.length cB] 22)) (Nat.le_refl _)
    have hx := Bx.new W [.slice (some ⟨bA, oA, none⟩) zA.length cA, .slice (some ⟨bB, oB, none⟩) zB.length cB] 22
    rcases ra with h9 | ⟨b1, o1, e1, lA, kA⟩
    · exact absurd h9 (by intro h8; rw [h8] at l1; simp at l1)
    rcases rb with h9 | ⟨b2, o2, e2, lB, kB⟩
    · exact absurd h9 (by intro h8; rw [h8] at m1; simp at m1)
    cases e1
    cases e2
    refine (concatF_any W.heap.size bA oA zA.length cA bB oB zB.length cB zA zB _ (hx.c 0 rfl) (hx.c 1 rfl) hx.1 lA lB kA kB (by omega) (by omega) (by omega) (by omega) (by omega) (by omega)).mono ?_
    rintro e w9 ⟨g, c, rfl, hrow, hb⟩
    refine ⟨g, c, rfl, ?_, (bel1 W _).trans (hb.mono (by simp))⟩
    have h5 : RowO w9 (W.alloc (.cells #[.slice (some ⟨bA, oA, none⟩) zA.length cA, .slice (some ⟨bB, oB, none⟩) zB.length cB] 22)).heap.size (.slice (some ⟨g, 0, none⟩) (zA.length + zB.length) c) (zA ++ zB) := by unfold RowO; rw [List.length_append]; exact hrow
    exact owns_lo9 h5 (by simp)
  have HCD : Hid (∀ W, Below (w.heap.size + 3) w2 W → Calls Try.prog 86 #[.slice (some ⟨W.heap.size, 0, none⟩) 2 2] (W.alloc (.cells #[.slice (some ⟨bA, oA, none⟩) zA.length cA, .slice (some ⟨bB, oB, none⟩) zB.length cB] 22)).drew fun e w' => ∃ g c, e = .returned (.slice (some ⟨g, 0, none⟩) (zA.length + zB.length) c) ∧ RowO w' W.heap.size (.slice (some ⟨g, 0, none⟩) (zA.length + zB.length) c) (zA ++ zB) ∧ Below W.heap.size W w') := Lib.hid fun W hW => by
    have hw : Below w.heap.size w W := HB.out.trans (hW.mono (by omega))
    have ra := (HA.out.below hw (Nat.le_refl _)).below (bel1 W (.cells #[.slice (some ⟨bA, oA, none⟩) zA.length cA, .slice (some ⟨bB, oB, none⟩) zB.length cB] 22)) (Nat.le_refl _)
    have rb := (HBr.out.below hw (Nat.le_refl _)).below (bel1 W (.cells #[.slice (some ⟨bA, oA, none⟩) zA.length cA, .slice (some ⟨bB, oB, none⟩) zB.length cB] 22)) (Nat.le_refl _)
    have hx := Bx.new W [.slice (some ⟨bA, oA, none⟩) zA.length cA, .slice (some ⟨bB, oB, none⟩) zB.length cB] 22
    rcases ra with h9 | ⟨b1, o1, e1, lA, kA⟩
    · exact absurd h9 (by intro h8; rw [h8] at l1; simp at l1)
    rcases rb with h9 | ⟨b2, o2, e2, lB, kB⟩
    · exact absurd h9 (by intro h8; rw [h8] at m1; simp at m1)
    cases e1
    cases e2
    refine (concatF_any W.heap.size bA oA zA.length cA bB oB zB.length cB zA zB ((W.alloc (.cells #[.slice (some ⟨bA, oA, none⟩) zA.length cA, .slice (some ⟨bB, oB, none⟩) zB.length cB] 22)).drew) (by exact hx.c 0 rfl) (by exact hx.c 1 rfl) (by exact hx.1) (by exact lA) (by exact lB) (by exact kA) (by exact kB) (by omega) (by omega) (by omega) (by omega) (by omega) (by omega)).mono ?_
    rintro e w9 ⟨g, c, rfl, hrow, hb⟩
    refine ⟨g, c, rfl, ?_, (Below.drew (bel1 W _)).trans (hb.mono (by show W.heap.size ≤ (W.alloc _).heap.size; simp))⟩
    have h5 : RowO w9 (W.alloc (.cells #[.slice (some ⟨bA, oA, none⟩) zA.length cA, .slice (some ⟨bB, oB, none⟩) zB.length cB] 22)).heap.size (.slice (some ⟨g, 0, none⟩) (zA.length + zB.length) c) (zA ++ zB) := by unfold RowO; rw [List.length_append]; exact hrow
    exact owns_lo9 h5 (by simp)
  have hnl : zA.length + zB.length ≤ 1048576 := by omega
  have HM := Lib.hid (fun g c W => madeRecord_any nA stA spA (some ⟨g, 0, none⟩) (zA.length + zB.length) c W hsA hnl)
  cases hok : recB nA stA spA (zA.length + zB.length)
  · have HR : Hid (R = failR) := Lib.hid (by rw [HJ.out]; exact giveR_n (by rw [List.length_append]; exact hok))
    have HOk := Lib.hid hok
    clear hok
    have HN : Hid (∀ (g c : Nat) (W : World), Calls Try.prog 84 #[.agg #[.string nA, .int .i64 stA, .int .i64 spA, .slice (some ⟨g, 0, none⟩) (zA.length + zB.length) c]] W fun e w' => e = .returned (.tuple #[.agg #[.string ⟨#[]⟩, .int .i64 0, .int .i64 0, .slice none 0 0], .bool false]) ∧ Below W.heap.size W w') := Lib.hid fun g c W => (HM.out g c W).mono fun e w' ⟨ok, k1, k2, k3⟩ => by
      obtain rfl : ok = false := k1.symm.trans HOk.out
      exact ⟨k2, k3⟩
    have HKeep : Hid (∀ W, Below (w.heap.size + 3) w2 W → (W.cell? ⟨w.heap.size, 0, none⟩ = some (.string nA) ∧ W.cell? ⟨w.heap.size, 1, none⟩ = some (.int .i64 stA) ∧ W.cell? ⟨w.heap.size, 2, none⟩ = some (.int .i64 spA) ∧ W.cell? ⟨w.heap.size, 3, none⟩ = some (.slice (some ⟨bA, oA, none⟩) zA.length cA) ∧ W.cell? ⟨w.heap.size + 1, 3, none⟩ = some (.slice (some ⟨bB, oB, none⟩) zB.length cB))) := Lib.hid fun W hW => ⟨(HXA.out.below hW (by omega)).c0, (HXA.out.below hW (by omega)).c1, (HXA.out.below hW (by omega)).c2, (HXA.out.below hW (by omega)).c3, (HXB.out.below hW (by omega)).c3⟩
    obtain ⟨xa0, xa1, xa2, xa3, _⟩ := HXA.out.below K5.out (by omega)
    obtain ⟨xb0, xb1, xb2, xb3, _⟩ := HXB.out.below K5.out (by omega)
    go_region_held3 (fun W => W.cell? ⟨w.heap.size, 0, none⟩ = some (.string nA) ∧ W.cell? ⟨w.heap.size, 1, none⟩ = some (.int .i64 stA) ∧ W.cell? ⟨w.heap.size, 2, none⟩ = some (.int .i64 spA) ∧ W.cell? ⟨w.heap.size, 3, none⟩ = some (.slice (some ⟨bA, oA, none⟩) zA.length cA) ∧ W.cell? ⟨w.heap.size + 1, 3, none⟩ = some (.slice (some ⟨bB, oB, none⟩) zB.length cB))
      (first | with_reducible exact HKeep.out _ K8.out | with_reducible exact HKeep.out _ K8.out.drew | with_reducible exact HKeep.out _ K7.out | with_reducible exact HKeep.out _ K7.out.drew | with_reducible exact HKeep.out _ K5.out | with_reducible exact HKeep.out _ K5.out.drew | with_reducible exact HKeep.out _ (Below.alloc K5.out.drew (Nat.le_trans (Nat.le_of_eq HS2.out.symm) (Below.size K5.out)) _) | with_reducible exact HKeep.out _ (Below.alloc K5.out (Nat.le_trans (Nat.le_of_eq HS2.out.symm) (Below.size K5.out)) _) | with_reducible exact HKeep.out _ (Below.alloc K5.out (Nat.le_trans (Nat.le_of_eq HS2.out.symm) (Below.size K5.out)) _).drew | (obtain ⟨k0, k1, k2, k3, k4⟩ := HKeep.out _ K8.out; exact ⟨by simp [go_sem, k0], by simp [go_sem, k1], by simp [go_sem, k2], by simp [go_sem, k3], by simp [go_sem, k4]⟩))
      (first | (go_at_call 86; first | refine (HCC.out _ (by first | with_reducible exact K5.out | with_reducible exact K5.out.drew)).mono ?_ | refine (HCD.out w5 K5.out).mono ?_; rintro e w7 ⟨gg, gd, rfl, hrow, hb⟩; have K7 := Lib.hid (kstep9 (by first | with_reducible exact K5.out | exact K5.out.drew) (Nat.le_of_eq HS2.out.symm) hb); have HRow : Hid (RowO w7 (w.heap.size + 3) (.slice (some ⟨gg, 0, none⟩) (zA.length + zB.length) gd) (zA ++ zB)) := Lib.hid (owns_lo9 hrow (Nat.le_trans (Nat.le_of_eq HS2.out.symm) (Below.size (by first | with_reducible exact K5.out | exact K5.out.drew)))); have HS7 : Hid (w.heap.size + 3 ≤ w7.heap.size) := Lib.hid (Nat.le_trans (Nat.le_of_eq HS2.out.symm) K7.out.size); clear hrow hb) | (go_at_call 84; refine (HN.out _ _ _).mono ?_; rintro e w8 ⟨rfl, hb⟩; have K8 := Lib.hid (K7.out.trans (hb.mono HS7.out)); have HRow8 := Lib.hid (HRow.out.below hb (Nat.le_refl _)); have hp := HP2.out.below K8.out (by show w.heap.size + 2 < w.heap.size + 3; omega); have q0 := hp.c 0 rfl; have q1 := hp.c 1 rfl; have q2 := hp.c 2 rfl; have q3 := hp.c 3 rfl; have f0 := hp.f 0 (by decide); have f1 := hp.f 1 (by decide); have f2 := hp.f 2 (by decide); have f3 := hp.f 3 (by decide); have HP18 := Lib.hid hp; clear hp hb) | fail)
    go_wp2_with fail
    have hbl : Below w.heap.size w w8 := HB.out.trans (K8.out.mono (by omega))
    have HBL := Lib.hid hbl
    clear hbl
    obtain ⟨W9, hW9⟩ : ∃ W, ((((w8.setCell ⟨w.heap.size + 2, 0, none⟩ (.string ⟨#[]⟩)).setCell ⟨w.heap.size + 2, 1, none⟩ (.int .i64 0)).setCell ⟨w.heap.size + 2, 2, none⟩ (.int .i64 0)).setCell ⟨w.heap.size + 2, 3, none⟩ (.slice none 0 0)) = W := ⟨_, rfl⟩
    have hb9 := Bx.four (HP18.out).1 (.string ⟨#[]⟩) (.int .i64 0) (.int .i64 0) (.slice none 0 0)
    have hl9 : Below w.heap.size w ((((w8.setCell ⟨w.heap.size + 2, 0, none⟩ (.string ⟨#[]⟩)).setCell ⟨w.heap.size + 2, 1, none⟩ (.int .i64 0)).setCell ⟨w.heap.size + 2, 2, none⟩ (.int .i64 0)).setCell ⟨w.heap.size + 2, 3, none⟩ (.slice none 0 0)) := ((((HBL.out).setCell (by first | (simp; done) | (simp; omega) | omega) _).setCell (by first | (simp; done) | (simp; omega) | omega) _).setCell (by first | (simp; done) | (simp; omega) | omega) _).setCell (by first | (simp; done) | (simp; omega) | omega) _
    rw [hW9] at hb9 hl9
    have p0 := hb9.c 0 rfl
    have p1 := hb9.c 1 rfl
    have p2 := hb9.c 2 rfl
    have p3 := hb9.c 3 rfl
    have HL9 := Lib.hid hl9
    clear hb9 hl9
    try rw [hW9]
    clear hW9 q0 q1 q2 q3 f0 f1 f2 f3
    refine bodyPost_ret (v := .tuple #[.agg ZR.toArray, .bool false]) (by first | (simp [results, Try.results46, go_sem, p0, p1, p2, p3]; done) | (simp [results, Try.results46, go_sem, p0, p1, p2, p3]; rfl)) rfl ?_
    rw [HR.out]
    exact ⟨none, 0, rfl, HL9.out, FRow.nil _ _⟩
  · have HR : Hid (R = ⟨nA, stA, spA, zA ++ zB, true⟩) := Lib.hid (by rw [HJ.out]; exact giveR_y (by rw [List.length_append]; exact hok))
    have HOk := Lib.hid hok
    clear hok
    have HN : Hid (∀ (g c : Nat) (W : World), Calls Try.prog 84 #[.agg #[.string nA, .int .i64 stA, .int .i64 spA, .slice (some ⟨g, 0, none⟩) (zA.length + zB.length) c]] W fun e w' => e = .returned (.tuple #[.agg #[.string nA, .int .i64 stA, .int .i64 spA, .slice (some ⟨g, 0, none⟩) (zA.length + zB.length) c], .bool true]) ∧ Below W.heap.size W w') := Lib.hid fun g c W => (HM.out g c W).mono fun e w' ⟨ok, k1, k2, k3⟩ => by
      obtain rfl : ok = true := k1.symm.trans HOk.out
      exact ⟨k2, k3⟩
    have HKeep : Hid (∀ W, Below (w.heap.size + 3) w2 W → (W.cell? ⟨w.heap.size, 0, none⟩ = some (.string nA) ∧ W.cell? ⟨w.heap.size, 1, none⟩ = some (.int .i64 stA) ∧ W.cell? ⟨w.heap.size, 2, none⟩ = some (.int .i64 spA) ∧ W.cell? ⟨w.heap.size, 3, none⟩ = some (.slice (some ⟨bA, oA, none⟩) zA.length cA) ∧ W.cell? ⟨w.heap.size + 1, 3, none⟩ = some (.slice (some ⟨bB, oB, none⟩) zB.length cB))) := Lib.hid fun W hW => ⟨(HXA.out.below hW (by omega)).c0, (HXA.out.below hW (by omega)).c1, (HXA.out.below hW (by omega)).c2, (HXA.out.below hW (by omega)).c3, (HXB.out.below hW (by omega)).c3⟩
    obtain ⟨xa0, xa1, xa2, xa3, _⟩ := HXA.out.below K5.out (by omega)
    obtain ⟨xb0, xb1, xb2, xb3, _⟩ := HXB.out.below K5.out (by omega)
    go_region_held3 (fun W => W.cell? ⟨w.heap.size, 0, none⟩ = some (.string nA) ∧ W.cell? ⟨w.heap.size, 1, none⟩ = some (.int .i64 stA) ∧ W.cell? ⟨w.heap.size, 2, none⟩ = some (.int .i64 spA) ∧ W.cell? ⟨w.heap.size, 3, none⟩ = some (.slice (some ⟨bA, oA, none⟩) zA.length cA) ∧ W.cell? ⟨w.heap.size + 1, 3, none⟩ = some (.slice (some ⟨bB, oB, none⟩) zB.length cB))
      (first | with_reducible exact HKeep.out _ K8.out | with_reducible exact HKeep.out _ K8.out.drew | with_reducible exact HKeep.out _ K7.out | with_reducible exact HKeep.out _ K7.out.drew | with_reducible exact HKeep.out _ K5.out | with_reducible exact HKeep.out _ K5.out.drew | with_reducible exact HKeep.out _ (Below.alloc K5.out.drew (Nat.le_trans (Nat.le_of_eq HS2.out.symm) (Below.size K5.out)) _) | with_reducible exact HKeep.out _ (Below.alloc K5.out (Nat.le_trans (Nat.le_of_eq HS2.out.symm) (Below.size K5.out)) _) | with_reducible exact HKeep.out _ (Below.alloc K5.out (Nat.le_trans (Nat.le_of_eq HS2.out.symm) (Below.size K5.out)) _).drew | (obtain ⟨k0, k1, k2, k3, k4⟩ := HKeep.out _ K8.out; exact ⟨by simp [go_sem, k0], by simp [go_sem, k1], by simp [go_sem, k2], by simp [go_sem, k3], by simp [go_sem, k4]⟩))
      (first | (go_at_call 86; first | refine (HCC.out _ (by first | with_reducible exact K5.out | with_reducible exact K5.out.drew)).mono ?_ | refine (HCD.out w5 K5.out).mono ?_; rintro e w7 ⟨gg, gd, rfl, hrow, hb⟩; have K7 := Lib.hid (kstep9 (by first | with_reducible exact K5.out | exact K5.out.drew) (Nat.le_of_eq HS2.out.symm) hb); have HRow : Hid (RowO w7 (w.heap.size + 3) (.slice (some ⟨gg, 0, none⟩) (zA.length + zB.length) gd) (zA ++ zB)) := Lib.hid (owns_lo9 hrow (Nat.le_trans (Nat.le_of_eq HS2.out.symm) (Below.size (by first | with_reducible exact K5.out | exact K5.out.drew)))); have HS7 : Hid (w.heap.size + 3 ≤ w7.heap.size) := Lib.hid (Nat.le_trans (Nat.le_of_eq HS2.out.symm) K7.out.size); clear hrow hb) | (go_at_call 84; refine (HN.out _ _ _).mono ?_; rintro e w8 ⟨rfl, hb⟩; have K8 := Lib.hid (K7.out.trans (hb.mono HS7.out)); have HRow8 := Lib.hid (HRow.out.below hb (Nat.le_refl _)); have hp := HP2.out.below K8.out (by show w.heap.size + 2 < w.heap.size + 3; omega); have q0 := hp.c 0 rfl; have q1 := hp.c 1 rfl; have q2 := hp.c 2 rfl; have q3 := hp.c 3 rfl; have f0 := hp.f 0 (by decide); have f1 := hp.f 1 (by decide); have f2 := hp.f 2 (by decide); have f3 := hp.f 3 (by decide); have HP18 := Lib.hid hp; clear hp hb) | fail)
    go_wp2_with fail
    have hbl : Below w.heap.size w w8 := HB.out.trans (K8.out.mono (by omega))
    have HBL := Lib.hid hbl
    clear hbl
    have h6 : RowO ((((w8.setCell ⟨w.heap.size + 2, 0, none⟩ (.string nA)).setCell ⟨w.heap.size + 2, 1, none⟩ (.int .i64 stA)).setCell ⟨w.heap.size + 2, 2, none⟩ (.int .i64 spA)).setCell ⟨w.heap.size + 2, 3, none⟩ (.slice (some ⟨gg, 0, none⟩) (zA.length + zB.length) gd)) (w.heap.size + 3) (.slice (some ⟨gg, 0, none⟩) (zA.length + zB.length) gd) (zA ++ zB) := (((HRow8.out.setFar (by intro h9; have := (HRow8.out.lo gg rfl).1; simp [Value.ownBlock] at h9; omega) _).setFar (by intro h9; have := (HRow8.out.lo gg rfl).1; simp [Value.ownBlock] at h9; omega) _).setFar (by intro h9; have := (HRow8.out.lo gg rfl).1; simp [Value.ownBlock] at h9; omega) _).setFar (by intro h9; have := (HRow8.out.lo gg rfl).1; simp [Value.ownBlock] at h9; omega) _
    have H6 := Lib.hid h6
    clear h6
    obtain ⟨W9, hW9⟩ : ∃ W, ((((w8.setCell ⟨w.heap.size + 2, 0, none⟩ (.string nA)).setCell ⟨w.heap.size + 2, 1, none⟩ (.int .i64 stA)).setCell ⟨w.heap.size + 2, 2, none⟩ (.int .i64 spA)).setCell ⟨w.heap.size + 2, 3, none⟩ (.slice (some ⟨gg, 0, none⟩) (zA.length + zB.length) gd)) = W := ⟨_, rfl⟩
    have hb9 := Bx.four (HP18.out).1 (.string nA) (.int .i64 stA) (.int .i64 spA) (.slice (some ⟨gg, 0, none⟩) (zA.length + zB.length) gd)
    have hl9 : Below w.heap.size w ((((w8.setCell ⟨w.heap.size + 2, 0, none⟩ (.string nA)).setCell ⟨w.heap.size + 2, 1, none⟩ (.int .i64 stA)).setCell ⟨w.heap.size + 2, 2, none⟩ (.int .i64 spA)).setCell ⟨w.heap.size + 2, 3, none⟩ (.slice (some ⟨gg, 0, none⟩) (zA.length + zB.length) gd)) := ((((HBL.out).setCell (by first | (simp; done) | (simp; omega) | omega) _).setCell (by first | (simp; done) | (simp; omega) | omega) _).setCell (by first | (simp; done) | (simp; omega) | omega) _).setCell (by first | (simp; done) | (simp; omega) | omega) _
    rw [hW9] at hb9 hl9
    have p0 := hb9.c 0 rfl
    have p1 := hb9.c 1 rfl
    have p2 := hb9.c 2 rfl
    have p3 := hb9.c 3 rfl
    have HL9 := Lib.hid hl9
    clear hb9 hl9
    rw [hW9] at H6
    try rw [hW9]
    clear hW9 q0 q1 q2 q3 f0 f1 f2 f3
    refine bodyPost_ret (v := .tuple #[.agg #[.string nA, .int .i64 stA, .int .i64 spA, .slice (some ⟨gg, 0, none⟩) (zA.length + zB.length) gd], .bool true]) (by first | (simp [results, Try.results46, go_sem, p0, p1, p2, p3]; done) | (simp [results, Try.results46, go_sem, p0, p1, p2, p3]; rfl)) rfl ?_
    rw [HR.out]
    have h7 : RowO W9 (w.heap.size + 3) (.slice (some ⟨gg, 0, none⟩) (zA ++ zB).length gd) (zA ++ zB) := by rw [List.length_append]; exact H6.out
    exact ⟨some ⟨gg, 0, none⟩, gd, by rw [List.length_append], HL9.out, (FRow.mk h7).mono (by omega) (Nat.le_refl _) (Nat.le_refl _)⟩

end Go.Proofs.Ytdmcjloaommnpaa
