/- Records joined: the model. -/
import Derived.Test.YtdmcjloaommnpaaJoinRI
import Derived.Test.YtdmcjloaommnpaaCutRS
import Derived.Test.YtdmcjloaommnpaaRegionI
import Derived.Deep.Cut
namespace Go.Proofs.Ytdmcjloaommnpaa
open Go.RowKit
set_option linter.unusedVariables false
set_option linter.unusedSimpArgs false
set_option maxRecDepth 100000
attribute [local irreducible] wpV wpList Code.wp

structure jnInvS (w0 : World) (BX b o cap lo : Nat) (nm : ByteArray) (st sp : Int) (ys : List Nat) (t0_ t1_ t2_ t3_ t4_ t5_ t7_ t8_ t9_ t10_ t11_ t12_ t13_ t14_ t15_ t16_ t17_ t18_ t19_ t20_ t21_ t22_ t23_ t24_ t25_ t26_ t27_ t28_ t29_ t30_ t31_ t32_ t33_ t34_ t35_ t36_ t37_ t38_ t39_ t40_ t41_ t53_ t54_ t55_ t56_ t57_ t58_ t59_ t60_ t61_ t62_ : Value) (d : Array Bool) (a : Act) (w9 : World) where
  u6 : Value
  u42 : Value
  u43 : Value
  u44 : Value
  u45 : Value
  u46 : Value
  u47 : Value
  u48 : Value
  u49 : Value
  u50 : Value
  u51 : Value
  u52 : Value
  g6 : Nat
  g9 : Nat
  g11 : Nat
  k9 : Nat
  ea : a = ⟨#[t0_, t1_, t2_, t3_, t4_, t5_, u6, t7_, t8_, t9_, t10_, t11_, t12_, t13_, t14_, t15_, t16_, t17_, t18_, t19_, t20_, t21_, t22_, t23_, t24_, t25_, t26_, t27_, t28_, t29_, t30_, t31_, t32_, t33_, t34_, t35_, t36_, t37_, t38_, t39_, t40_, t41_, u42, u43, u44, u45, u46, u47, u48, u49, u50, u51, u52, t53_, t54_, t55_, t56_, t57_, t58_, t59_, t60_, t61_, t62_], []⟩
  f0 : Gd d 0 (u42 = .pointer (some ⟨BX, 0, none⟩))
  f1 : Gd d 1 (u43 = .string nm)
  f2 : Gd d 2 (u44 = .pointer (some ⟨BX, 1, none⟩))
  f3 : Gd d 3 (u45 = .int .i64 st)
  f4 : Gd d 4 (u46 = .pointer (some ⟨BX, 2, none⟩))
  f5 : Gd d 5 (u47 = .int .i64 sp)
  f6 : Gd d 6 (u48 = .slice (some ⟨g6, 0, none⟩) 0 0)
  f7 : Gd d 7 (u49 = .pointer (some ⟨BX, 3, none⟩))
  f8 : Gd d 8 (u50 = .slice (some ⟨b, o, none⟩) ys.length cap)
  f9 : Gd d 9 (u51 = .slice (some ⟨g9, 0, none⟩) ys.length k9)
  f10 : Gd d 10 (u52 = .agg #[.string nm, .int .i64 st, .int .i64 sp, .slice (some ⟨g9, 0, none⟩) ys.length k9])
  f11 : Gd d 11 (u6 = .pointer (some ⟨g11, 0, none⟩))
  rb : Gd d 6 (Ng d 9 (RowO w9 lo (.slice (some ⟨g6, 0, none⟩) 0 0) []))
  ra : Gd d 9 (RowO w9 lo (.slice (some ⟨g9, 0, none⟩) ys.length k9) ys)
  za : Gd d 11 (Ng d 12 (Bw w9 g11 ZR))
  zb : Gd d 12 (Bw w9 g11 [.string nm, .int .i64 st, .int .i64 sp, .slice (some ⟨g9, 0, none⟩) ys.length k9])
  s6 : Gd d 6 (g6 < w9.heap.size ∧ lo ≤ g6)
  s9 : Gd d 9 (g9 < w9.heap.size ∧ lo ≤ g9)
  s11 : Gd d 11 (g11 < w9.heap.size ∧ lo ≤ g11)
  nb : Gd d 6 (Gd d 11 (g6 ≠ g11))
  na : Gd d 9 (Gd d 11 (g9 ≠ g11))
  hz : lo ≤ w9.heap.size
  hbel : Below lo w0 w9
def jnInv (w0 : World) (BX b o cap lo : Nat) (nm : ByteArray) (st sp : Int) (ys : List Nat) (t0_ t1_ t2_ t3_ t4_ t5_ t7_ t8_ t9_ t10_ t11_ t12_ t13_ t14_ t15_ t16_ t17_ t18_ t19_ t20_ t21_ t22_ t23_ t24_ t25_ t26_ t27_ t28_ t29_ t30_ t31_ t32_ t33_ t34_ t35_ t36_ t37_ t38_ t39_ t40_ t41_ t53_ t54_ t55_ t56_ t57_ t58_ t59_ t60_ t61_ t62_ : Value) (d : Array Bool) (a : Act) (w9 : World) : Prop := Nonempty (jnInvS w0 BX b o cap lo nm st sp ys t0_ t1_ t2_ t3_ t4_ t5_ t7_ t8_ t9_ t10_ t11_ t12_ t13_ t14_ t15_ t16_ t17_ t18_ t19_ t20_ t21_ t22_ t23_ t24_ t25_ t26_ t27_ t28_ t29_ t30_ t31_ t32_ t33_ t34_ t35_ t36_ t37_ t38_ t39_ t40_ t41_ t53_ t54_ t55_ t56_ t57_ t58_ t59_ t60_ t61_ t62_ d a w9)

set_option maxHeartbeats 16000000 in
theorem joinRecords_spec (nA : ByteArray) (stA spA : Int) (aA : Option Addr) (cA : Nat) (zA : List Nat) (nB : ByteArray) (stB spB : Int) (aB : Option Addr) (cB : Nat) (zB : List Nat) (w : World) (hA : RowF .f32 w aA zA) (hlA : zA.length ≤ 1048576) (hzA : ∀ z ∈ zA, z < 4294967296) (hsA : nA.size ≤ 1048576) (hB : RowF .f32 w aB zB) (hlB : zB.length ≤ 1048576) (hzB : ∀ z ∈ zB, z < 4294967296) (hsB : nB.size ≤ 1048576) : Calls Try.prog 45 #[.agg #[.string nA, .int .i64 stA, .int .i64 spA, .slice aA zA.length cA], .agg #[.string nB, .int .i64 stB, .int .i64 spB, .slice aB zB.length cB]] w (RetHB (resJoinRecords nA stA spA zA nB stB spB zB).nm (resJoinRecords nA stA spA zA nB stB spB zB).wide (resJoinRecords nA stA spA zA nB stB spB zB).high (resJoinRecords nA stA spA zA nB stB spB zB).zs (resJoinRecords nA stA spA zA nB stB spB zB).ok w) := by
  have J1 := Lib.hid (@join_1 nA nB stA spA stB spB zA zB)
  have J2 := Lib.hid (@join_2 nA nB stA spA stB spB zA zB)
  have J3 := Lib.hid (@join_3 nA nB stA spA stB spB zA zB)
  have JG : Hid ((nA.toList == nB.toList) = true → spB = spA → recB nA stA spA zA.length = true → recB nB stB spB zB.length = true → stB = stA + (zA.length : Int) * spA → resJoinRecords nA stA spA zA nB stB spB zB = giveR nA stA spA (zA ++ zB)) := Lib.hid fun e1 e2 h1 h2 h3 => join_go e1 e2 h1 h2 h3
  generalize resJoinRecords nA stA spA zA nB stB spB zB = R at *
  have HA := Lib.hid hA
  have HBr := Lib.hid hB
  clear hA hB hzA hzB
  have VA : Hid (∀ (b : Nat) (W : World), BoxH W b nA stA spA (.slice aA zA.length cA) → Calls Try.prog 82 #[.pointer (some ⟨b, 0, none⟩)] W (SayS (recB nA stA spA zA.length) W)) := Lib.hid fun b W hB => l07Record_o b nA stA spA aA zA.length cA W hB hsA hlA
  have VB : Hid (∀ (b : Nat) (W : World), BoxH W b nB stB spB (.slice aB zB.length cB) → Calls Try.prog 82 #[.pointer (some ⟨b, 0, none⟩)] W (SayS (recB nB stB spB zB.length) W)) := Lib.hid fun b W hB => l07Record_o b nB stB spB aB zB.length cB W hB hsB hlB
  have TA := Lib.hid (@recB_true nA stA spA zA.length)
  have TB := Lib.hid (@recB_true nB stB spB zB.length)
  generalize hra : recB nA stA spA zA.length = ra at *
  generalize hrb : recB nB stB spB zB.length = rb at *
  clear hra hrb
  obtain ⟨w2, hw2⟩ : ∃ W, (((w.alloc (.cells #[.string nA, .int .i64 stA, .int .i64 spA, .slice aA zA.length cA] 49)).alloc (.cells #[.string nB, .int .i64 stB, .int .i64 spB, .slice aB zB.length cB] 49)).alloc (.cells #[.string ⟨#[]⟩, .int .i64 0, .int .i64 0, .slice none 0 0] 49)) = W := ⟨_, rfl⟩
  have HXA : Hid (BoxH w2 w.heap.size nA stA spA (.slice aA zA.length cA)) := Lib.hid (by rw [← hw2]; exact ((BoxH.new w nA stA spA (.slice aA zA.length cA) 49).alloc _).alloc _)
  have HXB : Hid (BoxH w2 (w.heap.size + 1) nB stB spB (.slice aB zB.length cB)) := Lib.hid (by rw [← hw2]; exact (BoxH.at (w.alloc _) (w.heap.size + 1) (by simp) nB stB spB (.slice aB zB.length cB) 49).alloc _)
  have HP2 : Hid (Bw w2 (w.heap.size + 2) ZR) := Lib.hid (by rw [← hw2]; have h9 := Bw.new ((w.alloc (.cells #[.string nA, .int .i64 stA, .int .i64 spA, .slice aA zA.length cA] 49)).alloc (.cells #[.string nB, .int .i64 stB, .int .i64 spB, .slice aB zB.length cB] 49)) ZR 49; rw [show ((w.alloc (.cells #[.string nA, .int .i64 stA, .int .i64 spA, .slice aA zA.length cA] 49)).alloc (.cells #[.string nB, .int .i64 stB, .int .i64 spB, .slice aB zB.length cB] 49)).heap.size = w.heap.size + 2 by simp] at h9; exact h9)
  have HB : Hid (Below w.heap.size w w2) := Lib.hid (by rw [← hw2]; exact below3 _ _ _ _)
  have HS2 : Hid (w2.heap.size = w.heap.size + 3) := Lib.hid (by rw [← hw2]; simp)
  have c := HXA.out
  obtain ⟨xa0, xa1, xa2, xa3, _⟩ := c
  have c := HXB.out
  obtain ⟨xb0, xb1, xb2, xb3, _⟩ := c
  go_enter Try.func45, Try.ntmps45
  go_wp2_with fail
  (try rw [hw2])
  refine (VA.out _ _ HXA.out).mono ?_
  rintro e w' ⟨bb, hbb, rfl, rfl⟩
  subst hbb
  clear hw2
  cases ra
  · have HF := Lib.hid (J1.out (by first | rfl | trivial))
    have q0 := HP2.out.c 0 rfl
    have q1 := HP2.out.c 1 rfl
    have q2 := HP2.out.c 2 rfl
    have q3 := HP2.out.c 3 rfl
    have f0 := HP2.out.f 0 (by decide)
    have f1 := HP2.out.f 1 (by decide)
    have f2 := HP2.out.f 2 (by decide)
    have f3 := HP2.out.f 3 (by decide)
    go_wp2_with fail
    obtain ⟨W9, hW9⟩ : ∃ W, ((((w2.setCell ⟨w.heap.size + 2, 0, none⟩ (.string ⟨#[]⟩)).setCell ⟨w.heap.size + 2, 1, none⟩ (.int .i64 0)).setCell ⟨w.heap.size + 2, 2, none⟩ (.int .i64 0)).setCell ⟨w.heap.size + 2, 3, none⟩ (.slice none 0 0)) = W := ⟨_, rfl⟩
    have hb9 := Bx.four (HP2.out).1 (.string ⟨#[]⟩) (.int .i64 0) (.int .i64 0) (.slice none 0 0)
    have hl9 : Below w.heap.size w ((((w2.setCell ⟨w.heap.size + 2, 0, none⟩ (.string ⟨#[]⟩)).setCell ⟨w.heap.size + 2, 1, none⟩ (.int .i64 0)).setCell ⟨w.heap.size + 2, 2, none⟩ (.int .i64 0)).setCell ⟨w.heap.size + 2, 3, none⟩ (.slice none 0 0)) := ((((HB.out).setCell (by first | (simp; done) | (simp; omega) | omega) _).setCell (by first | (simp; done) | (simp; omega) | omega) _).setCell (by first | (simp; done) | (simp; omega) | omega) _).setCell (by first | (simp; done) | (simp; omega) | omega) _
    rw [hW9] at hb9 hl9
    have p0 := hb9.c 0 rfl
    have p1 := hb9.c 1 rfl
    have p2 := hb9.c 2 rfl
    have p3 := hb9.c 3 rfl
    have HL9 := Lib.hid hl9
    clear hb9 hl9
    try rw [hW9]
    clear hW9 q0 q1 q2 q3 f0 f1 f2 f3
    clear xa0 xa1 xa2 xa3 xb0 xb1 xb2 xb3
    refine bodyPost_ret (v := .tuple #[.agg ZR.toArray, .bool false]) (by first | (simp [results, Try.results45, go_sem, p0, p1, p2, p3]; done) | (simp [results, Try.results45, go_sem, p0, p1, p2, p3]; rfl)) rfl ?_
    rw [HF.out]
    exact ⟨none, 0, rfl, HL9.out, FRow.nil _ _⟩
  go_wp2_with fail
  refine (VB.out _ _ HXB.out).mono ?_
  rintro e w' ⟨bb, hbb, rfl, rfl⟩
  subst hbb
  cases rb
  · have HF := Lib.hid (J2.out (by first | rfl | trivial))
    have q0 := HP2.out.c 0 rfl
    have q1 := HP2.out.c 1 rfl
    have q2 := HP2.out.c 2 rfl
    have q3 := HP2.out.c 3 rfl
    have f0 := HP2.out.f 0 (by decide)
    have f1 := HP2.out.f 1 (by decide)
    have f2 := HP2.out.f 2 (by decide)
    have f3 := HP2.out.f 3 (by decide)
    go_wp2_with fail
    obtain ⟨W9, hW9⟩ : ∃ W, ((((w2.setCell ⟨w.heap.size + 2, 0, none⟩ (.string ⟨#[]⟩)).setCell ⟨w.heap.size + 2, 1, none⟩ (.int .i64 0)).setCell ⟨w.heap.size + 2, 2, none⟩ (.int .i64 0)).setCell ⟨w.heap.size + 2, 3, none⟩ (.slice none 0 0)) = W := ⟨_, rfl⟩
    have hb9 := Bx.four (HP2.out).1 (.string ⟨#[]⟩) (.int .i64 0) (.int .i64 0) (.slice none 0 0)
    have hl9 : Below w.heap.size w ((((w2.setCell ⟨w.heap.size + 2, 0, none⟩ (.string ⟨#[]⟩)).setCell ⟨w.heap.size + 2, 1, none⟩ (.int .i64 0)).setCell ⟨w.heap.size + 2, 2, none⟩ (.int .i64 0)).setCell ⟨w.heap.size + 2, 3, none⟩ (.slice none 0 0)) := ((((HB.out).setCell (by first | (simp; done) | (simp; omega) | omega) _).setCell (by first | (simp; done) | (simp; omega) | omega) _).setCell (by first | (simp; done) | (simp; omega) | omega) _).setCell (by first | (simp; done) | (simp; omega) | omega) _
    rw [hW9] at hb9 hl9
    have p0 := hb9.c 0 rfl
    have p1 := hb9.c 1 rfl
    have p2 := hb9.c 2 rfl
    have p3 := hb9.c 3 rfl
    have HL9 := Lib.hid hl9
    clear hb9 hl9
    try rw [hW9]
    clear hW9 q0 q1 q2 q3 f0 f1 f2 f3
    clear xa0 xa1 xa2 xa3 xb0 xb1 xb2 xb3
    refine bodyPost_ret (v := .tuple #[.agg ZR.toArray, .bool false]) (by first | (simp [results, Try.results45, go_sem, p0, p1, p2, p3]; done) | (simp [results, Try.results45, go_sem, p0, p1, p2, p3]; rfl)) rfl ?_
    rw [HF.out]
    exact ⟨none, 0, rfl, HL9.out, FRow.nil _ _⟩
  cases hnm : (nA.toList == nB.toList)
  · have Hnm := Lib.hid hnm
    have HF := Lib.hid (J3.out (fun hc => by rw [Hnm.out] at hc; exact absurd hc.1 (by decide)))
    have q0 := HP2.out.c 0 rfl
    have q1 := HP2.out.c 1 rfl
    have q2 := HP2.out.c 2 rfl
    have q3 := HP2.out.c 3 rfl
    have f0 := HP2.out.f 0 (by decide)
    have f1 := HP2.out.f 1 (by decide)
    have f2 := HP2.out.f 2 (by decide)
    have f3 := HP2.out.f 3 (by decide)
    go_wp2_with fail
    obtain ⟨W9, hW9⟩ : ∃ W, ((((w2.setCell ⟨w.heap.size + 2, 0, none⟩ (.string ⟨#[]⟩)).setCell ⟨w.heap.size + 2, 1, none⟩ (.int .i64 0)).setCell ⟨w.heap.size + 2, 2, none⟩ (.int .i64 0)).setCell ⟨w.heap.size + 2, 3, none⟩ (.slice none 0 0)) = W := ⟨_, rfl⟩
    have hb9 := Bx.four (HP2.out).1 (.string ⟨#[]⟩) (.int .i64 0) (.int .i64 0) (.slice none 0 0)
    have hl9 : Below w.heap.size w ((((w2.setCell ⟨w.heap.size + 2, 0, none⟩ (.string ⟨#[]⟩)).setCell ⟨w.heap.size + 2, 1, none⟩ (.int .i64 0)).setCell ⟨w.heap.size + 2, 2, none⟩ (.int .i64 0)).setCell ⟨w.heap.size + 2, 3, none⟩ (.slice none 0 0)) := ((((HB.out).setCell (by first | (simp; done) | (simp; omega) | omega) _).setCell (by first | (simp; done) | (simp; omega) | omega) _).setCell (by first | (simp; done) | (simp; omega) | omega) _).setCell (by first | (simp; done) | (simp; omega) | omega) _
    rw [hW9] at hb9 hl9
    have p0 := hb9.c 0 rfl
    have p1 := hb9.c 1 rfl
    have p2 := hb9.c 2 rfl
    have p3 := hb9.c 3 rfl
    have HL9 := Lib.hid hl9
    clear hb9 hl9
    try rw [hW9]
    clear hW9 q0 q1 q2 q3 f0 f1 f2 f3
    clear xa0 xa1 xa2 xa3 xb0 xb1 xb2 xb3
    refine bodyPost_ret (v := .tuple #[.agg ZR.toArray, .bool false]) (by first | (simp [results, Try.results45, go_sem, p0, p1, p2, p3]; done) | (simp [results, Try.results45, go_sem, p0, p1, p2, p3]; rfl)) rfl ?_
    rw [HF.out]
    exact ⟨none, 0, rfl, HL9.out, FRow.nil _ _⟩
  by_cases hsp : spA = spB
  rotate_left
  · have hsp2 : (spA == spB) = false := beq_eq_false_iff_ne.2 hsp
    have HF := Lib.hid (J3.out (fun hc => hsp hc.2.2.symm))
    have q0 := HP2.out.c 0 rfl
    have q1 := HP2.out.c 1 rfl
    have q2 := HP2.out.c 2 rfl
    have q3 := HP2.out.c 3 rfl
    have f0 := HP2.out.f 0 (by decide)
    have f1 := HP2.out.f 1 (by decide)
    have f2 := HP2.out.f 2 (by decide)
    have f3 := HP2.out.f 3 (by decide)
    go_wp2_with fail
    obtain ⟨W9, hW9⟩ : ∃ W, ((((w2.setCell ⟨w.heap.size + 2, 0, none⟩ (.string ⟨#[]⟩)).setCell ⟨w.heap.size + 2, 1, none⟩ (.int .i64 0)).setCell ⟨w.heap.size + 2, 2, none⟩ (.int .i64 0)).setCell ⟨w.heap.size + 2, 3, none⟩ (.slice none 0 0)) = W := ⟨_, rfl⟩
    have hb9 := Bx.four (HP2.out).1 (.string ⟨#[]⟩) (.int .i64 0) (.int .i64 0) (.slice none 0 0)
    have hl9 : Below w.heap.size w ((((w2.setCell ⟨w.heap.size + 2, 0, none⟩ (.string ⟨#[]⟩)).setCell ⟨w.heap.size + 2, 1, none⟩ (.int .i64 0)).setCell ⟨w.heap.size + 2, 2, none⟩ (.int .i64 0)).setCell ⟨w.heap.size + 2, 3, none⟩ (.slice none 0 0)) := ((((HB.out).setCell (by first | (simp; done) | (simp; omega) | omega) _).setCell (by first | (simp; done) | (simp; omega) | omega) _).setCell (by first | (simp; done) | (simp; omega) | omega) _).setCell (by first | (simp; done) | (simp; omega) | omega) _
    rw [hW9] at hb9 hl9
    have p0 := hb9.c 0 rfl
    have p1 := hb9.c 1 rfl
    have p2 := hb9.c 2 rfl
    have p3 := hb9.c 3 rfl
    have HL9 := Lib.hid hl9
    clear hb9 hl9
    try rw [hW9]
    clear hW9 q0 q1 q2 q3 f0 f1 f2 f3
    clear xa0 xa1 xa2 xa3 xb0 xb1 xb2 xb3
    refine bodyPost_ret (v := .tuple #[.agg ZR.toArray, .bool false]) (by first | (simp [results, Try.results45, go_sem, p0, p1, p2, p3]; done) | (simp [results, Try.results45, go_sem, p0, p1, p2, p3]; rfl)) rfl ?_
    rw [HF.out]
    exact ⟨none, 0, rfl, HL9.out, FRow.nil _ _⟩
  obtain ⟨_, s1, s2, s3, s4, l1, l2⟩ := TA.out (by first | rfl | trivial)
  obtain ⟨_, r1, r2, r3, r4, m1, m2⟩ := TB.out (by first | rfl | trivial)
  clear TA TB
  have hm0 : 0 ≤ (zA.length : Int) * spA := Int.mul_nonneg (by omega) (by omega)
  have hm1 : (zA.length : Int) * spA ≤ 128 * 65535 := Int.mul_le_mul (by omega) s4 (by omega) (by omega)
  have hcm : spA * (zA.length : Int) = (zA.length : Int) * spA := Int.mul_comm _ _
  have hw1 : IntKind.i64.wrap (spA * (zA.length : Int)) = spA * (zA.length : Int) := IntWalk.i64_in _ (by omega)
  have hw0 : IntKind.i64.wrap (stA + spA * (zA.length : Int)) = stA + spA * (zA.length : Int) := IntWalk.i64_in _ (by omega)
  obtain ⟨E, hE⟩ : ∃ s, stA + (zA.length : Int) * spA = s := ⟨_, rfl⟩
  have hw3 : IntKind.i64.wrap (stA + spA * (zA.length : Int)) = E := by rw [hw0, hcm, hE]
  rw [hE] at JG J3
  clear hw0 hcm hm0 hm1
  have HE := Lib.hid hE
  clear hE
  by_cases hst : stB = E
  rotate_left
  · have hst2 : (stB == E) = false := beq_eq_false_iff_ne.2 hst
    subst hsp
    have HF := Lib.hid (J3.out (fun hc => hst hc.2.1))
    have q0 := HP2.out.c 0 rfl
    have q1 := HP2.out.c 1 rfl
    have q2 := HP2.out.c 2 rfl
    have q3 := HP2.out.c 3 rfl
    have f0 := HP2.out.f 0 (by decide)
    have f1 := HP2.out.f 1 (by decide)
    have f2 := HP2.out.f 2 (by decide)
    have f3 := HP2.out.f 3 (by decide)
    go_wp2_with fail
    obtain ⟨W9, hW9⟩ : ∃ W, ((((w2.setCell ⟨w.heap.size + 2, 0, none⟩ (.string ⟨#[]⟩)).setCell ⟨w.heap.size + 2, 1, none⟩ (.int .i64 0)).setCell ⟨w.heap.size + 2, 2, none⟩ (.int .i64 0)).setCell ⟨w.heap.size + 2, 3, none⟩ (.slice none 0 0)) = W := ⟨_, rfl⟩
    have hb9 := Bx.four (HP2.out).1 (.string ⟨#[]⟩) (.int .i64 0) (.int .i64 0) (.slice none 0 0)
    have hl9 : Below w.heap.size w ((((w2.setCell ⟨w.heap.size + 2, 0, none⟩ (.string ⟨#[]⟩)).setCell ⟨w.heap.size + 2, 1, none⟩ (.int .i64 0)).setCell ⟨w.heap.size + 2, 2, none⟩ (.int .i64 0)).setCell ⟨w.heap.size + 2, 3, none⟩ (.slice none 0 0)) := ((((HB.out).setCell (by first | (simp; done) | (simp; omega) | omega) _).setCell (by first | (simp; done) | (simp; omega) | omega) _).setCell (by first | (simp; done) | (simp; omega) | omega) _).setCell (by first | (simp; done) | (simp; omega) | omega) _
    rw [hW9] at hb9 hl9
    have p0 := hb9.c 0 rfl
    have p1 := hb9.c 1 rfl
    have p2 := hb9.c 2 rfl
    have p3 := hb9.c 3 rfl
    have HL9 := Lib.hid hl9
    clear hb9 hl9
    try rw [hW9]
    clear hW9 q0 q1 q2 q3 f0 f1 f2 f3
    clear xa0 xa1 xa2 xa3 xb0 xb1 xb2 xb3
    refine bodyPost_ret (v := .tuple #[.agg ZR.toArray, .bool false]) (by first | (simp [results, Try.results45, go_sem, p0, p1, p2, p3]; done) | (simp [results, Try.results45, go_sem, p0, p1, p2, p3]; rfl)) rfl ?_
    rw [HF.out]
    exact ⟨none, 0, rfl, HL9.out, FRow.nil _ _⟩
  have HJ := Lib.hid (JG.out (by first | exact hnm | trivial) hsp.symm (by first | rfl | trivial) (by first | rfl | trivial) hst)
  clear JG J1 J2 J3
  subst hst hsp
  have Hnm := Lib.hid hnm
  clear VA VB
  obtain ⟨bA, oA, hbA⟩ : ∃ b o, aA = some ⟨b, o, none⟩ := by rcases HA.out with h9 | ⟨b', o', e1, _, _⟩; exact absurd h9 (by intro h8; rw [h8] at l1; simp at l1); exact ⟨b', o', e1⟩
  subst hbA
  obtain ⟨bB, oB, hbB⟩ : ∃ b o, aB = some ⟨b, o, none⟩ := by rcases HBr.out with h9 | ⟨b', o', e1, _, _⟩; exact absurd h9 (by intro h8; rw [h8] at m1; simp at m1); exact ⟨b', o', e1⟩
  subst hbB
  have hsy : SrcY w2 bA oA zA := by rcases HA.out.below HB.out (Nat.le_refl _) with h9 | ⟨b', o', e1, e2, e3⟩; exact absurd h9 (by intro h8; rw [h8] at l1; simp at l1); cases e1; exact ⟨e2, trivial, trivial, e3⟩
  have hsb : SrcY w2 bB oB zB := by rcases HBr.out.below HB.out (Nat.le_refl _) with h9 | ⟨b', o', e1, e2, e3⟩; exact absurd h9 (by intro h8; rw [h8] at m1; simp at m1); cases e1; exact ⟨e2, trivial, trivial, e3⟩
  have HSy := Lib.hid hsy
  have HSb := Lib.hid hsb
  have HYp : Hid (0 < zA.length) := Lib.hid (by omega)
  have HYl : Hid (zA.length ≤ 128 ∧ 0 < zB.length ∧ zB.length ≤ 128) := Lib.hid ⟨by omega, by omega, by omega⟩
  clear hsy hsb
  go_upto_region 3 with fail
  clear hnm hw1 hw3
  have HX := HXA
  have HBX : Hid (w.heap.size < w2.heap.size) := Lib.hid (by rw [HS2.out]; omega)
  have HSrc := HSy
  refine wp_region_inv (id := 3) (jnInv w2 w.heap.size bA oA cA w2.heap.size nA stA spA zA _ _ _ _ _ _ _ _ _ _ _ _ _ _ _ _ _ _ _ _ _ _ _ _ _ _ _ _ _ _ _ _ _ _ _ _ _ _ _ _ _ _ _ _ _ _ _ _ _ _ _) (by kernel_rfl) (by kernel_rfl) ⟨⟨_, _, _, _, _, _, _, _, _, _, _, _, 0, 0, 0, 0, rfl, .start, .start, .start, .start, .start, .start, .start, .start, .start, .start, .start, .start, .start, .start, .start, .start, .start, .start, .start, .start, .start, (Nat.le_refl _), ((Below.refl _ _).drew)⟩⟩ ?hend ?hsteps
  rotate_left
  case hsteps =>
    refine .cons 1 rfl ?_ ?_
    · intro d a w9 hsz hcl hinv hd hdep
      obtain ⟨⟨u6, u42, u43, u44, u45, u46, u47, u48, u49, u50, u51, u52, g6, g9, g11, k9, rfl, f0, f1, f2, f3, f4, f5, f6, f7, f8, f9, f10, f11, rb, ra, za, zb, s6, s9, s11, nb, na, hz, hbel⟩⟩ := hinv
      go_wp2_with fail
      exact ⟨⟨u6, (.pointer (some ⟨w.heap.size, 0, none⟩)), u43, u44, u45, u46, u47, u48, u49, u50, u51, u52, g6, g9, g11, k9, rfl, (Gd.new (by first | rfl | simp)), (f1.keep (i := 0) (by decide)), (f2.keep (i := 0) (by decide)), (f3.keep (i := 0) (by decide)), (f4.keep (i := 0) (by decide)), (f5.keep (i := 0) (by decide)), (f6.keep (i := 0) (by decide)), (f7.keep (i := 0) (by decide)), (f8.keep (i := 0) (by decide)), (f9.keep (i := 0) (by decide)), (f10.keep (i := 0) (by decide)), (f11.keep (i := 0) (by decide)), (Gd.keep (i := 0) (rb.imp fun h => Ng.keep (i := 0) h (by decide)) (by decide)), (ra.keep (i := 0) (by decide)), (Gd.keep (i := 0) (za.imp fun h => Ng.keep (i := 0) h (by decide)) (by decide)), (zb.keep (i := 0) (by decide)), (s6.keep (i := 0) (by decide)), (s9.keep (i := 0) (by decide)), (s11.keep (i := 0) (by decide)), (Gd.keep (i := 0) (nb.imp fun h => Gd.keep (i := 0) h (by decide)) (by decide)), (Gd.keep (i := 0) (na.imp fun h => Gd.keep (i := 0) h (by decide)) (by decide)), hz, hbel⟩⟩
    refine .cons 2 rfl ?_ ?_
    · intro d a w9 hsz hcl hinv hd hdep
      obtain ⟨⟨u6, u42, u43, u44, u45, u46, u47, u48, u49, u50, u51, u52, g6, g9, g11, k9, rfl, f0, f1, f2, f3, f4, f5, f6, f7, f8, f9, f10, f11, rb, ra, za, zb, s6, s9, s11, nb, na, hz, hbel⟩⟩ := hinv
      have e0 := f0 (hdep.get 0 rfl)
      subst e0
      have ck := (HX.out.below hbel HBX.out)
      obtain ⟨k0, k1, k2, k3, _⟩ := ck
      go_wp2_with fail
      exact ⟨⟨u6, (.pointer (some ⟨w.heap.size, 0, none⟩)), (.string nA), u44, u45, u46, u47, u48, u49, u50, u51, u52, g6, g9, g11, k9, rfl, (Gd.new rfl), (Gd.new (by first | rfl | simp)), (f2.keep (i := 1) (by decide)), (f3.keep (i := 1) (by decide)), (f4.keep (i := 1) (by decide)), (f5.keep (i := 1) (by decide)), (f6.keep (i := 1) (by decide)), (f7.keep (i := 1) (by decide)), (f8.keep (i := 1) (by decide)), (f9.keep (i := 1) (by decide)), (f10.keep (i := 1) (by decide)), (f11.keep (i := 1) (by decide)), (Gd.keep (i := 1) (rb.imp fun h => Ng.keep (i := 1) h (by decide)) (by decide)), (ra.keep (i := 1) (by decide)), (Gd.keep (i := 1) (za.imp fun h => Ng.keep (i := 1) h (by decide)) (by decide)), (zb.keep (i := 1) (by decide)), (s6.keep (i := 1) (by decide)), (s9.keep (i := 1) (by decide)), (s11.keep (i := 1) (by decide)), (Gd.keep (i := 1) (nb.imp fun h => Gd.keep (i := 1) h (by decide)) (by decide)), (Gd.keep (i := 1) (na.imp fun h => Gd.keep (i := 1) h (by decide)) (by decide)), hz, hbel⟩⟩
    refine .cons 3 rfl ?_ ?_
    · intro d a w9 hsz hcl hinv hd hdep
      obtain ⟨⟨u6, u42, u43, u44, u45, u46, u47, u48, u49, u50, u51, u52, g6, g9, g11, k9, rfl, f0, f1, f2, f3, f4, f5, f6, f7, f8, f9, f10, f11, rb, ra, za, zb, s6, s9, s11, nb, na, hz, hbel⟩⟩ := hinv
      go_wp2_with fail
      exact ⟨⟨u6, u42, u43, (.pointer (some ⟨w.heap.size, 1, none⟩)), u45, u46, u47, u48, u49, u50, u51, u52, g6, g9, g11, k9, rfl, (f0.keep (i := 2) (by decide)), (f1.keep (i := 2) (by decide)), (Gd.new (by first | rfl | simp)), (f3.keep (i := 2) (by decide)), (f4.keep (i := 2) (by decide)), (f5.keep (i := 2) (by decide)), (f6.keep (i := 2) (by decide)), (f7.keep (i := 2) (by decide)), (f8.keep (i := 2) (by decide)), (f9.keep (i := 2) (by decide)), (f10.keep (i := 2) (by decide)), (f11.keep (i := 2) (by decide)), (Gd.keep (i := 2) (rb.imp fun h => Ng.keep (i := 2) h (by decide)) (by decide)), (ra.keep (i := 2) (by decide)), (Gd.keep (i := 2) (za.imp fun h => Ng.keep (i := 2) h (by decide)) (by decide)), (zb.keep (i := 2) (by decide)), (s6.keep (i := 2) (by decide)), (s9.keep (i := 2) (by decide)), (s11.keep (i := 2) (by decide)), (Gd.keep (i := 2) (nb.imp fun h => Gd.keep (i := 2) h (by decide)) (by decide)), (Gd.keep (i := 2) (na.imp fun h => Gd.keep (i := 2) h (by decide)) (by decide)), hz, hbel⟩⟩
    refine .cons 4 rfl ?_ ?_
    · intro d a w9 hsz hcl hinv hd hdep
      obtain ⟨⟨u6, u42, u43, u44, u45, u46, u47, u48, u49, u50, u51, u52, g6, g9, g11, k9, rfl, f0, f1, f2, f3, f4, f5, f6, f7, f8, f9, f10, f11, rb, ra, za, zb, s6, s9, s11, nb, na, hz, hbel⟩⟩ := hinv
      have e2 := f2 (hdep.get 2 rfl)
      subst e2
      have ck := (HX.out.below hbel HBX.out)
      obtain ⟨k0, k1, k2, k3, _⟩ := ck
      go_wp2_with fail
      exact ⟨⟨u6, u42, u43, (.pointer (some ⟨w.heap.size, 1, none⟩)), (.int .i64 stA), u46, u47, u48, u49, u50, u51, u52, g6, g9, g11, k9, rfl, (f0.keep (i := 3) (by decide)), (f1.keep (i := 3) (by decide)), (Gd.new rfl), (Gd.new (by first | rfl | simp)), (f4.keep (i := 3) (by decide)), (f5.keep (i := 3) (by decide)), (f6.keep (i := 3) (by decide)), (f7.keep (i := 3) (by decide)), (f8.keep (i := 3) (by decide)), (f9.keep (i := 3) (by decide)), (f10.keep (i := 3) (by decide)), (f11.keep (i := 3) (by decide)), (Gd.keep (i := 3) (rb.imp fun h => Ng.keep (i := 3) h (by decide)) (by decide)), (ra.keep (i := 3) (by decide)), (Gd.keep (i := 3) (za.imp fun h => Ng.keep (i := 3) h (by decide)) (by decide)), (zb.keep (i := 3) (by decide)), (s6.keep (i := 3) (by decide)), (s9.keep (i := 3) (by decide)), (s11.keep (i := 3) (by decide)), (Gd.keep (i := 3) (nb.imp fun h => Gd.keep (i := 3) h (by decide)) (by decide)), (Gd.keep (i := 3) (na.imp fun h => Gd.keep (i := 3) h (by decide)) (by decide)), hz, hbel⟩⟩
    refine .cons 5 rfl ?_ ?_
    · intro d a w9 hsz hcl hinv hd hdep
      obtain ⟨⟨u6, u42, u43, u44, u45, u46, u47, u48, u49, u50, u51, u52, g6, g9, g11, k9, rfl, f0, f1, f2, f3, f4, f5, f6, f7, f8, f9, f10, f11, rb, ra, za, zb, s6, s9, s11, nb, na, hz, hbel⟩⟩ := hinv
      go_wp2_with fail
      exact ⟨⟨u6, u42, u43, u44, u45, (.pointer (some ⟨w.heap.size, 2, none⟩)), u47, u48, u49, u50, u51, u52, g6, g9, g11, k9, rfl, (f0.keep (i := 4) (by decide)), (f1.keep (i := 4) (by decide)), (f2.keep (i := 4) (by decide)), (f3.keep (i := 4) (by decide)), (Gd.new (by first | rfl | simp)), (f5.keep (i := 4) (by decide)), (f6.keep (i := 4) (by decide)), (f7.keep (i := 4) (by decide)), (f8.keep (i := 4) (by decide)), (f9.keep (i := 4) (by decide)), (f10.keep (i := 4) (by decide)), (f11.keep (i := 4) (by decide)), (Gd.keep (i := 4) (rb.imp fun h => Ng.keep (i := 4) h (by decide)) (by decide)), (ra.keep (i := 4) (by decide)), (Gd.keep (i := 4) (za.imp fun h => Ng.keep (i := 4) h (by decide)) (by decide)), (zb.keep (i := 4) (by decide)), (s6.keep (i := 4) (by decide)), (s9.keep (i := 4) (by decide)), (s11.keep (i := 4) (by decide)), (Gd.keep (i := 4) (nb.imp fun h => Gd.keep (i := 4) h (by decide)) (by decide)), (Gd.keep (i := 4) (na.imp fun h => Gd.keep (i := 4) h (by decide)) (by decide)), hz, hbel⟩⟩
    refine .cons 6 rfl ?_ ?_
    · intro d a w9 hsz hcl hinv hd hdep
      obtain ⟨⟨u6, u42, u43, u44, u45, u46, u47, u48, u49, u50, u51, u52, g6, g9, g11, k9, rfl, f0, f1, f2, f3, f4, f5, f6, f7, f8, f9, f10, f11, rb, ra, za, zb, s6, s9, s11, nb, na, hz, hbel⟩⟩ := hinv
      have e4 := f4 (hdep.get 4 rfl)
      subst e4
      have ck := (HX.out.below hbel HBX.out)
      obtain ⟨k0, k1, k2, k3, _⟩ := ck
      go_wp2_with fail
      exact ⟨⟨u6, u42, u43, u44, u45, (.pointer (some ⟨w.heap.size, 2, none⟩)), (.int .i64 spA), u48, u49, u50, u51, u52, g6, g9, g11, k9, rfl, (f0.keep (i := 5) (by decide)), (f1.keep (i := 5) (by decide)), (f2.keep (i := 5) (by decide)), (f3.keep (i := 5) (by decide)), (Gd.new rfl), (Gd.new (by first | rfl | simp)), (f6.keep (i := 5) (by decide)), (f7.keep (i := 5) (by decide)), (f8.keep (i := 5) (by decide)), (f9.keep (i := 5) (by decide)), (f10.keep (i := 5) (by decide)), (f11.keep (i := 5) (by decide)), (Gd.keep (i := 5) (rb.imp fun h => Ng.keep (i := 5) h (by decide)) (by decide)), (ra.keep (i := 5) (by decide)), (Gd.keep (i := 5) (za.imp fun h => Ng.keep (i := 5) h (by decide)) (by decide)), (zb.keep (i := 5) (by decide)), (s6.keep (i := 5) (by decide)), (s9.keep (i := 5) (by decide)), (s11.keep (i := 5) (by decide)), (Gd.keep (i := 5) (nb.imp fun h => Gd.keep (i := 5) h (by decide)) (by decide)), (Gd.keep (i := 5) (na.imp fun h => Gd.keep (i := 5) h (by decide)) (by decide)), hz, hbel⟩⟩
    refine .cons 7 rfl ?_ ?_
    · intro d a w9 hsz hcl hinv hd hdep
      obtain ⟨⟨u6, u42, u43, u44, u45, u46, u47, u48, u49, u50, u51, u52, g6, g9, g11, k9, rfl, f0, f1, f2, f3, f4, f5, f6, f7, f8, f9, f10, f11, rb, ra, za, zb, s6, s9, s11, nb, na, hz, hbel⟩⟩ := hinv
      have na_ := hcl.not hd 9 _ rfl rfl
      go_wp2_with fail
      exact ⟨⟨u6, u42, u43, u44, u45, u46, u47, (.slice (some ⟨w9.heap.size, 0, none⟩) 0 0), u49, u50, u51, u52, w9.heap.size, g9, g11, k9, rfl, (f0.keep (i := 6) (by decide)), (f1.keep (i := 6) (by decide)), (f2.keep (i := 6) (by decide)), (f3.keep (i := 6) (by decide)), (f4.keep (i := 6) (by decide)), (f5.keep (i := 6) (by decide)), (Gd.new (by first | rfl | simp)), (f7.keep (i := 6) (by decide)), (f8.keep (i := 6) (by decide)), (Gd.undone (i := 6) na_ (by decide)), (Gd.undone (i := 6) (hcl.not na_ 10 _ rfl rfl) (by decide)), (f11.keep (i := 6) (by decide)), (Gd.new fun _ => World.ownsRow_lit w9 #[] 0 hz (by decide) rfl), (Gd.undone (i := 6) na_ (by decide)), (Gd.keep (i := 6) (za.imp fun h => Ng.keep (i := 6) (h.imp fun h => h.alloc _) (by decide)) (by decide)), (Gd.keep (i := 6) (fun h9 => (zb h9).alloc _) (by decide)), (Gd.new ⟨by simp, hz⟩), (Gd.keep (i := 6) (fun h9 => ⟨by have := (s9 h9).1; simp; omega, (s9 h9).2⟩) (by decide)), (Gd.keep (i := 6) (fun h9 => ⟨by have := (s11 h9).1; simp; omega, (s11 h9).2⟩) (by decide)), (fun _ hj => by rw [set_ne (by decide)] at hj; have h9 := (s11 hj).1; omega), (fun hj _ => by rw [set_ne (by decide), na_] at hj; cases hj), (by simp; omega), (hbel.alloc (by have := hbel.size; omega) _)⟩⟩
    refine .cons 8 rfl ?_ ?_
    · intro d a w9 hsz hcl hinv hd hdep
      obtain ⟨⟨u6, u42, u43, u44, u45, u46, u47, u48, u49, u50, u51, u52, g6, g9, g11, k9, rfl, f0, f1, f2, f3, f4, f5, f6, f7, f8, f9, f10, f11, rb, ra, za, zb, s6, s9, s11, nb, na, hz, hbel⟩⟩ := hinv
      go_wp2_with fail
      exact ⟨⟨u6, u42, u43, u44, u45, u46, u47, u48, (.pointer (some ⟨w.heap.size, 3, none⟩)), u50, u51, u52, g6, g9, g11, k9, rfl, (f0.keep (i := 7) (by decide)), (f1.keep (i := 7) (by decide)), (f2.keep (i := 7) (by decide)), (f3.keep (i := 7) (by decide)), (f4.keep (i := 7) (by decide)), (f5.keep (i := 7) (by decide)), (f6.keep (i := 7) (by decide)), (Gd.new (by first | rfl | simp)), (f8.keep (i := 7) (by decide)), (f9.keep (i := 7) (by decide)), (f10.keep (i := 7) (by decide)), (f11.keep (i := 7) (by decide)), (Gd.keep (i := 7) (rb.imp fun h => Ng.keep (i := 7) h (by decide)) (by decide)), (ra.keep (i := 7) (by decide)), (Gd.keep (i := 7) (za.imp fun h => Ng.keep (i := 7) h (by decide)) (by decide)), (zb.keep (i := 7) (by decide)), (s6.keep (i := 7) (by decide)), (s9.keep (i := 7) (by decide)), (s11.keep (i := 7) (by decide)), (Gd.keep (i := 7) (nb.imp fun h => Gd.keep (i := 7) h (by decide)) (by decide)), (Gd.keep (i := 7) (na.imp fun h => Gd.keep (i := 7) h (by decide)) (by decide)), hz, hbel⟩⟩
    refine .cons 9 rfl ?_ ?_
    · intro d a w9 hsz hcl hinv hd hdep
      obtain ⟨⟨u6, u42, u43, u44, u45, u46, u47, u48, u49, u50, u51, u52, g6, g9, g11, k9, rfl, f0, f1, f2, f3, f4, f5, f6, f7, f8, f9, f10, f11, rb, ra, za, zb, s6, s9, s11, nb, na, hz, hbel⟩⟩ := hinv
      have e7 := f7 (hdep.get 7 rfl)
      subst e7
      have ck := (HX.out.below hbel HBX.out)
      obtain ⟨k0, k1, k2, k3, _⟩ := ck
      go_wp2_with fail
      exact ⟨⟨u6, u42, u43, u44, u45, u46, u47, u48, (.pointer (some ⟨w.heap.size, 3, none⟩)), (.slice (some ⟨bA, oA, none⟩) zA.length cA), u51, u52, g6, g9, g11, k9, rfl, (f0.keep (i := 8) (by decide)), (f1.keep (i := 8) (by decide)), (f2.keep (i := 8) (by decide)), (f3.keep (i := 8) (by decide)), (f4.keep (i := 8) (by decide)), (f5.keep (i := 8) (by decide)), (f6.keep (i := 8) (by decide)), (Gd.new rfl), (Gd.new (by first | rfl | simp)), (f9.keep (i := 8) (by decide)), (f10.keep (i := 8) (by decide)), (f11.keep (i := 8) (by decide)), (Gd.keep (i := 8) (rb.imp fun h => Ng.keep (i := 8) h (by decide)) (by decide)), (ra.keep (i := 8) (by decide)), (Gd.keep (i := 8) (za.imp fun h => Ng.keep (i := 8) h (by decide)) (by decide)), (zb.keep (i := 8) (by decide)), (s6.keep (i := 8) (by decide)), (s9.keep (i := 8) (by decide)), (s11.keep (i := 8) (by decide)), (Gd.keep (i := 8) (nb.imp fun h => Gd.keep (i := 8) h (by decide)) (by decide)), (Gd.keep (i := 8) (na.imp fun h => Gd.keep (i := 8) h (by decide)) (by decide)), hz, hbel⟩⟩
    refine .cons 10 rfl ?_ ?_
    · intro d a w9 hsz hcl hinv hd hdep
      obtain ⟨⟨u6, u42, u43, u44, u45, u46, u47, u48, u49, u50, u51, u52, g6, g9, g11, k9, rfl, f0, f1, f2, f3, f4, f5, f6, f7, f8, f9, f10, f11, rb, ra, za, zb, s6, s9, s11, nb, na, hz, hbel⟩⟩ := hinv
      have e6 := f6 (hdep.get 6 rfl)
      subst e6
      have e8 := f8 (hdep.get 8 rfl)
      subst e8
      have nbl := hcl.not hd 10 _ rfl rfl
      have dj := hdep.get 6 rfl
      have hown := rb dj hd
      have hsrc := HSrc.out.below hbel (Nat.le_refl _)
      have sb := s6 dj
      refine push_all rfl rfl _ _ rfl (lo := w2.heap.size) (v := .slice (some ⟨g6, 0, none⟩) 0 0) (zs := []) (ys := zA) rfl hown bA oA cA rfl hsrc.2.2.2 HYp.out (by have := HYl.out; simp; omega) hz ?_
      intro g9 k9 w8 hr8 hp8
      have hb8 : Below w2.heap.size w9 w8 := Below.pushed (Below.refl _ _ |> fun h => ⟨h.1, h.2, h.3, h.4, h.5⟩) hp8 hown (Nat.le_refl _) hz
      have hgr := hp8.1
      have hgn := hp8.2.1
      have hgl := hp8.2.2
      have hz8 := hb8.size
      have hown8 : RowO w8 w2.heap.size (.slice (some ⟨g9, 0, none⟩) zA.length k9) zA := by simpa using hr8
      go_wp2_with fail
      exact ⟨⟨u6, u42, u43, u44, u45, u46, u47, (.slice (some ⟨g6, 0, none⟩) 0 0), u49, (.slice (some ⟨bA, oA, none⟩) zA.length cA), (.slice (some ⟨g9, 0, none⟩) zA.length k9), u52, g6, g9, g11, k9, rfl, (f0.keep (i := 9) (by decide)), (f1.keep (i := 9) (by decide)), (f2.keep (i := 9) (by decide)), (f3.keep (i := 9) (by decide)), (f4.keep (i := 9) (by decide)), (f5.keep (i := 9) (by decide)), (Gd.new rfl), (f7.keep (i := 9) (by decide)), (Gd.new rfl), (Gd.new (by first | rfl | simp)), (Gd.undone (i := 9) nbl (by decide)), (f11.keep (i := 9) (by decide)), (fun _ => Ng.new (by rw [hsz]; exact (by decide : 9 < 13))), (Gd.new hown8), (Gd.keep (i := 9) (fun h9 => Ng.keep (i := 9) (fun h7 => Bw.grown9 (za h9 h7) hgr (by have h6 := nb dj h9; simp only [Value.ownBlock, ne_eq, Option.some.injEq]; omega)) (by decide)) (by decide)), (Gd.undone (i := 9) (hcl.not nbl 12 _ rfl rfl) (by decide)), (Gd.keep (i := 9) (fun h9 => ⟨Nat.lt_of_lt_of_le (s6 h9).1 hz8, (s6 h9).2⟩) (by decide)), (Gd.new ⟨hgl, (hown8.lo g9 rfl).1⟩), (Gd.keep (i := 9) (fun h9 => ⟨Nat.lt_of_lt_of_le (s11 h9).1 hz8, (s11 h9).2⟩) (by decide)), (Gd.keep (i := 9) (nb.imp fun h => Gd.keep (i := 9) h (by decide)) (by decide)), (fun _ hj => by rw [set_ne (by decide)] at hj; have h9 := (s11 hj).1; have h8 := nb dj hj; rcases hgn with h7 | h7; (simp only [Value.ownBlock, Option.some.injEq] at h7; omega); omega), (Nat.le_trans hz hz8), (hbel.trans hb8)⟩⟩
    refine .cons 11 rfl ?_ ?_
    · intro d a w9 hsz hcl hinv hd hdep
      obtain ⟨⟨u6, u42, u43, u44, u45, u46, u47, u48, u49, u50, u51, u52, g6, g9, g11, k9, rfl, f0, f1, f2, f3, f4, f5, f6, f7, f8, f9, f10, f11, rb, ra, za, zb, s6, s9, s11, nb, na, hz, hbel⟩⟩ := hinv
      have e1 := f1 (hdep.get 1 rfl)
      subst e1
      have e3 := f3 (hdep.get 3 rfl)
      subst e3
      have e5 := f5 (hdep.get 5 rfl)
      subst e5
      have e9 := f9 (hdep.get 9 rfl)
      subst e9
      go_wp2_with fail
      exact ⟨⟨u6, u42, (.string nA), u44, (.int .i64 stA), u46, (.int .i64 spA), u48, u49, u50, (.slice (some ⟨g9, 0, none⟩) zA.length k9), (.agg #[.string nA, .int .i64 stA, .int .i64 spA, .slice (some ⟨g9, 0, none⟩) zA.length k9]), g6, g9, g11, k9, rfl, (f0.keep (i := 10) (by decide)), (Gd.new rfl), (f2.keep (i := 10) (by decide)), (Gd.new rfl), (f4.keep (i := 10) (by decide)), (Gd.new rfl), (f6.keep (i := 10) (by decide)), (f7.keep (i := 10) (by decide)), (f8.keep (i := 10) (by decide)), (Gd.new rfl), (Gd.new (by first | rfl | simp)), (f11.keep (i := 10) (by decide)), (Gd.keep (i := 10) (rb.imp fun h => Ng.keep (i := 10) h (by decide)) (by decide)), (ra.keep (i := 10) (by decide)), (Gd.keep (i := 10) (za.imp fun h => Ng.keep (i := 10) h (by decide)) (by decide)), (zb.keep (i := 10) (by decide)), (s6.keep (i := 10) (by decide)), (s9.keep (i := 10) (by decide)), (s11.keep (i := 10) (by decide)), (Gd.keep (i := 10) (nb.imp fun h => Gd.keep (i := 10) h (by decide)) (by decide)), (Gd.keep (i := 10) (na.imp fun h => Gd.keep (i := 10) h (by decide)) (by decide)), hz, hbel⟩⟩
    refine .cons 12 rfl ?_ ?_
    · intro d a w9 hsz hcl hinv hd hdep
      obtain ⟨⟨u6, u42, u43, u44, u45, u46, u47, u48, u49, u50, u51, u52, g6, g9, g11, k9, rfl, f0, f1, f2, f3, f4, f5, f6, f7, f8, f9, f10, f11, rb, ra, za, zb, s6, s9, s11, nb, na, hz, hbel⟩⟩ := hinv
      have na_ := hcl.not hd 12 _ rfl rfl
      go_wp2_with fail
      exact ⟨⟨(.pointer (some ⟨w9.heap.size, 0, none⟩)), u42, u43, u44, u45, u46, u47, u48, u49, u50, u51, u52, g6, g9, w9.heap.size, k9, rfl, (f0.keep (i := 11) (by decide)), (f1.keep (i := 11) (by decide)), (f2.keep (i := 11) (by decide)), (f3.keep (i := 11) (by decide)), (f4.keep (i := 11) (by decide)), (f5.keep (i := 11) (by decide)), (f6.keep (i := 11) (by decide)), (f7.keep (i := 11) (by decide)), (f8.keep (i := 11) (by decide)), (f9.keep (i := 11) (by decide)), (f10.keep (i := 11) (by decide)), (Gd.new (by first | rfl | simp)), (Gd.keep (i := 11) (rb.imp fun h => Ng.keep (i := 11) (h.imp fun h => h.alloc _) (by decide)) (by decide)), (Gd.keep (i := 11) (fun h9 => (ra h9).alloc _) (by decide)), (Gd.new fun _ => by have h9 := Bw.new w9 ZR 49; exact h9), (Gd.undone (i := 11) na_ (by decide)), (Gd.keep (i := 11) (fun h9 => ⟨by have := (s6 h9).1; simp; omega, (s6 h9).2⟩) (by decide)), (Gd.keep (i := 11) (fun h9 => ⟨by have := (s9 h9).1; simp; omega, (s9 h9).2⟩) (by decide)), (Gd.new ⟨by simp, hz⟩), (fun hj _ => by rw [set_ne (by decide)] at hj; have h9 := (s6 hj).1; omega), (fun hj _ => by rw [set_ne (by decide)] at hj; have h9 := (s9 hj).1; omega), (by simp; omega), (hbel.alloc (by have := hbel.size; omega) _)⟩⟩
    refine .cons 13 rfl ?_ trivial
    · intro d a w9 hsz hcl hinv hd hdep
      obtain ⟨⟨u6, u42, u43, u44, u45, u46, u47, u48, u49, u50, u51, u52, g6, g9, g11, k9, rfl, f0, f1, f2, f3, f4, f5, f6, f7, f8, f9, f10, f11, rb, ra, za, zb, s6, s9, s11, nb, na, hz, hbel⟩⟩ := hinv
      have e10 := f10 (hdep.get 10 rfl)
      subst e10
      have e11 := f11 (hdep.get 11 rfl)
      subst e11
      have da := hdep.get 11 rfl
      have hbp := za da hd
      have sa := s11 da
      have hc0 := hbp.c 0 rfl
      have hc1 := hbp.c 1 rfl
      have hc2 := hbp.c 2 rfl
      have hc3 := hbp.c 3 rfl
      have hf0 := hbp.f 0 (by decide)
      have hf1 := hbp.f 1 (by decide)
      have hf2 := hbp.f 2 (by decide)
      have hf3 := hbp.f 3 (by decide)
      go_wp2_with fail
      exact ⟨⟨(.pointer (some ⟨g11, 0, none⟩)), u42, u43, u44, u45, u46, u47, u48, u49, u50, u51, (.agg #[.string nA, .int .i64 stA, .int .i64 spA, .slice (some ⟨g9, 0, none⟩) zA.length k9]), g6, g9, g11, k9, rfl, (f0.keep (i := 12) (by decide)), (f1.keep (i := 12) (by decide)), (f2.keep (i := 12) (by decide)), (f3.keep (i := 12) (by decide)), (f4.keep (i := 12) (by decide)), (f5.keep (i := 12) (by decide)), (f6.keep (i := 12) (by decide)), (f7.keep (i := 12) (by decide)), (f8.keep (i := 12) (by decide)), (f9.keep (i := 12) (by decide)), (Gd.new rfl), (Gd.new rfl), (Gd.keep (i := 12) (fun h9 => Ng.keep (i := 12) (fun h7 => (((((rb h9 h7).setFar (by have h6 := nb h9 da; simp only [Value.ownBlock, ne_eq, Option.some.injEq]; omega) _).setFar (by have h6 := nb h9 da; simp only [Value.ownBlock, ne_eq, Option.some.injEq]; omega) _).setFar (by have h6 := nb h9 da; simp only [Value.ownBlock, ne_eq, Option.some.injEq]; omega) _).setFar (by have h6 := nb h9 da; simp only [Value.ownBlock, ne_eq, Option.some.injEq]; omega) _)) (by decide)) (by decide)), (Gd.keep (i := 12) (fun h9 => (((((ra h9).setFar (by have h6 := na h9 da; simp only [Value.ownBlock, ne_eq, Option.some.injEq]; omega) _).setFar (by have h6 := na h9 da; simp only [Value.ownBlock, ne_eq, Option.some.injEq]; omega) _).setFar (by have h6 := na h9 da; simp only [Value.ownBlock, ne_eq, Option.some.injEq]; omega) _).setFar (by have h6 := na h9 da; simp only [Value.ownBlock, ne_eq, Option.some.injEq]; omega) _)) (by decide)), (fun _ => Ng.new (by rw [hsz]; exact (by decide : 12 < 13))), (Gd.new (by have h9 := ((((hbp.put 0 (by simp [ZR]) (.string nA)).put 1 (by simp [ZR]) (.int .i64 stA)).put 2 (by simp [ZR]) (.int .i64 spA)).put 3 (by simp [ZR]) (.slice (some ⟨g9, 0, none⟩) zA.length k9)); exact h9)), (Gd.keep (i := 12) (fun h9 => ⟨by simp only [setCell_size]; exact (s6 h9).1, (s6 h9).2⟩) (by decide)), (Gd.keep (i := 12) (fun h9 => ⟨by simp only [setCell_size]; exact (s9 h9).1, (s9 h9).2⟩) (by decide)), (Gd.keep (i := 12) (fun h9 => ⟨by simp only [setCell_size]; exact (s11 h9).1, (s11 h9).2⟩) (by decide)), (Gd.keep (i := 12) (nb.imp fun h => Gd.keep (i := 12) h (by decide)) (by decide)), (Gd.keep (i := 12) (na.imp fun h => Gd.keep (i := 12) h (by decide)) (by decide)), (by simp only [setCell_size]; exact hz), ((((hbel.setCell sa.2 _).setCell sa.2 _).setCell sa.2 _).setCell sa.2 _)⟩⟩
  intro d a w9 hinv hall
  obtain ⟨⟨u6, u42, u43, u44, u45, u46, u47, u48, u49, u50, u51, u52, g6, g9, g11, k9, rfl, f0, f1, f2, f3, f4, f5, f6, f7, f8, f9, f10, f11, rb, ra, za, zb, s6, s9, s11, nb, na, hz, hbel⟩⟩ := hinv
  have RA := Lib.hid (ra (hall 9 (by decide)))
  have ZB := Lib.hid (zb (hall 12 (by decide)))
  have SAP := Lib.hid (s9 (hall 9 (by decide)))
  have SAL := Lib.hid (s11 (hall 11 (by decide)))
  have NA := Lib.hid (na (hall 9 (by decide)) (hall 11 (by decide)))
  have HBL9 := Lib.hid hbel
  have HZ9 := Lib.hid hz
  have eal := f11 (hall 11 (by decide))
  subst eal
  clear f0 f1 f2 f3 f4 f5 f6 f7 f8 f9 f10 f11 rb ra za zb s6 s9 s11 nb na hz hbel
  clear xa0 xa1 xa2 xa3 xb0 xb1 xb2 xb3
  have hxb9 := HXB.out.below HBL9.out (by rw [HS2.out]; omega)
  obtain ⟨xb0, xb1, xb2, xb3, _⟩ := hxb9
  have d0 := ZB.out.c 0 rfl
  have d1 := ZB.out.c 1 rfl
  have d2 := ZB.out.c 2 rfl
  have d3 := ZB.out.c 3 rfl
  have hsr := HSb.out.below HBL9.out (Nat.le_refl _)
  have HSr9 := Lib.hid hsr
  clear hsr
  go_wp2_with (at_builtin; refine push_all rfl rfl _ _ rfl (lo := w2.heap.size) (v := .slice (some ⟨g9, 0, none⟩) zA.length k9) (zs := zA) (ys := zB) rfl RA.out bB oB cB rfl HSr9.out.2.2.2 (by have := HYl.out; omega) (by have := HYl.out; omega) HZ9.out ?_)
  intro gn kn w10 hr10 hp10
  have HRow := Lib.hid hr10
  have hb10 : Below w2.heap.size w9 w10 := Below.pushed (Below.refl _ _ |> fun h => ⟨h.1, h.2, h.3, h.4, h.5⟩) hp10 RA.out (Nat.le_refl _) HZ9.out
  have HB10 := Lib.hid (HBL9.out.trans hb10)
  have hz10 := ZB.out.grown9 hp10.1 (by have h6 := NA.out; simp only [Value.ownBlock, ne_eq, Option.some.injEq]; omega)
  have HZb := Lib.hid hz10
  have HGn : Hid (gn ≠ g11) := Lib.hid (by have h6 := NA.out; have h5 := SAL.out.1; rcases hp10.2.1 with h7 | h7; (simp only [Value.ownBlock, Option.some.injEq] at h7; omega); omega)
  clear hr10 hp10 hb10 hz10 d0 d1 d2 d3 xb0 xb1 xb2 xb3
  have d0 := HZb.out.c 0 rfl
  have d1 := HZb.out.c 1 rfl
  have d2 := HZb.out.c 2 rfl
  have d3 := HZb.out.c 3 rfl
  have e0 := HZb.out.f 0 (by simp)
  have e1 := HZb.out.f 1 (by simp)
  have e2 := HZb.out.f 2 (by simp)
  have e3 := HZb.out.f 3 (by simp)
  have hput := HZb.out.put 3 (by simp) (.slice (some ⟨gn, 0, none⟩) (zA.length + zB.length) kn)
  have hrow11 : RowO (w10.setCell ⟨g11, 3, none⟩ (.slice (some ⟨gn, 0, none⟩) (zA.length + zB.length) kn)) w2.heap.size (.slice (some ⟨gn, 0, none⟩) (zA.length + zB.length) kn) (zA ++ zB) := HRow.out.setFar (by have h6 := HGn.out; simp only [Value.ownBlock, ne_eq, Option.some.injEq]; omega) _
  have hb11 : Below w2.heap.size w2 (w10.setCell ⟨g11, 3, none⟩ (.slice (some ⟨gn, 0, none⟩) (zA.length + zB.length) kn)) := HB10.out.setCell SAL.out.2 _
  obtain ⟨w11, hw11⟩ : ∃ W, w10.setCell ⟨g11, 3, none⟩ (.slice (some ⟨gn, 0, none⟩) (zA.length + zB.length) kn) = W := ⟨_, rfl⟩
  rw [hw11] at hput hrow11 hb11
  have HPut : Hid (Bw w11 g11 [.string nA, .int .i64 stA, .int .i64 spA, .slice (some ⟨gn, 0, none⟩) (zA.length + zB.length) kn]) := Lib.hid hput
  have HRow11 := Lib.hid hrow11
  have HB11 := Lib.hid hb11
  clear hput hrow11 hb11
  go_upto_region 5 with fail
  (try rw [hw11])
  clear d0 d1 d2 d3 e0 e1 e2 e3 hw11
  have d0 := HPut.out.c 0 rfl
  have d1 := HPut.out.c 1 rfl
  have d2 := HPut.out.c 2 rfl
  have d3 := HPut.out.c 3 rfl
  have HBox : Hid (BoxH w11 g11 nA stA spA (.slice (some ⟨gn, 0, none⟩) (zA.length + zB.length) kn)) := Lib.hid ⟨d0, d1, d2, d3, HPut.out.1.1⟩
  have HP9 := Lib.hid (HP2.out.below HB11.out (by rw [HS2.out]; omega))
  have HBW := Lib.hid (HB.out.trans (HB11.out.mono (by rw [HS2.out]; omega)) : Below w.heap.size w w11)
  go_wp2_with fail
  refine (l07Record_o g11 nA stA spA (some ⟨gn, 0, none⟩) (zA.length + zB.length) kn w11 HBox.out hsA (by have := HYl.out; omega)).mono ?_
  rintro e w' ⟨ok, hok, rfl, rfl⟩
  have HOk := Lib.hid hok
  clear hok
  have q0 := HP9.out.c 0 rfl
  have q1 := HP9.out.c 1 rfl
  have q2 := HP9.out.c 2 rfl
  have q3 := HP9.out.c 3 rfl
  have f0 := HP9.out.f 0 (by decide)
  have f1 := HP9.out.f 1 (by decide)
  have f2 := HP9.out.f 2 (by decide)
  have f3 := HP9.out.f 3 (by decide)
  cases ok
  · have HR : Hid (R = failR) := Lib.hid (by rw [HJ.out]; exact giveR_n (by rw [List.length_append]; exact HOk.out))
    go_wp2_with fail
    obtain ⟨W9, hW9⟩ : ∃ W, ((((w11.setCell ⟨w.heap.size + 2, 0, none⟩ (.string ⟨#[]⟩)).setCell ⟨w.heap.size + 2, 1, none⟩ (.int .i64 0)).setCell ⟨w.heap.size + 2, 2, none⟩ (.int .i64 0)).setCell ⟨w.heap.size + 2, 3, none⟩ (.slice none 0 0)) = W := ⟨_, rfl⟩
    have hb9 := Bx.four (HP9.out).1 (.string ⟨#[]⟩) (.int .i64 0) (.int .i64 0) (.slice none 0 0)
    have hl9 : Below w.heap.size w ((((w11.setCell ⟨w.heap.size + 2, 0, none⟩ (.string ⟨#[]⟩)).setCell ⟨w.heap.size + 2, 1, none⟩ (.int .i64 0)).setCell ⟨w.heap.size + 2, 2, none⟩ (.int .i64 0)).setCell ⟨w.heap.size + 2, 3, none⟩ (.slice none 0 0)) := ((((HBW.out).setCell (by first | (simp; done) | (simp; omega) | omega) _).setCell (by first | (simp; done) | (simp; omega) | omega) _).setCell (by first | (simp; done) | (simp; omega) | omega) _).setCell (by first | (simp; done) | (simp; omega) | omega) _
    rw [hW9] at hb9 hl9
    have p0 := hb9.c 0 rfl
    have p1 := hb9.c 1 rfl
    have p2 := hb9.c 2 rfl
    have p3 := hb9.c 3 rfl
    have HL9 := Lib.hid hl9
    clear hb9 hl9
    try rw [hW9]
    clear hW9 q0 q1 q2 q3 f0 f1 f2 f3 d0 d1 d2 d3
    refine bodyPost_ret (v := .tuple #[.agg ZR.toArray, .bool false]) (by first | (simp [results, Try.results45, go_sem, p0, p1, p2, p3]; done) | (simp [results, Try.results45, go_sem, p0, p1, p2, p3]; rfl)) rfl ?_
    rw [HR.out]
    exact ⟨none, 0, rfl, HL9.out, FRow.nil _ _⟩
  · have HR : Hid (R = ⟨nA, stA, spA, zA ++ zB, true⟩) := Lib.hid (by rw [HJ.out]; exact giveR_y (by rw [List.length_append]; exact HOk.out))
    have h6 : RowO ((((w11.setCell ⟨w.heap.size + 2, 0, none⟩ (.string nA)).setCell ⟨w.heap.size + 2, 1, none⟩ (.int .i64 stA)).setCell ⟨w.heap.size + 2, 2, none⟩ (.int .i64 spA)).setCell ⟨w.heap.size + 2, 3, none⟩ (.slice (some ⟨gn, 0, none⟩) (zA.length + zB.length) kn)) w2.heap.size (.slice (some ⟨gn, 0, none⟩) (zA.length + zB.length) kn) (zA ++ zB) := (((HRow11.out.setFar (by have h6 := (HRow11.out.lo gn rfl).1; rw [HS2.out] at h6; simp only [Value.ownBlock, ne_eq, Option.some.injEq]; omega) _).setFar (by have h6 := (HRow11.out.lo gn rfl).1; rw [HS2.out] at h6; simp only [Value.ownBlock, ne_eq, Option.some.injEq]; omega) _).setFar (by have h6 := (HRow11.out.lo gn rfl).1; rw [HS2.out] at h6; simp only [Value.ownBlock, ne_eq, Option.some.injEq]; omega) _).setFar (by have h6 := (HRow11.out.lo gn rfl).1; rw [HS2.out] at h6; simp only [Value.ownBlock, ne_eq, Option.some.injEq]; omega) _
    have H6 := Lib.hid h6
    clear h6
    go_wp2_with fail
    obtain ⟨W9, hW9⟩ : ∃ W, ((((w11.setCell ⟨w.heap.size + 2, 0, none⟩ (.string nA)).setCell ⟨w.heap.size + 2, 1, none⟩ (.int .i64 stA)).setCell ⟨w.heap.size + 2, 2, none⟩ (.int .i64 spA)).setCell ⟨w.heap.size + 2, 3, none⟩ (.slice (some ⟨gn, 0, none⟩) (zA.length + zB.length) kn)) = W := ⟨_, rfl⟩
    have hb9 := Bx.four (HP9.out).1 (.string nA) (.int .i64 stA) (.int .i64 spA) (.slice (some ⟨gn, 0, none⟩) (zA.length + zB.length) kn)
    have hl9 : Below w.heap.size w ((((w11.setCell ⟨w.heap.size + 2, 0, none⟩ (.string nA)).setCell ⟨w.heap.size + 2, 1, none⟩ (.int .i64 stA)).setCell ⟨w.heap.size + 2, 2, none⟩ (.int .i64 spA)).setCell ⟨w.heap.size + 2, 3, none⟩ (.slice (some ⟨gn, 0, none⟩) (zA.length + zB.length) kn)) := ((((HBW.out).setCell (by first | (simp; done) | (simp; omega) | omega) _).setCell (by first | (simp; done) | (simp; omega) | omega) _).setCell (by first | (simp; done) | (simp; omega) | omega) _).setCell (by first | (simp; done) | (simp; omega) | omega) _
    rw [hW9] at hb9 hl9
    have p0 := hb9.c 0 rfl
    have p1 := hb9.c 1 rfl
    have p2 := hb9.c 2 rfl
    have p3 := hb9.c 3 rfl
    have HL9 := Lib.hid hl9
    clear hb9 hl9
    rw [hW9] at H6
    try rw [hW9]
    clear hW9 q0 q1 q2 q3 f0 f1 f2 f3 d0 d1 d2 d3
    refine bodyPost_ret (v := .tuple #[.agg #[.string nA, .int .i64 stA, .int .i64 spA, .slice (some ⟨gn, 0, none⟩) (zA.length + zB.length) kn], .bool true]) (by first | (simp [results, Try.results45, go_sem, p0, p1, p2, p3]; done) | (simp [results, Try.results45, go_sem, p0, p1, p2, p3]; rfl)) rfl ?_
    rw [HR.out]
    have h7 : RowO W9 w2.heap.size (.slice (some ⟨gn, 0, none⟩) (zA ++ zB).length kn) (zA ++ zB) := by rw [List.length_append]; exact H6.out
    exact ⟨some ⟨gn, 0, none⟩, kn, by rw [List.length_append], HL9.out, (FRow.mk h7).mono HB.out.size (Nat.le_refl _) (Nat.le_refl _)⟩

end Go.Proofs.Ytdmcjloaommnpaa
