/- A canal's run: the program. -/
import Derived.Test.YtgnkpppbhibfoaaRunCD
import Derived.Test.YtgnkpppbhibfoaaStepCI
namespace Go.Proofs.Ytgnkpppbhibfoaa
open Go.RowKit
set_option linter.unusedVariables false
set_option linter.unusedSimpArgs false
set_option maxRecDepth 100000
attribute [local irreducible] wpV wpList Code.wp

structure rcInvS (w0 : World) (t0_ t1_ t2_ t3_ t4_ t5_ t6_ t7_ t8_ t9_ t10_ t11_ t12_ t13_ t14_ t15_ t16_ t17_ t18_ t19_ t20_ t21_ t22_ t23_ t24_ t25_ t26_ t35_ t36_ t37_ t38_ t39_ t40_ t41_ t42_ t43_ t44_ t45_ t46_ t47_ t48_ t49_ t50_ t51_ t52_ t53_ t54_ t55_ t56_ t57_ t58_ t59_ t60_ t61_ t62_ t63_ t64_ t65_ t66_ t67_ t68_ : Value) (b r : Nat) (a0 a1 : Option Addr) (c0 c1 n0 n1 n2 : Nat) (S O : List Nat) (d : Array Bool) (a : Act) (w : World) where
  u27 : Value
  u28 : Value
  u29 : Value
  u30 : Value
  u31 : Value
  u32 : Value
  u33 : Value
  u34 : Value
  g0 : Nat
  k0 : Nat
  g1 : Nat
  k1 : Nat
  mid : Nat
  v3 : Value
  v4 : Value
  ea : a = ⟨#[t0_, t1_, t2_, t3_, t4_, t5_, t6_, t7_, t8_, t9_, t10_, t11_, t12_, t13_, t14_, t15_, t16_, t17_, t18_, t19_, t20_, t21_, t22_, t23_, t24_, t25_, t26_, u27, u28, u29, u30, u31, u32, u33, u34, t35_, t36_, t37_, t38_, t39_, t40_, t41_, t42_, t43_, t44_, t45_, t46_, t47_, t48_, t49_, t50_, t51_, t52_, t53_, t54_, t55_, t56_, t57_, t58_, t59_, t60_, t61_, t62_, t63_, t64_, t65_, t66_, t67_, t68_], []⟩
  f0 : Gd d 0 (u27 = .pointer (some ⟨b, 3, none⟩))
  f1 : Gd d 1 (u28 = .slice a0 S.length c0)
  f2 : Gd d 2 (u29 = .slice (some ⟨g0, 0, none⟩) S.length k0)
  f3 : Gd d 3 (u30 = .pointer (some ⟨b, 4, none⟩))
  f4 : Gd d 4 (u31 = .slice a1 S.length c1)
  f5 : Gd d 5 (u32 = .slice (some ⟨g1, 0, none⟩) S.length k1)
  f6 : Gd d 6 (u33 = .pointer (some ⟨b, 3, none⟩))
  f8 : Gd d 8 (u34 = .pointer (some ⟨b, 4, none⟩))
  r2 : Gd d 2 (RowO w w0.heap.size (.slice (some ⟨g0, 0, none⟩) S.length k0) S ∧ g0 < mid ∧ mid ≤ w.heap.size)
  r5 : Gd d 5 (RowO w mid (.slice (some ⟨g1, 0, none⟩) S.length k1) O)
  bw : Bw w b [.float .f32 n0, .float .f32 n1, .float .f32 n2, v3, v4]
  o3 : Ng d 7 (v3 = .slice a0 S.length c0)
  m3 : Gd d 7 (v3 = .slice (some ⟨g0, 0, none⟩) S.length k0)
  o4 : Ng d 9 (v4 = .slice a1 S.length c1)
  m4 : Gd d 9 (v4 = .slice (some ⟨g1, 0, none⟩) S.length k1)
  hr : Bw w r [.float .f32 0, .float .f32 0, .float .f32 0, .slice none 0 0, .slice none 0 0]
  hbel : Below b w0 w
def rcInv (w0 : World) (t0_ t1_ t2_ t3_ t4_ t5_ t6_ t7_ t8_ t9_ t10_ t11_ t12_ t13_ t14_ t15_ t16_ t17_ t18_ t19_ t20_ t21_ t22_ t23_ t24_ t25_ t26_ t35_ t36_ t37_ t38_ t39_ t40_ t41_ t42_ t43_ t44_ t45_ t46_ t47_ t48_ t49_ t50_ t51_ t52_ t53_ t54_ t55_ t56_ t57_ t58_ t59_ t60_ t61_ t62_ t63_ t64_ t65_ t66_ t67_ t68_ : Value) (b r : Nat) (a0 a1 : Option Addr) (c0 c1 n0 n1 n2 : Nat) (S O : List Nat) (d : Array Bool) (a : Act) (w : World) : Prop := Nonempty (rcInvS w0 t0_ t1_ t2_ t3_ t4_ t5_ t6_ t7_ t8_ t9_ t10_ t11_ t12_ t13_ t14_ t15_ t16_ t17_ t18_ t19_ t20_ t21_ t22_ t23_ t24_ t25_ t26_ t35_ t36_ t37_ t38_ t39_ t40_ t41_ t42_ t43_ t44_ t45_ t46_ t47_ t48_ t49_ t50_ t51_ t52_ t53_ t54_ t55_ t56_ t57_ t58_ t59_ t60_ t61_ t62_ t63_ t64_ t65_ t66_ t67_ t68_ b r a0 a1 c0 c1 n0 n1 n2 S O d a w)

set_option maxHeartbeats 16000000 in
theorem runCanal_i {N0 N1 N2 T : Option Nat} {n0 n1 n2 t : Nat} (a0 a1 : Option Addr) (c0 c1 : Nat) (S O : List Nat) (a2 : Option Addr) (c2 : Nat) (X : List Nat) (w : World) (gt : Is32 T t) (gn0 : Is32 N0 n0) (gn1 : Is32 N1 n1) (gn2 : Is32 N2 n2) (h0 : RowF .f32 w a0 S) (hl0 : S.length ≤ 1048576) (hz0 : ∀ z ∈ S, z < 4294967296) (h1 : RowF .f32 w a1 O) (hl1 : O.length ≤ 1048576) (hz1 : ∀ z ∈ O, z < 4294967296) (hx : RowF .f32 w a2 X) (hlx : X.length ≤ 1048576) (hzx : ∀ z ∈ X, z < 4294967296) :
    Calls Try.prog 34 #[.agg #[.float .f32 n0, .float .f32 n1, .float .f32 n2, .slice a0 S.length c0, .slice a1 O.length c1], .slice a2 X.length c2, .float .f32 t] w (RunI (runC N0 N1 N2 S O X T) w) := by
  obtain ⟨Q, hQ⟩ : ∃ Q, runC N0 N1 N2 S O X T = Q := ⟨_, rfl⟩
  rw [hQ]
  have HQ := Lib.hid hQ
  clear hQ
  have H0 := Lib.hid h0
  have H1 := Lib.hid h1
  have HZ0 := Lib.hid hz0
  have HZ1 := Lib.hid hz1
  clear h0 h1 hz0 hz1
  have HX := Lib.hid hx
  have HZX := Lib.hid hzx
  clear hx hzx
  go_enter Try.func34, Try.ntmps34
  go_wp2_with fail
  refine (validCanal_i a0 a1 c0 c1 S O _ gn0 gn1 gn2 (H0.out.below (bel2 _ _ _) (Nat.le_refl _)) hl0 HZ0.out (H1.out.below (bel2 _ _ _) (Nat.le_refl _)) hl1 HZ1.out).mono ?_
  rintro e w1 ⟨bb, hbb, rfl, hb⟩
  have HB1 : Hid (Below w.heap.size w w1) := Lib.hid ((bel2 w _ _).trans (hb.mono (by simp; omega)))
  have hbx : Bw w1 w.heap.size [.float .f32 n0, .float .f32 n1, .float .f32 n2, .slice a0 S.length c0, .slice a1 O.length c1] := (((Bw.new w [.float .f32 n0, .float .f32 n1, .float .f32 n2, .slice a0 S.length c0, .slice a1 O.length c1] 36).alloc (.cells #[.float .f32 0, .float .f32 0, .float .f32 0, .slice none 0 0, .slice none 0 0] 36))).below hb (by simp; omega)
  have bw : Bw w1 (w.heap.size + 1) [.float .f32 0, .float .f32 0, .float .f32 0, .slice none 0 0, .slice none 0 0] := by have h9 := Bw.new (w.alloc (.cells #[.float .f32 n0, .float .f32 n1, .float .f32 n2, .slice a0 S.length c0, .slice a1 O.length c1] 36)) [.float .f32 0, .float .f32 0, .float .f32 0, .slice none 0 0, .slice none 0 0] 36; rw [show (w.alloc (.cells #[.float .f32 n0, .float .f32 n1, .float .f32 n2, .slice a0 S.length c0, .slice a1 O.length c1] 36)).heap.size = w.heap.size + 1 by simp] at h9; exact h9.below hb (by simp)
  have hs1 : w.heap.size + 1 + 1 ≤ w1.heap.size := by have := hb.size; simp at this; omega
  have P0 := Lib.hid hbb
  have q0 := bw.c 0 rfl
  have q1 := bw.c 1 rfl
  have q2 := bw.c 2 rfl
  have q3 := bw.c 3 rfl
  have q4 := bw.c 4 rfl
  have f0 := bw.f 0 (by simp)
  have f1 := bw.f 1 (by simp)
  have f2 := bw.f 2 (by simp)
  have f3 := bw.f 3 (by simp)
  have f4 := bw.f 4 (by simp)
  have BR := Lib.hid bw
  have BX := Lib.hid hbx
  have HS1 := Lib.hid hs1
  clear hbb bw hbx hb hs1
  cases bb
  · have hv : Q = (failCan, []) := by rw [← HQ.out]; refine runC_no ?_; rw [P0.out]; first | rfl | (simp only [Bool.false_and, Bool.and_false, Bool.true_and, Bool.and_true]; done) | (simp only [Bool.false_and, Bool.and_false, Bool.true_and, Bool.and_true]; rfl)
    have HV := Lib.hid hv
    clear hv
    go_wp2_with fail
    rw [HV.out]
    exact bodyPost_ret (v := .tuple #[.agg #[.float .f32 0, .float .f32 0, .float .f32 0, .slice none 0 0, .slice none 0 0], .slice none 0 0, .bool false]) (by first | (simp [results, Try.results34, go_sem, q0, q1, q2, q3, q4, f0, f1, f2, f3, f4]; done) | (simp (maxDischargeDepth := 12) [results, Try.results34, go_sem, q0, q1, q2, q3, q4, f0, f1, f2, f3, f4]; done) | (simp (maxDischargeDepth := 12) [results, Try.results34, go_sem, q0, q1, q2, q3, q4, f0, f1, f2, f3, f4]; rfl)) rfl (RunI.no (by repeat (first | with_reducible exact HB1.out | with_reducible refine beld ?_ _ | (with_reducible refine Below.alloc ?_ ?_ _; rotate_left; exact (by first | (simp; done) | (simp; omega) | omega)) | (with_reducible refine Below.setCell ?_ ?_ _; rotate_left; exact (by first | (simp; done) | (simp; omega) | omega)))))
  by_cases hX : X.length ≤ 128
  rotate_left
  · have hxi : (128 : Int) < (X.length : Int) := by omega
    have hv : Q = (failCan, []) := by rw [← HQ.out]; refine runC_no ?_; rw [P0.out, decide_eq_false hX]; first | rfl | (simp only [Bool.false_and, Bool.and_false, Bool.true_and, Bool.and_true]; done) | (simp only [Bool.false_and, Bool.and_false, Bool.true_and, Bool.and_true]; rfl)
    have HV := Lib.hid hv
    clear hv
    go_wp2_with fail
    rw [HV.out]
    exact bodyPost_ret (v := .tuple #[.agg #[.float .f32 0, .float .f32 0, .float .f32 0, .slice none 0 0, .slice none 0 0], .slice none 0 0, .bool false]) (by first | (simp [results, Try.results34, go_sem, q0, q1, q2, q3, q4, f0, f1, f2, f3, f4]; done) | (simp (maxDischargeDepth := 12) [results, Try.results34, go_sem, q0, q1, q2, q3, q4, f0, f1, f2, f3, f4]; done) | (simp (maxDischargeDepth := 12) [results, Try.results34, go_sem, q0, q1, q2, q3, q4, f0, f1, f2, f3, f4]; rfl)) rfl (RunI.no (by repeat (first | with_reducible exact HB1.out | with_reducible refine beld ?_ _ | (with_reducible refine Below.alloc ?_ ?_ _; rotate_left; exact (by first | (simp; done) | (simp; omega) | omega)) | (with_reducible refine Below.setCell ?_ ?_ _; rotate_left; exact (by first | (simp; done) | (simp; omega) | omega)))))
  have hxi : ¬ (128 : Int) < (X.length : Int) := by omega
  go_wp2_with fail
  refine (isPositive_o _ gt).mono ?_
  rintro e w' ⟨bb, hbb, rfl, rfl⟩
  have P2 := Lib.hid hbb
  clear hbb
  cases bb
  · have hv : Q = (failCan, []) := by rw [← HQ.out]; refine runC_no ?_; rw [P0.out, P2.out]; first | rfl | (simp only [Bool.false_and, Bool.and_false, Bool.true_and, Bool.and_true]; done) | (simp only [Bool.false_and, Bool.and_false, Bool.true_and, Bool.and_true]; rfl)
    have HV := Lib.hid hv
    clear hv
    go_wp2_with fail
    rw [HV.out]
    exact bodyPost_ret (v := .tuple #[.agg #[.float .f32 0, .float .f32 0, .float .f32 0, .slice none 0 0, .slice none 0 0], .slice none 0 0, .bool false]) (by first | (simp [results, Try.results34, go_sem, q0, q1, q2, q3, q4, f0, f1, f2, f3, f4]; done) | (simp (maxDischargeDepth := 12) [results, Try.results34, go_sem, q0, q1, q2, q3, q4, f0, f1, f2, f3, f4]; done) | (simp (maxDischargeDepth := 12) [results, Try.results34, go_sem, q0, q1, q2, q3, q4, f0, f1, f2, f3, f4]; rfl)) rfl (RunI.no (by repeat (first | with_reducible exact HB1.out | with_reducible refine beld ?_ _ | (with_reducible refine Below.alloc ?_ ?_ _; rotate_left; exact (by first | (simp; done) | (simp; omega) | omega)) | (with_reducible refine Below.setCell ?_ ?_ _; rotate_left; exact (by first | (simp; done) | (simp; omega) | omega)))))
  have hq := P0.out
  unfold canalB at hq
  simp only [Bool.and_eq_true, decide_eq_true_eq] at hq
  have hp0 : 0 < S.length := by have := hq.1.1.1.2.1; omega
  have hp1 : O.length = S.length := hq.1.1.2
  clear hq q0 q1 q2 q3 q4 f0 f1 f2 f3 f4
  have BC0 : Hid (Bw w1 w.heap.size [.float .f32 n0, .float .f32 n1, .float .f32 n2, .slice a0 S.length c0, .slice a1 S.length c1]) := Lib.hid (by have h9 := BX.out; rw [hp1] at h9; exact h9)
  have HP1 := Lib.hid hp1
  have HC0 : Hid (∀ W : World, Below w.heap.size w1 W → Calls Try.prog 88 #[.slice a0 S.length c0] W fun e w' => ∃ g c, e = .returned (.slice (some ⟨g, 0, none⟩) S.length c) ∧ RowO w' W.heap.size (.slice (some ⟨g, 0, none⟩) S.length c) S ∧ Below W.heap.size W w') := Lib.hid fun W hb => clone_f a0 c0 S W (H0.out.below (HB1.out.trans hb) (Nat.le_refl _)) hl0 hp0
  have HC1 : Hid (∀ W : World, Below w.heap.size w1 W → Calls Try.prog 88 #[.slice a1 S.length c1] W fun e w' => ∃ g c, e = .returned (.slice (some ⟨g, 0, none⟩) S.length c) ∧ RowO w' W.heap.size (.slice (some ⟨g, 0, none⟩) S.length c) O ∧ Below W.heap.size W w') := Lib.hid fun W hb => by have h9 := clone_f a1 c1 O W (H1.out.below (HB1.out.trans hb) (Nat.le_refl _)) hl1 (by rw [hp1]; exact hp0); rw [hp1] at h9; exact h9
  have LOW : ∀ {lo : Nat} (W : World) (l9 : Nat) (v : Value) (zs : List Nat), lo ≤ l9 → RowO W l9 v zs → RowO W lo v zs := fun W l9 v zs hl h => (h.frow.mono hl (Nat.le_refl _) (Nat.le_refl _)).1
  have HBW0 : w.heap.size < w1.heap.size := by have := HS1.out; omega
  have HBR : w.heap.size ≠ w.heap.size + 1 := by omega
  have HBC0 := BC0.out.drewN 1
  have HRC0 := BR.out.drewN 1
  clear hp1 H0 H1 BX
  go_wp2_with fail
  refine wp_region_inv (id := 3) (rcInv w1 _ _ _ _ _ _ _ _ _ _ _ _ _ _ _ _ _ _ _ _ _ _ _ _ _ _ _ _ _ _ _ _ _ _ _ _ _ _ _ _ _ _ _ _ _ _ _ _ _ _ _ _ _ _ _ _ _ _ _ _ _ w.heap.size (w.heap.size + 1) a0 a1 c0 c1 n0 n1 n2 S O) (by kernel_rfl) (by kernel_rfl) ⟨⟨_, _, _, _, _, _, _, _, 0, 0, 0, 0, 0, _, _, rfl, .start, .start, .start, .start, .start, .start, .start, .start, .start, .start, HBC0, .start rfl, .start, .start rfl, .start, HRC0, beld (Below.refl _ _) 1⟩⟩ ?hend ?hsteps
  rotate_left
  case hsteps =>
    refine .cons 1 rfl ?_ ?_
    · intro d a w9 hsz hcl hinv hd hdep
      obtain ⟨⟨u27, u28, u29, u30, u31, u32, u33, u34, g0, k0, g1, k1, mid, v3, v4, rfl, f0, f1, f2, f3, f4, f5, f6, f8, r2, r5, bw, o3, m3, o4, m4, hr, hbel⟩⟩ := hinv
      go_wp2_with fail
      exact ⟨⟨(.pointer (some ⟨w.heap.size, 3, none⟩)), u28, u29, u30, u31, u32, u33, u34, g0, k0, g1, k1, mid, v3, v4, rfl, (Gd.new (by first | rfl | simp)), (f1.keep (i := 0) (by decide)), (f2.keep (i := 0) (by decide)), (f3.keep (i := 0) (by decide)), (f4.keep (i := 0) (by decide)), (f5.keep (i := 0) (by decide)), (f6.keep (i := 0) (by decide)), (f8.keep (i := 0) (by decide)), (r2.keep (i := 0) (by decide)), (r5.keep (i := 0) (by decide)), bw, (o3.keep (i := 0) (by decide)), (m3.keep (i := 0) (by decide)), (o4.keep (i := 0) (by decide)), (m4.keep (i := 0) (by decide)), hr, hbel⟩⟩
    refine .cons 2 rfl ?_ ?_
    · intro d a w9 hsz hcl hinv hd hdep
      obtain ⟨⟨u27, u28, u29, u30, u31, u32, u33, u34, g0, k0, g1, k1, mid, v3, v4, rfl, f0, f1, f2, f3, f4, f5, f6, f8, r2, r5, bw, o3, m3, o4, m4, hr, hbel⟩⟩ := hinv
      have e0 := f0 (hdep.get 0 rfl)
      subst e0
      have n2 := hcl.not hd 2 _ rfl rfl
      have n7 := hcl.not n2 7 _ rfl rfl
      have ex := o3 n7
      subst ex
      have kc := bw.c 3 rfl
      go_wp2_with fail
      exact ⟨⟨(.pointer (some ⟨w.heap.size, 3, none⟩)), (.slice a0 S.length c0), u29, u30, u31, u32, u33, u34, g0, k0, g1, k1, mid, (.slice a0 S.length c0), v4, rfl, (Gd.new rfl), (Gd.new (by first | rfl | simp)), (f2.keep (i := 1) (by decide)), (f3.keep (i := 1) (by decide)), (f4.keep (i := 1) (by decide)), (f5.keep (i := 1) (by decide)), (f6.keep (i := 1) (by decide)), (f8.keep (i := 1) (by decide)), (r2.keep (i := 1) (by decide)), (r5.keep (i := 1) (by decide)), bw, (Ng.keep (i := 1) (fun _ => rfl) (by decide)), (m3.keep (i := 1) (by decide)), (o4.keep (i := 1) (by decide)), (m4.keep (i := 1) (by decide)), hr, hbel⟩⟩
    refine .cons 3 rfl ?_ ?_
    · intro d a w9 hsz hcl hinv hd hdep
      obtain ⟨⟨u27, u28, u29, u30, u31, u32, u33, u34, g0, k0, g1, k1, mid, v3, v4, rfl, f0, f1, f2, f3, f4, f5, f6, f8, r2, r5, bw, o3, m3, o4, m4, hr, hbel⟩⟩ := hinv
      have e1 := f1 (hdep.get 1 rfl)
      subst e1
      have n5 := hcl.not hd 5 _ rfl rfl
      have n7 := hcl.not hd 7 _ rfl rfl
      have n9 := hcl.not n5 9 _ rfl rfl
      have hb9 := bw.1.1
      go_wp2_with fail
      refine (HC0.out _ hbel).mono ?_
      rintro e w8 ⟨gn, kn, rfl, hrow, hb⟩
      have hlo := hrow.lo gn rfl
      have hz8 : w9.heap.size ≤ w8.heap.size := hb.size
      go_wp2_with fail
      exact ⟨⟨u27, (.slice a0 S.length c0), (.slice (some ⟨gn, 0, none⟩) S.length kn), u30, u31, u32, u33, u34, gn, kn, g1, k1, w8.heap.size, v3, v4, rfl, (f0.keep (i := 2) (by decide)), (Gd.new rfl), (Gd.new (by first | rfl | simp)), (f3.keep (i := 2) (by decide)), (f4.keep (i := 2) (by decide)), (Gd.undone (i := 2) n5 (by decide)), (f6.keep (i := 2) (by decide)), (f8.keep (i := 2) (by decide)), (Gd.new ⟨LOW _ _ _ _ (show w1.heap.size ≤ _ from hbel.size) hrow, hlo.2, Nat.le_refl _⟩), (Gd.undone (i := 2) n5 (by decide)), (bw.below hb bw.1.1), (o3.keep (i := 2) (by decide)), (Gd.undone (i := 2) n7 (by decide)), (o4.keep (i := 2) (by decide)), (m4.keep (i := 2) (by decide)), (hr.below hb hr.1.1), (hbel.trans (hb.mono (Nat.le_of_lt hb9)))⟩⟩
    refine .cons 4 rfl ?_ ?_
    · intro d a w9 hsz hcl hinv hd hdep
      obtain ⟨⟨u27, u28, u29, u30, u31, u32, u33, u34, g0, k0, g1, k1, mid, v3, v4, rfl, f0, f1, f2, f3, f4, f5, f6, f8, r2, r5, bw, o3, m3, o4, m4, hr, hbel⟩⟩ := hinv
      go_wp2_with fail
      exact ⟨⟨u27, u28, u29, (.pointer (some ⟨w.heap.size, 4, none⟩)), u31, u32, u33, u34, g0, k0, g1, k1, mid, v3, v4, rfl, (f0.keep (i := 3) (by decide)), (f1.keep (i := 3) (by decide)), (f2.keep (i := 3) (by decide)), (Gd.new (by first | rfl | simp)), (f4.keep (i := 3) (by decide)), (f5.keep (i := 3) (by decide)), (f6.keep (i := 3) (by decide)), (f8.keep (i := 3) (by decide)), (r2.keep (i := 3) (by decide)), (r5.keep (i := 3) (by decide)), bw, (o3.keep (i := 3) (by decide)), (m3.keep (i := 3) (by decide)), (o4.keep (i := 3) (by decide)), (m4.keep (i := 3) (by decide)), hr, hbel⟩⟩
    refine .cons 5 rfl ?_ ?_
    · intro d a w9 hsz hcl hinv hd hdep
      obtain ⟨⟨u27, u28, u29, u30, u31, u32, u33, u34, g0, k0, g1, k1, mid, v3, v4, rfl, f0, f1, f2, f3, f4, f5, f6, f8, r2, r5, bw, o3, m3, o4, m4, hr, hbel⟩⟩ := hinv
      have e3 := f3 (hdep.get 3 rfl)
      subst e3
      have n5 := hcl.not hd 5 _ rfl rfl
      have n9 := hcl.not n5 9 _ rfl rfl
      have ex := o4 n9
      subst ex
      have kc := bw.c 4 rfl
      go_wp2_with fail
      exact ⟨⟨u27, u28, u29, (.pointer (some ⟨w.heap.size, 4, none⟩)), (.slice a1 S.length c1), u32, u33, u34, g0, k0, g1, k1, mid, v3, (.slice a1 S.length c1), rfl, (f0.keep (i := 4) (by decide)), (f1.keep (i := 4) (by decide)), (f2.keep (i := 4) (by decide)), (Gd.new rfl), (Gd.new (by first | rfl | simp)), (f5.keep (i := 4) (by decide)), (f6.keep (i := 4) (by decide)), (f8.keep (i := 4) (by decide)), (r2.keep (i := 4) (by decide)), (r5.keep (i := 4) (by decide)), bw, (o3.keep (i := 4) (by decide)), (m3.keep (i := 4) (by decide)), (Ng.keep (i := 4) (fun _ => rfl) (by decide)), (m4.keep (i := 4) (by decide)), hr, hbel⟩⟩
    refine .cons 6 rfl ?_ ?_
    · intro d a w9 hsz hcl hinv hd hdep
      obtain ⟨⟨u27, u28, u29, u30, u31, u32, u33, u34, g0, k0, g1, k1, mid, v3, v4, rfl, f0, f1, f2, f3, f4, f5, f6, f8, r2, r5, bw, o3, m3, o4, m4, hr, hbel⟩⟩ := hinv
      have e4 := f4 (hdep.get 4 rfl)
      subst e4
      have n7 := hcl.not hd 7 _ rfl rfl
      have n9 := hcl.not hd 9 _ rfl rfl
      have hr2 := r2 (hdep.get 2 rfl)
      have hb9 := bw.1.1
      go_wp2_with fail
      refine (HC1.out _ hbel).mono ?_
      rintro e w8 ⟨gn, kn, rfl, hrow, hb⟩
      have hz8 : w9.heap.size ≤ w8.heap.size := hb.size
      go_wp2_with fail
      exact ⟨⟨u27, u28, u29, u30, (.slice a1 S.length c1), (.slice (some ⟨gn, 0, none⟩) S.length kn), u33, u34, g0, k0, gn, kn, mid, v3, v4, rfl, (f0.keep (i := 5) (by decide)), (f1.keep (i := 5) (by decide)), (f2.keep (i := 5) (by decide)), (f3.keep (i := 5) (by decide)), (Gd.new rfl), (Gd.new (by first | rfl | simp)), (f6.keep (i := 5) (by decide)), (f8.keep (i := 5) (by decide)), (Gd.keep (i := 5) (r2.imp fun h => ⟨h.1.below hb (Nat.le_refl _), h.2.1, Nat.le_trans h.2.2 hz8⟩) (by decide)), (Gd.new (LOW _ _ _ _ hr2.2.2 hrow)), (bw.below hb bw.1.1), (o3.keep (i := 5) (by decide)), (m3.keep (i := 5) (by decide)), (o4.keep (i := 5) (by decide)), (Gd.undone (i := 5) n9 (by decide)), (hr.below hb hr.1.1), (hbel.trans (hb.mono (Nat.le_of_lt hb9)))⟩⟩
    refine .cons 7 rfl ?_ ?_
    · intro d a w9 hsz hcl hinv hd hdep
      obtain ⟨⟨u27, u28, u29, u30, u31, u32, u33, u34, g0, k0, g1, k1, mid, v3, v4, rfl, f0, f1, f2, f3, f4, f5, f6, f8, r2, r5, bw, o3, m3, o4, m4, hr, hbel⟩⟩ := hinv
      go_wp2_with fail
      exact ⟨⟨u27, u28, u29, u30, u31, u32, (.pointer (some ⟨w.heap.size, 3, none⟩)), u34, g0, k0, g1, k1, mid, v3, v4, rfl, (f0.keep (i := 6) (by decide)), (f1.keep (i := 6) (by decide)), (f2.keep (i := 6) (by decide)), (f3.keep (i := 6) (by decide)), (f4.keep (i := 6) (by decide)), (f5.keep (i := 6) (by decide)), (Gd.new (by first | rfl | simp)), (f8.keep (i := 6) (by decide)), (r2.keep (i := 6) (by decide)), (r5.keep (i := 6) (by decide)), bw, (o3.keep (i := 6) (by decide)), (m3.keep (i := 6) (by decide)), (o4.keep (i := 6) (by decide)), (m4.keep (i := 6) (by decide)), hr, hbel⟩⟩
    refine .cons 8 rfl ?_ ?_
    · intro d a w9 hsz hcl hinv hd hdep
      obtain ⟨⟨u27, u28, u29, u30, u31, u32, u33, u34, g0, k0, g1, k1, mid, v3, v4, rfl, f0, f1, f2, f3, f4, f5, f6, f8, r2, r5, bw, o3, m3, o4, m4, hr, hbel⟩⟩ := hinv
      have e6 := f6 (hdep.get 6 rfl)
      subst e6
      have e2 := f2 (hdep.get 2 rfl)
      subst e2
      have d2 : d.getD 2 false = true := hdep.get 2 rfl
      have d5 : d.getD 5 false = true := hdep.get 5 rfl
      have hr2 := r2 d2
      have hr5 := r5 d5
      have hl0 := hr2.1.lo g0 rfl
      have hl1 := hr5.lo g1 rfl
      have hb9 : w.heap.size < w1.heap.size := HBW0
      have hne0 : g0 ≠ w.heap.size := by omega
      have hne1 : g1 ≠ w.heap.size := by omega
      have hc0 := bw.c 0 rfl
      have hc1 := bw.c 1 rfl
      have hc2 := bw.c 2 rfl
      have hc3 := bw.c 3 rfl
      have hc4 := bw.c 4 rfl
      have hf0 := bw.f 0 (by simp)
      have hf1 := bw.f 1 (by simp)
      have hf2 := bw.f 2 (by simp)
      have hf3 := bw.f 3 (by simp)
      have hf4 := bw.f 4 (by simp)
      have hbs := bw.1.1
      go_wp2_with fail
      have hnew : Bw (w9.setCell ⟨w.heap.size, 3, none⟩ (.slice (some ⟨g0, 0, none⟩) S.length k0)) w.heap.size [.float .f32 n0, .float .f32 n1, .float .f32 n2, .slice (some ⟨g0, 0, none⟩) S.length k0, v4] := Bw.of5 (by simp; exact hbs) (by first | (simp [go_sem, hc0, hc1, hc2, hc3, hc4, hf0, hf1, hf2, hf3, hf4]; done) | (simp [go_sem, hc0, hc1, hc2, hc3, hc4, hf0, hf1, hf2, hf3, hf4]; rfl)) (by first | (simp [go_sem, hc0, hc1, hc2, hc3, hc4, hf0, hf1, hf2, hf3, hf4]; done) | (simp [go_sem, hc0, hc1, hc2, hc3, hc4, hf0, hf1, hf2, hf3, hf4]; rfl)) (by first | (simp [go_sem, hc0, hc1, hc2, hc3, hc4, hf0, hf1, hf2, hf3, hf4]; done) | (simp [go_sem, hc0, hc1, hc2, hc3, hc4, hf0, hf1, hf2, hf3, hf4]; rfl)) (by first | (simp [go_sem, hc0, hc1, hc2, hc3, hc4, hf0, hf1, hf2, hf3, hf4]; done) | (simp [go_sem, hc0, hc1, hc2, hc3, hc4, hf0, hf1, hf2, hf3, hf4]; rfl)) (by first | (simp [go_sem, hc0, hc1, hc2, hc3, hc4, hf0, hf1, hf2, hf3, hf4]; done) | (simp [go_sem, hc0, hc1, hc2, hc3, hc4, hf0, hf1, hf2, hf3, hf4]; rfl)) (by first | (simp [go_sem, hc0, hc1, hc2, hc3, hc4, hf0, hf1, hf2, hf3, hf4]; done) | (simp [go_sem, hc0, hc1, hc2, hc3, hc4, hf0, hf1, hf2, hf3, hf4]; rfl)) (by first | (simp [go_sem, hc0, hc1, hc2, hc3, hc4, hf0, hf1, hf2, hf3, hf4]; done) | (simp [go_sem, hc0, hc1, hc2, hc3, hc4, hf0, hf1, hf2, hf3, hf4]; rfl)) (by first | (simp [go_sem, hc0, hc1, hc2, hc3, hc4, hf0, hf1, hf2, hf3, hf4]; done) | (simp [go_sem, hc0, hc1, hc2, hc3, hc4, hf0, hf1, hf2, hf3, hf4]; rfl)) (by first | (simp [go_sem, hc0, hc1, hc2, hc3, hc4, hf0, hf1, hf2, hf3, hf4]; done) | (simp [go_sem, hc0, hc1, hc2, hc3, hc4, hf0, hf1, hf2, hf3, hf4]; rfl)) (by first | (simp [go_sem, hc0, hc1, hc2, hc3, hc4, hf0, hf1, hf2, hf3, hf4]; done) | (simp [go_sem, hc0, hc1, hc2, hc3, hc4, hf0, hf1, hf2, hf3, hf4]; rfl))
      exact ⟨⟨u27, u28, (.slice (some ⟨g0, 0, none⟩) S.length k0), u30, u31, u32, (.pointer (some ⟨w.heap.size, 3, none⟩)), u34, g0, k0, g1, k1, mid, (.slice (some ⟨g0, 0, none⟩) S.length k0), v4, rfl, (f0.keep (i := 7) (by decide)), (f1.keep (i := 7) (by decide)), (Gd.new rfl), (f3.keep (i := 7) (by decide)), (f4.keep (i := 7) (by decide)), (f5.keep (i := 7) (by decide)), (Gd.new rfl), (f8.keep (i := 7) (by decide)), (Gd.keep (i := 7) (r2.imp fun h => ⟨h.1.setFar (by simp [Value.ownBlock]; exact hne0) _, h.2.1, by simp; exact h.2.2⟩) (by decide)), (Gd.keep (i := 7) (r5.imp fun h => h.setFar (by simp [Value.ownBlock]; exact hne1) _) (by decide)), hnew, (Ng.new (by rw [hsz]; exact (by decide : 7 < 10))), (Gd.new rfl), (o4.keep (i := 7) (by decide)), (m4.keep (i := 7) (by decide)), (hr.setOther (show w.heap.size ≠ w.heap.size + 1 from HBR) _), (hbel.setCell (Nat.le_refl _) _)⟩⟩
    refine .cons 9 rfl ?_ ?_
    · intro d a w9 hsz hcl hinv hd hdep
      obtain ⟨⟨u27, u28, u29, u30, u31, u32, u33, u34, g0, k0, g1, k1, mid, v3, v4, rfl, f0, f1, f2, f3, f4, f5, f6, f8, r2, r5, bw, o3, m3, o4, m4, hr, hbel⟩⟩ := hinv
      go_wp2_with fail
      exact ⟨⟨u27, u28, u29, u30, u31, u32, u33, (.pointer (some ⟨w.heap.size, 4, none⟩)), g0, k0, g1, k1, mid, v3, v4, rfl, (f0.keep (i := 8) (by decide)), (f1.keep (i := 8) (by decide)), (f2.keep (i := 8) (by decide)), (f3.keep (i := 8) (by decide)), (f4.keep (i := 8) (by decide)), (f5.keep (i := 8) (by decide)), (f6.keep (i := 8) (by decide)), (Gd.new (by first | rfl | simp)), (r2.keep (i := 8) (by decide)), (r5.keep (i := 8) (by decide)), bw, (o3.keep (i := 8) (by decide)), (m3.keep (i := 8) (by decide)), (o4.keep (i := 8) (by decide)), (m4.keep (i := 8) (by decide)), hr, hbel⟩⟩
    refine .cons 10 rfl ?_ trivial
    · intro d a w9 hsz hcl hinv hd hdep
      obtain ⟨⟨u27, u28, u29, u30, u31, u32, u33, u34, g0, k0, g1, k1, mid, v3, v4, rfl, f0, f1, f2, f3, f4, f5, f6, f8, r2, r5, bw, o3, m3, o4, m4, hr, hbel⟩⟩ := hinv
      have e8 := f8 (hdep.get 8 rfl)
      subst e8
      have e5 := f5 (hdep.get 5 rfl)
      subst e5
      have d5 : d.getD 5 false = true := hdep.get 5 rfl
      have d2 := (hcl 5 _ rfl d5).get 2 rfl
      have hr2 := r2 d2
      have hr5 := r5 d5
      have hl0 := hr2.1.lo g0 rfl
      have hl1 := hr5.lo g1 rfl
      have hb9 : w.heap.size < w1.heap.size := HBW0
      have hne0 : g0 ≠ w.heap.size := by omega
      have hne1 : g1 ≠ w.heap.size := by omega
      have hc0 := bw.c 0 rfl
      have hc1 := bw.c 1 rfl
      have hc2 := bw.c 2 rfl
      have hc3 := bw.c 3 rfl
      have hc4 := bw.c 4 rfl
      have hf0 := bw.f 0 (by simp)
      have hf1 := bw.f 1 (by simp)
      have hf2 := bw.f 2 (by simp)
      have hf3 := bw.f 3 (by simp)
      have hf4 := bw.f 4 (by simp)
      have hbs := bw.1.1
      go_wp2_with fail
      have hnew : Bw (w9.setCell ⟨w.heap.size, 4, none⟩ (.slice (some ⟨g1, 0, none⟩) S.length k1)) w.heap.size [.float .f32 n0, .float .f32 n1, .float .f32 n2, v3, .slice (some ⟨g1, 0, none⟩) S.length k1] := Bw.of5 (by simp; exact hbs) (by first | (simp [go_sem, hc0, hc1, hc2, hc3, hc4, hf0, hf1, hf2, hf3, hf4]; done) | (simp [go_sem, hc0, hc1, hc2, hc3, hc4, hf0, hf1, hf2, hf3, hf4]; rfl)) (by first | (simp [go_sem, hc0, hc1, hc2, hc3, hc4, hf0, hf1, hf2, hf3, hf4]; done) | (simp [go_sem, hc0, hc1, hc2, hc3, hc4, hf0, hf1, hf2, hf3, hf4]; rfl)) (by first | (simp [go_sem, hc0, hc1, hc2, hc3, hc4, hf0, hf1, hf2, hf3, hf4]; done) | (simp [go_sem, hc0, hc1, hc2, hc3, hc4, hf0, hf1, hf2, hf3, hf4]; rfl)) (by first | (simp [go_sem, hc0, hc1, hc2, hc3, hc4, hf0, hf1, hf2, hf3, hf4]; done) | (simp [go_sem, hc0, hc1, hc2, hc3, hc4, hf0, hf1, hf2, hf3, hf4]; rfl)) (by first | (simp [go_sem, hc0, hc1, hc2, hc3, hc4, hf0, hf1, hf2, hf3, hf4]; done) | (simp [go_sem, hc0, hc1, hc2, hc3, hc4, hf0, hf1, hf2, hf3, hf4]; rfl)) (by first | (simp [go_sem, hc0, hc1, hc2, hc3, hc4, hf0, hf1, hf2, hf3, hf4]; done) | (simp [go_sem, hc0, hc1, hc2, hc3, hc4, hf0, hf1, hf2, hf3, hf4]; rfl)) (by first | (simp [go_sem, hc0, hc1, hc2, hc3, hc4, hf0, hf1, hf2, hf3, hf4]; done) | (simp [go_sem, hc0, hc1, hc2, hc3, hc4, hf0, hf1, hf2, hf3, hf4]; rfl)) (by first | (simp [go_sem, hc0, hc1, hc2, hc3, hc4, hf0, hf1, hf2, hf3, hf4]; done) | (simp [go_sem, hc0, hc1, hc2, hc3, hc4, hf0, hf1, hf2, hf3, hf4]; rfl)) (by first | (simp [go_sem, hc0, hc1, hc2, hc3, hc4, hf0, hf1, hf2, hf3, hf4]; done) | (simp [go_sem, hc0, hc1, hc2, hc3, hc4, hf0, hf1, hf2, hf3, hf4]; rfl)) (by first | (simp [go_sem, hc0, hc1, hc2, hc3, hc4, hf0, hf1, hf2, hf3, hf4]; done) | (simp [go_sem, hc0, hc1, hc2, hc3, hc4, hf0, hf1, hf2, hf3, hf4]; rfl))
      exact ⟨⟨u27, u28, u29, u30, u31, (.slice (some ⟨g1, 0, none⟩) S.length k1), u33, (.pointer (some ⟨w.heap.size, 4, none⟩)), g0, k0, g1, k1, mid, v3, (.slice (some ⟨g1, 0, none⟩) S.length k1), rfl, (f0.keep (i := 9) (by decide)), (f1.keep (i := 9) (by decide)), (f2.keep (i := 9) (by decide)), (f3.keep (i := 9) (by decide)), (f4.keep (i := 9) (by decide)), (Gd.new rfl), (f6.keep (i := 9) (by decide)), (Gd.new rfl), (Gd.keep (i := 9) (r2.imp fun h => ⟨h.1.setFar (by simp [Value.ownBlock]; exact hne0) _, h.2.1, by simp; exact h.2.2⟩) (by decide)), (Gd.keep (i := 9) (r5.imp fun h => h.setFar (by simp [Value.ownBlock]; exact hne1) _) (by decide)), hnew, (o3.keep (i := 9) (by decide)), (m3.keep (i := 9) (by decide)), (Ng.new (by rw [hsz]; exact (by decide : 9 < 10))), (Gd.new rfl), (hr.setOther (show w.heap.size ≠ w.heap.size + 1 from HBR) _), (hbel.setCell (Nat.le_refl _) _)⟩⟩
  intro d a w9 hinv hall
  obtain ⟨⟨u27, u28, u29, u30, u31, u32, u33, u34, g0, k0, g1, k1, mid, v3, v4, rfl, f0, f1, f2, f3, f4, f5, f6, f8, r2, r5, bw, o3, m3, o4, m4, hr, hbel⟩⟩ := hinv
  have e2 := f2 (hall 2 (by decide))
  have e5 := f5 (hall 5 (by decide))
  subst e2
  subst e5
  have e3 := m3 (hall 7 (by decide))
  have e4 := m4 (hall 9 (by decide))
  subst e3
  subst e4
  have hr2 := r2 (hall 2 (by decide))
  have hr5 := r5 (hall 5 (by decide))
  have hbw := bw
  have hrr := hr
  have hbb := hbel
  clear f0 f1 f2 f3 f4 f5 f6 f8 r2 r5 bw o3 m3 o4 m4 hr hbel
  obtain ⟨hra, hgm, hmw⟩ := hr2
  have hgl := (hra.lo g0 rfl).1
  have hg1l := (hr5.lo g1 rfl)
  have hs1 := HS1.out
  have HB2 : Hid (Below w.heap.size w w9) := Lib.hid (HB1.out.trans hbb)
  have BC2 := Lib.hid hbw
  have BR2 := Lib.hid hrr
  have fa : FRow w9 w1.heap.size mid (.slice (some ⟨g0, 0, none⟩) S.length k0) S := ⟨hra.frow.1, fun k hk => by simp only [Value.ownBlock, Option.some.injEq] at hk; omega, hmw⟩
  have FA := Lib.hid fa
  have FB := Lib.hid hr5.frow
  have hgl2 : w1.heap.size ≤ mid := by omega
  have hz9 : w.heap.size + 1 + 1 ≤ w9.heap.size := by omega
  clear hra hr5 hbw hrr fa hbb HBC0 HRC0 HC0 HC1 LOW HBW0 HBR BC0 BR
  go_wp2_with (at_make; refine make_any rfl rfl _ _ rfl .i64 .i64 _ _ X.length rfl rfl rfl rfl hlx (lo := w9.heap.size) (Nat.le_refl _) ?_)
  intro w10 hown hgrow
  have hb10 := Below.made (Below.refl w9.heap.size w9) hgrow (Nat.le_refl _)
  have HOW := Lib.hid hown
  have hz10 : w9.heap.size < w10.heap.size := (hown.lo _ rfl).2
  have BC3 := Lib.hid (BC2.out.below hb10 (by omega))
  have BR3 := Lib.hid (BR2.out.below hb10 (by omega))
  have FA3 := Lib.hid (FA.out.below hb10 hmw)
  have FB3 := Lib.hid (FB.out.below hb10 (Nat.le_refl _))
  have HB3 : Hid (Below w.heap.size w w10) := Lib.hid (HB2.out.trans (hb10.mono (by omega)))
  clear hown hgrow hb10 BC2 BR2 FA FB
  obtain ⟨E, hE⟩ : ∃ E, w9.heap.size = E := ⟨_, rfl⟩
  rw [hE] at HOW hz10 hz9 hmw FB3 ⊢
  have hEs : (List.replicate X.length 0) = rcEnds N0 N1 N2 S O X T 0 ++ List.replicate (X.length - 0) 0 := rfl
  go_wp2_with fail
  go_loopw [40] (fun i wr => ∃ (k : Nat) (hs fs : List Nat) (y0 y1 y2 : Nat) (b0 : Option Addr) (d0 : Nat) (b1 : Option Addr) (d1 lo mi hi : Nat), k ≤ X.length ∧ i = .int .i64 k ∧ Hid (rcIt N0 N1 N2 S O X T k = ⟨N0, N1, N2, hs, fs, true⟩) ∧ Hid (Is32 N0 y0 ∧ Is32 N1 y1 ∧ Is32 N2 y2) ∧ Hid (hs.length = S.length ∧ fs.length = S.length ∧ (∀ z ∈ hs, z < 4294967296) ∧ (∀ z ∈ fs, z < 4294967296)) ∧ Hid (Bw wr w.heap.size [.float .f32 y0, .float .f32 y1, .float .f32 y2, .slice b0 hs.length d0, .slice b1 fs.length d1]) ∧ Hid (Bw wr (w.heap.size + 1) [.float .f32 0, .float .f32 0, .float .f32 0, .slice none 0 0, .slice none 0 0]) ∧ Hid (FRow wr lo mi (.slice b0 hs.length d0) hs) ∧ Hid (FRow wr mi hi (.slice b1 fs.length d1) fs) ∧ Hid (w.heap.size + 1 + 1 ≤ lo ∧ lo ≤ mi ∧ mi ≤ hi ∧ (E + 1 ≤ lo ∨ hi ≤ E) ∧ E < wr.heap.size) ∧ Hid (RowO wr E (.slice (some ⟨E, 0, none⟩) X.length X.length) (rcEnds N0 N1 N2 S O X T k ++ List.replicate (X.length - k) 0)) ∧ Hid (Below w.heap.size w wr)) (fun i _ => X.length - (intOf i).toNat)
  case atStart => exact ⟨0, S, O, n0, n1, n2, _, k0, _, k1, w1.heap.size, mid, E, Nat.zero_le _, rfl, Lib.hid rfl, Lib.hid ⟨gn0, gn1, gn2⟩, Lib.hid ⟨rfl, HP1.out, HZ0.out, HZ1.out⟩, Lib.hid (by rw [HP1.out]; exact BC3.out), BR3, FA3, Lib.hid (by rw [HP1.out]; exact FB3.out), Lib.hid ⟨HS1.out, hgl2, hmw, .inr (Nat.le_refl _), hz10⟩, Lib.hid (by rw [← hEs]; exact HOW.out), HB3⟩
  case round =>
    clear BC3 BR3 FA3 FB3 HOW HB3
    obtain ⟨k, hs, fs, y0, y1, y2, b0, d0, b1, d1, lo, mi, hi, hk, rfl, HI, HY, HL, HBc, HBr, HA, HB, HO, HE, HBk⟩ := hrel
    by_cases hlt : k < X.length
    · have hq0 := HBc.out.c 0 rfl
      have hq1 := HBc.out.c 1 rfl
      have hq2 := HBc.out.c 2 rfl
      have hq3 := HBc.out.c 3 rfl
      have hq4 := HBc.out.c 4 rfl
      obtain ⟨hl1', hl2', hzh, hzf⟩ := HL.out
      obtain ⟨ho1, ho2, ho3, ho4, ho5⟩ := HO.out
      obtain ⟨hy0, hy1, hy2⟩ := HY.out
      obtain ⟨bX, oX, rfl, hbX, hcx⟩ := rows_at HX.out (by omega)
      obtain ⟨xk, hxk⟩ : ∃ x, X.getD k 0 = x := ⟨_, rfl⟩
      have hcell : wr.cell? ⟨bX, oX + k, none⟩ = some (.float .f32 xk) := by rw [HBk.out.cell (p := ⟨bX, oX + k, none⟩) hbX, hcx k hlt, hxk]
      have hix : Is32 (some xk) xk := Is32.c (by rw [← hxk]; exact getD_lt HZX.out _)
      have HXK := Lib.hid hxk
      have hcall := stepCanal_i b0 b1 d0 d1 hs fs wr hix gt hy0 hy1 hy2 HA.out.row (by rw [hl1']; exact hl0) hzh HB.out.row (by rw [hl2']; exact hl0) hzf
      have hnx := rcIt_next HI.out
      rw [hxk] at hnx
      obtain ⟨R, hR⟩ : ∃ R, tickR N0 N1 N2 hs fs (some xk) T = R := ⟨_, rfl⟩
      rw [hR] at hcall hnx
      have HCall := Lib.hid hcall
      have HNX := Lib.hid hnx
      have hok : R.ok = true → R = ⟨N0, N1, N2, R.hs, R.fs, true⟩ ∧ R.hs.length = S.length ∧ R.fs.length = S.length ∧ (∀ z ∈ R.hs, z < 4294967296) ∧ (∀ z ∈ R.fs, z < 4294967296) := by
        intro h9
        rw [← hR] at h9 ⊢
        obtain ⟨h8, _⟩ := tickR_ok h9
        rw [h8]
        exact ⟨rfl, by rw [wordsO_len]; exact hl1', by rw [wordsO_len]; exact hl1', wordsO_lt (newH_is N0 N1 N2 hs fs _ T) _, wordsO_lt (newF_is N0 N1 N2 hs fs _ T) _⟩
      have HOK := Lib.hid hok
      clear hok hR hcall hnx hxk hzh hzf hl1' hl2' hcx
      obtain ⟨M0, M1, M2, hs', fs', ok⟩ := R
      simp only at HOK
      have hki : (k : Int) < (X.length : Int) := by omega
      have hk0 : (0 : Int) ≤ (k : Int) := by omega
      go_wp2_with fail
      refine HCall.out.mono ?_
      rintro e w2 ⟨u0, u1, u2, e0, f0', e1, f1', lo', mi', hi', rfl, ⟨iu0, iu1, iu2⟩, fr0, fr1, hlo', hlm', hmh', hhi', ul0, ul1, hb⟩
      simp only at iu0 iu1 iu2 fr0 fr1 ul0 ul1 ⊢
      have HB2 : Hid (Below w.heap.size w w2) := Lib.hid (HBk.out.trans (hb.mono HBk.out.size))
      have bc := HBc.out.below hb HBc.out.1.1
      have bw := HBr.out.below hb HBr.out.1.1
      have HE2 := Lib.hid (HE.out.below hb (Nat.le_refl _))
      have hs2 : wr.heap.size ≤ w2.heap.size := hb.size
      clear hq0 hq1 hq2 hq3 hq4
      have q0 := bw.c 0 rfl
      have q1 := bw.c 1 rfl
      have q2 := bw.c 2 rfl
      have q3 := bw.c 3 rfl
      have q4 := bw.c 4 rfl
      have f0 := bw.f 0 (by simp)
      have f1 := bw.f 1 (by simp)
      have f2 := bw.f 2 (by simp)
      have f3 := bw.f 3 (by simp)
      have f4 := bw.f 4 (by simp)
      have u0_ := bc.c 0 rfl
      have u1_ := bc.c 1 rfl
      have u2_ := bc.c 2 rfl
      have u3_ := bc.c 3 rfl
      have u4_ := bc.c 4 rfl
      have v0 := bc.f 0 (by simp)
      have v1 := bc.f 1 (by simp)
      have v2 := bc.f 2 (by simp)
      have v3 := bc.f 3 (by simp)
      have v4 := bc.f 4 (by simp)
      have FR0 := Lib.hid fr0
      have FR1 := Lib.hid fr1
      have BC2 := Lib.hid bc
      have BR2 := Lib.hid bw
      clear fr0 fr1 bc bw hb
      cases ok
      · have hv : Q = (failCan, []) := by rw [← HQ.out]; exact runC_bad (k := k + 1) (by rw [HNX.out]) hlt
        have HV := Lib.hid hv
        clear hv
        go_wp2_with fail
        rw [HV.out]
        exact bodyPost_ret (v := .tuple #[.agg #[.float .f32 0, .float .f32 0, .float .f32 0, .slice none 0 0, .slice none 0 0], .slice none 0 0, .bool false]) (by first | (simp [results, Try.results34, go_sem, q0, q1, q2, q3, q4, f0, f1, f2, f3, f4, u0_, u1_, u2_, u3_, u4_, v0, v1, v2, v3, v4]; done) | (simp (maxDischargeDepth := 12) [results, Try.results34, go_sem, q0, q1, q2, q3, q4, f0, f1, f2, f3, f4, u0_, u1_, u2_, u3_, u4_, v0, v1, v2, v3, v4]; done) | (simp (maxDischargeDepth := 12) [results, Try.results34, go_sem, q0, q1, q2, q3, q4, f0, f1, f2, f3, f4, u0_, u1_, u2_, u3_, u4_, v0, v1, v2, v3, v4]; rfl)) rfl (RunI.no (by repeat (first | with_reducible exact HB2.out | with_reducible refine beld ?_ _ | (with_reducible refine Below.alloc ?_ ?_ _; rotate_left; exact (by first | (simp; done) | (simp; omega) | omega)) | (with_reducible refine Below.setCell ?_ ?_ _; rotate_left; exact (by first | (simp; done) | (simp; omega) | omega)))))
      have HT := Lib.hid (HOK.out rfl)
      obtain ⟨rfl, rfl, rfl⟩ : N0 = M0 ∧ N1 = M1 ∧ N2 = M2 := by have hRe := HT.out.1; injection hRe with h1 h2 h3; exact ⟨h1.symm, h2.symm, h3.symm⟩
      have hp9 : 0 < hs'.length := by rw [HT.out.2.1]; exact hp0
      obtain ⟨hv0, hzs⟩ | ⟨ge, ce, hve, hgl, hgh⟩ := FR0.out.cases
      · rw [hzs] at hp9; cases hp9
      injection hve with he1 _ he2
      subst he1
      subst he2
      have hdr : ∀ W : World, W = (((((w2.setCell ⟨w.heap.size, 0, none⟩ (.float .f32 u0)).setCell ⟨w.heap.size, 1, none⟩ (.float .f32 u1)).setCell ⟨w.heap.size, 2, none⟩ (.float .f32 u2)).setCell ⟨w.heap.size, 3, none⟩ (.slice (some ⟨ge, 0, none⟩) hs'.length f0')).setCell ⟨w.heap.size, 4, none⟩ (.slice e1 fs'.length f1')) → W.heap.size = w2.heap.size ∧ Bw W w.heap.size [.float .f32 u0, .float .f32 u1, .float .f32 u2, .slice (some ⟨ge, 0, none⟩) hs'.length f0', .slice e1 fs'.length f1'] ∧ Bw W (w.heap.size + 1) [.float .f32 0, .float .f32 0, .float .f32 0, .slice none 0 0, .slice none 0 0] ∧ FRow W lo' mi' (.slice (some ⟨ge, 0, none⟩) hs'.length f0') hs' ∧ FRow W mi' hi' (.slice e1 fs'.length f1') fs' ∧ RowO W E (.slice (some ⟨E, 0, none⟩) X.length X.length) (rcEnds N0 N1 N2 S O X T k ++ List.replicate (X.length - k) 0) ∧ Below w.heap.size w W := by
        rintro W rfl
        have hbs := BC2.out.1.1
        have hbl : w.heap.size < lo' := by omega
        have hbl2 : w.heap.size < mi' := by omega
        have hne : (.slice (some ⟨E, 0, none⟩) X.length X.length : Value).ownBlock ≠ some w.heap.size := by simp [Value.ownBlock]; omega
        refine ⟨by simp, Bw.of5 (by simp; exact hbs) (by first | (simp [go_sem, v0, v1, v2, v3, v4]; done) | (simp (maxDischargeDepth := 12) [go_sem, u0_, u1_, u2_, u3_, u4_, v0, v1, v2, v3, v4]; done) | (simp (maxDischargeDepth := 12) [go_sem, u0_, u1_, u2_, u3_, u4_, v0, v1, v2, v3, v4]; rfl)) (by first | (simp [go_sem, v0, v1, v2, v3, v4]; done) | (simp (maxDischargeDepth := 12) [go_sem, u0_, u1_, u2_, u3_, u4_, v0, v1, v2, v3, v4]; done) | (simp (maxDischargeDepth := 12) [go_sem, u0_, u1_, u2_, u3_, u4_, v0, v1, v2, v3, v4]; rfl)) (by first | (simp [go_sem, v0, v1, v2, v3, v4]; done) | (simp (maxDischargeDepth := 12) [go_sem, u0_, u1_, u2_, u3_, u4_, v0, v1, v2, v3, v4]; done) | (simp (maxDischargeDepth := 12) [go_sem, u0_, u1_, u2_, u3_, u4_, v0, v1, v2, v3, v4]; rfl)) (by first | (simp [go_sem, v0, v1, v2, v3, v4]; done) | (simp (maxDischargeDepth := 12) [go_sem, u0_, u1_, u2_, u3_, u4_, v0, v1, v2, v3, v4]; done) | (simp (maxDischargeDepth := 12) [go_sem, u0_, u1_, u2_, u3_, u4_, v0, v1, v2, v3, v4]; rfl)) (by first | (simp [go_sem, v0, v1, v2, v3, v4]; done) | (simp (maxDischargeDepth := 12) [go_sem, u0_, u1_, u2_, u3_, u4_, v0, v1, v2, v3, v4]; done) | (simp (maxDischargeDepth := 12) [go_sem, u0_, u1_, u2_, u3_, u4_, v0, v1, v2, v3, v4]; rfl)) (by first | (simp [go_sem, v0, v1, v2, v3, v4]; done) | (simp (maxDischargeDepth := 12) [go_sem, u0_, u1_, u2_, u3_, u4_, v0, v1, v2, v3, v4]; done) | (simp (maxDischargeDepth := 12) [go_sem, u0_, u1_, u2_, u3_, u4_, v0, v1, v2, v3, v4]; rfl)) (by first | (simp [go_sem, v0, v1, v2, v3, v4]; done) | (simp (maxDischargeDepth := 12) [go_sem, u0_, u1_, u2_, u3_, u4_, v0, v1, v2, v3, v4]; done) | (simp (maxDischargeDepth := 12) [go_sem, u0_, u1_, u2_, u3_, u4_, v0, v1, v2, v3, v4]; rfl)) (by first | (simp [go_sem, v0, v1, v2, v3, v4]; done) | (simp (maxDischargeDepth := 12) [go_sem, u0_, u1_, u2_, u3_, u4_, v0, v1, v2, v3, v4]; done) | (simp (maxDischargeDepth := 12) [go_sem, u0_, u1_, u2_, u3_, u4_, v0, v1, v2, v3, v4]; rfl)) (by first | (simp [go_sem, v0, v1, v2, v3, v4]; done) | (simp (maxDischargeDepth := 12) [go_sem, u0_, u1_, u2_, u3_, u4_, v0, v1, v2, v3, v4]; done) | (simp (maxDischargeDepth := 12) [go_sem, u0_, u1_, u2_, u3_, u4_, v0, v1, v2, v3, v4]; rfl)) (by first | (simp [go_sem, v0, v1, v2, v3, v4]; done) | (simp (maxDischargeDepth := 12) [go_sem, u0_, u1_, u2_, u3_, u4_, v0, v1, v2, v3, v4]; done) | (simp (maxDischargeDepth := 12) [go_sem, u0_, u1_, u2_, u3_, u4_, v0, v1, v2, v3, v4]; rfl)), ((((BR2.out.setOther (by simp) _).setOther (by simp) _).setOther (by simp) _).setOther (by simp) _).setOther (by simp) _, ((((FR0.out.setCell hbl _).setCell hbl _).setCell hbl _).setCell hbl _).setCell hbl _, ((((FR1.out.setCell hbl2 _).setCell hbl2 _).setCell hbl2 _).setCell hbl2 _).setCell hbl2 _, ((((HE2.out.setFar hne _).setFar hne _).setFar hne _).setFar hne _).setFar hne _, ((((HB2.out.setCell (Nat.le_refl _) _).setCell (Nat.le_refl _) _).setCell (Nat.le_refl _) _).setCell (Nat.le_refl _) _).setCell (Nat.le_refl _) _⟩
      obtain ⟨W5, hW5⟩ : ∃ W, (((((w2.setCell ⟨w.heap.size, 0, none⟩ (.float .f32 u0)).setCell ⟨w.heap.size, 1, none⟩ (.float .f32 u1)).setCell ⟨w.heap.size, 2, none⟩ (.float .f32 u2)).setCell ⟨w.heap.size, 3, none⟩ (.slice (some ⟨ge, 0, none⟩) hs'.length f0')).setCell ⟨w.heap.size, 4, none⟩ (.slice e1 fs'.length f1')) = W := ⟨_, rfl⟩
      obtain ⟨hzW, hbc, hbr, hfa, hfb, hee, hbk⟩ := hdr W5 hW5.symm
      have HBC5 := Lib.hid hbc
      have HBR5 := Lib.hid hbr
      have HFA := Lib.hid hfa
      have HFB := Lib.hid hfb
      have HEE := Lib.hid hee
      have HBK := Lib.hid hbk
      have HW5 := Lib.hid hW5
      have hel : (rcEnds N0 N1 N2 S O X T k ++ List.replicate (X.length - k) 0).length = X.length := rest_len _ _ _ (rcEnds_len _ _ _ _ _ _ _ _) hk
      have HEL := Lib.hid hel
      have HFR := Lib.hid FR0.out
      have HER := Lib.hid HE2.out
      clear hdr hbc hbr hfa hfb hee hbk hel hW5 FR0 FR1 BC2 BR2 HE2
      obtain ⟨m, hm⟩ : ∃ m, hs'.length - 1 = m := ⟨_, rfl⟩
      have hmw9 : IntKind.i64.wrap ((hs'.length : Int) - 1) = (m : Int) := by rw [IntWalk.i64_in _ (by omega)]; omega
      have hm0 : (0 : Int) ≤ (m : Int) := by omega
      have hm1 : (m : Int) < (hs'.length : Int) := by omega
      skip
      obtain ⟨hce, hfe⟩ := HFR.out.at m (by omega) rfl
      obtain ⟨hck, hfk⟩ := HER.out.at HEL.out.symm k (by rw [HEL.out]; exact hlt)
      obtain ⟨old, hold⟩ : ∃ z, (rcEnds N0 N1 N2 S O X T k ++ List.replicate (X.length - k) 0).getD k 0 = z := ⟨_, rfl⟩
      rw [hold] at hck
      clear hold
      have hge1 : ge ≠ w.heap.size := by omega
      have hge2 : w.heap.size ≠ ge := by omega
      have hEe1 : E ≠ w.heap.size := by omega
      have hEe2 : w.heap.size ≠ E := by omega
      go_wp2_with fail
      rw [HW5.out]
      go_roundw
      case rel => exact ⟨k + 1, hs', fs', u0, u1, u2, some ⟨ge, 0, none⟩, f0', e1, f1', lo', mi', hi', hlt, by go_num, Lib.hid HNX.out, Lib.hid ⟨iu0, iu1, iu2⟩, Lib.hid HT.out.2, Lib.hid (HBC5.out.setOther (by show E ≠ _; omega) _), Lib.hid (HBR5.out.setOther (by show E ≠ _; omega) _), Lib.hid (HFA.out.setCell (by show E < lo'; omega) _), Lib.hid (HFB.out.setCell (by show E < mi'; omega) _), Lib.hid ⟨by omega, hlm', hmh', .inl (by omega), by simp; omega⟩, Lib.hid (by have h9 := HEE.out.store HEL.out.symm k (hs'.getD m 0); rw [rest_set _ _ _ _ (rcEnds_len _ _ _ _ _ _ _ _) hlt] at h9; rw [rcEnds_succ, HNX.out]; show RowO _ _ _ ((_ ++ [hs'.getD (hs'.length - 1) 0]) ++ _); rw [hm]; exact h9), Lib.hid (HBK.out.setCell (by show _ ≤ E; omega) _)⟩
      case measure => simp [intOf]; omega
    · have hkX : k = X.length := by omega
      subst hkX
      have hq0 := HBc.out.c 0 rfl
      have hq1 := HBc.out.c 1 rfl
      have hq2 := HBc.out.c 2 rfl
      have hq3 := HBc.out.c 3 rfl
      have hq4 := HBc.out.c 4 rfl
      have q0 := HBr.out.c 0 rfl
      have q1 := HBr.out.c 1 rfl
      have q2 := HBr.out.c 2 rfl
      have q3 := HBr.out.c 3 rfl
      have q4 := HBr.out.c 4 rfl
      have f0 := HBr.out.f 0 (by simp)
      have f1 := HBr.out.f 1 (by simp)
      have f2 := HBr.out.f 2 (by simp)
      have f3 := HBr.out.f 3 (by simp)
      have f4 := HBr.out.f 4 (by simp)
      have hv : Q = (⟨N0, N1, N2, hs, fs, true⟩, rcEnds N0 N1 N2 S O X T X.length) := by rw [← HQ.out]; exact runC_yes P0.out hX P2.out HI.out
      have HV := Lib.hid hv
      clear hv
      have hki : ¬ (X.length : Int) < (X.length : Int) := by omega
      go_wp2_with fail
      rw [HV.out]
      obtain ⟨hl1', hl2', _, _⟩ := HL.out
      obtain ⟨ho1, ho2, ho3, ho4, ho5⟩ := HO.out
      have hel : (rcEnds N0 N1 N2 S O X T X.length).length = X.length := rcEnds_len _ _ _ _ _ _ _ _
      have hee := HE.out
      rw [Nat.sub_self, List.replicate_zero, List.append_nil] at hee
      have HEE := Lib.hid hee
      clear hee
      have hfbz := HB.out.2.2
      have SW : ∀ (p q r s t : Value), FRow (((((wr.setCell ⟨w.heap.size + 1, 0, none⟩ p).setCell ⟨w.heap.size + 1, 1, none⟩ q).setCell ⟨w.heap.size + 1, 2, none⟩ r).setCell ⟨w.heap.size + 1, 3, none⟩ s).setCell ⟨w.heap.size + 1, 4, none⟩ t) lo mi (.slice b0 hs.length d0) hs ∧ FRow (((((wr.setCell ⟨w.heap.size + 1, 0, none⟩ p).setCell ⟨w.heap.size + 1, 1, none⟩ q).setCell ⟨w.heap.size + 1, 2, none⟩ r).setCell ⟨w.heap.size + 1, 3, none⟩ s).setCell ⟨w.heap.size + 1, 4, none⟩ t) mi hi (.slice b1 fs.length d1) fs ∧ FRow (((((wr.setCell ⟨w.heap.size + 1, 0, none⟩ p).setCell ⟨w.heap.size + 1, 1, none⟩ q).setCell ⟨w.heap.size + 1, 2, none⟩ r).setCell ⟨w.heap.size + 1, 3, none⟩ s).setCell ⟨w.heap.size + 1, 4, none⟩ t) E (E + 1) (.slice (some ⟨E, 0, none⟩) (rcEnds N0 N1 N2 S O X T X.length).length X.length) (rcEnds N0 N1 N2 S O X T X.length) ∧ Below w.heap.size w (((((wr.setCell ⟨w.heap.size + 1, 0, none⟩ p).setCell ⟨w.heap.size + 1, 1, none⟩ q).setCell ⟨w.heap.size + 1, 2, none⟩ r).setCell ⟨w.heap.size + 1, 3, none⟩ s).setCell ⟨w.heap.size + 1, 4, none⟩ t) := by
        intro p q r s t
        have hbl : w.heap.size + 1 < lo := by omega
        have hbl2 : w.heap.size + 1 < mi := by omega
        have hbl3 : w.heap.size + 1 < E := by omega
        have fe : FRow wr E (E + 1) (.slice (some ⟨E, 0, none⟩) (rcEnds N0 N1 N2 S O X T X.length).length X.length) (rcEnds N0 N1 N2 S O X T X.length) := by
          have h9 := HEE.out.frow
          rw [show (.slice (some ⟨E, 0, none⟩) X.length X.length : Value) = .slice (some ⟨E, 0, none⟩) (rcEnds N0 N1 N2 S O X T X.length).length X.length by rw [hel]] at h9
          exact ⟨h9.1, fun k hk => by simp only [Value.ownBlock, Option.some.injEq] at hk; omega, by omega⟩
        exact ⟨((((HA.out.setCell hbl _).setCell hbl _).setCell hbl _).setCell hbl _).setCell hbl _, ((((HB.out.setCell hbl2 _).setCell hbl2 _).setCell hbl2 _).setCell hbl2 _).setCell hbl2 _, ((((fe.setCell hbl3 _).setCell hbl3 _).setCell hbl3 _).setCell hbl3 _).setCell hbl3 _, ((((HBk.out.setCell (Nat.le_succ _) _).setCell (Nat.le_succ _) _).setCell (Nat.le_succ _) _).setCell (Nat.le_succ _) _).setCell (Nat.le_succ _) _⟩
      have HY' := HY.out
      refine bodyPost_ret (v := .tuple #[.agg #[.float .f32 y0, .float .f32 y1, .float .f32 y2, .slice b0 hs.length d0, .slice b1 fs.length d1], .slice (some ⟨E, 0, none⟩) X.length X.length, .bool true]) (by first | (simp [results, Try.results34, go_sem, q0, q1, q2, q3, q4, f0, f1, f2, f3, f4]; done) | (simp (maxDischargeDepth := 12) [results, Try.results34, go_sem, q0, q1, q2, q3, q4, f0, f1, f2, f3, f4]; done) | (simp (maxDischargeDepth := 12) [results, Try.results34, go_sem, q0, q1, q2, q3, q4, f0, f1, f2, f3, f4]; rfl)) rfl ?_
      refine ⟨y0, y1, y2, b0, d0, b1, d1, some ⟨E, 0, none⟩, X.length, lo, mi, hi, E, E + 1, by simp only [hel], HY', (SW _ _ _ _ _).1, (SW _ _ _ _ _).2.1, (SW _ _ _ _ _).2.2.1, ⟨by omega, ho2, ho3, by simp; omega, by omega, Nat.le_succ _, by simp; omega, by omega⟩, by show hs.length ≤ _; rw [hl1']; exact hl0, by show fs.length ≤ _; rw [hl2']; exact hl0, by show (rcEnds N0 N1 N2 S O X T X.length).length ≤ _; rw [hel]; exact hlx, (SW _ _ _ _ _).2.2.2⟩

end Go.Proofs.Ytgnkpppbhibfoaa
