/- A canal a tick later: the program. -/
import Derived.Test.YtgnkpppbhibfoaaTickR
import Derived.Test.YtgnkpppbhibfoaaRegionI
import Derived.Test.YtgnkpppbhibfoaaClone5
import Derived.Test.YtgnkpppbhibfoaaLakeD
namespace Go.Proofs.Ytgnkpppbhibfoaa
open Go.RowKit
set_option linter.unusedVariables false
set_option linter.unusedSimpArgs false
set_option maxRecDepth 100000
attribute [local irreducible] wpV wpList Code.wp

theorem Gd.start {n j : Nat} {p : Prop} : Gd (Array.replicate n false) j p := fun h => by rw [getD_replicate_false] at h; cases h
theorem Ng.start {l : Array Bool} {j : Nat} {p : Prop} (h : p) : Ng l j p := fun _ => h
theorem Gd.undone {l : Array Bool} {i j : Nat} {p : Prop} (h : l.getD j false = false) (hne : i ≠ j) : Gd (l.setIfInBounds i true) j p := fun h9 => by rw [set_ne hne, h] at h9; cases h9
theorem StepAll.cons {P : Program} {l : List Oper} {Inv : Array Bool → Act → World → Prop} {k : Nat} {o : Oper} {rest : List Oper} (j : Nat) (hj : k + 1 = j)
    (h : ∀ d a w, d.size = l.length → Closed l d → Inv d a w → d.getD k false = false → Deps d o.after.toList → wpList P l.toArray (QI fun a' w' => Inv (d.setIfInBounds k true) a' w') [o] a w) (hr : StepAll P l Inv j rest) : StepAll P l Inv k (o :: rest) := by
  subst hj; exact ⟨h, hr⟩

structure scInvS (w0 : World) (t0_ t1_ t2_ t3_ t4_ t5_ t6_ t7_ t8_ t9_ t10_ t11_ t12_ t13_ t14_ t15_ t16_ t17_ t18_ t19_ t20_ t21_ t22_ t23_ t24_ t25_ t26_ t27_ t28_ t29_ t30_ t39_ t40_ t41_ t42_ t43_ t44_ t45_ t46_ t47_ t48_ t49_ t50_ t51_ t52_ t53_ t54_ t55_ t56_ t57_ t58_ t59_ t60_ t61_ t62_ t63_ t64_ t65_ t66_ t67_ t68_ t69_ t70_ t71_ t72_ t73_ t74_ t75_ t76_ t77_ t78_ t79_ t80_ t81_ t82_ t83_ t84_ t85_ t86_ t87_ t88_ t89_ t90_ t91_ t92_ t93_ t94_ t95_ t96_ t97_ t98_ t99_ t100_ t101_ t102_ t103_ t104_ t105_ t106_ t107_ t108_ t109_ t110_ t111_ t112_ t113_ t114_ t115_ t116_ t117_ t118_ t119_ t120_ : Value) (b r : Nat) (a0 a1 : Option Addr) (c0 c1 n0 n1 n2 : Nat) (S O : List Nat) (d : Array Bool) (a : Act) (w : World) where
  u31 : Value
  u32 : Value
  u33 : Value
  u34 : Value
  u35 : Value
  u36 : Value
  u37 : Value
  u38 : Value
  g0 : Nat
  k0 : Nat
  g1 : Nat
  k1 : Nat
  mid : Nat
  v3 : Value
  v4 : Value
  ea : a = ⟨#[t0_, t1_, t2_, t3_, t4_, t5_, t6_, t7_, t8_, t9_, t10_, t11_, t12_, t13_, t14_, t15_, t16_, t17_, t18_, t19_, t20_, t21_, t22_, t23_, t24_, t25_, t26_, t27_, t28_, t29_, t30_, u31, u32, u33, u34, u35, u36, u37, u38, t39_, t40_, t41_, t42_, t43_, t44_, t45_, t46_, t47_, t48_, t49_, t50_, t51_, t52_, t53_, t54_, t55_, t56_, t57_, t58_, t59_, t60_, t61_, t62_, t63_, t64_, t65_, t66_, t67_, t68_, t69_, t70_, t71_, t72_, t73_, t74_, t75_, t76_, t77_, t78_, t79_, t80_, t81_, t82_, t83_, t84_, t85_, t86_, t87_, t88_, t89_, t90_, t91_, t92_, t93_, t94_, t95_, t96_, t97_, t98_, t99_, t100_, t101_, t102_, t103_, t104_, t105_, t106_, t107_, t108_, t109_, t110_, t111_, t112_, t113_, t114_, t115_, t116_, t117_, t118_, t119_, t120_], []⟩
  f0 : Gd d 0 (u31 = .pointer (some ⟨b, 3, none⟩))
  f1 : Gd d 1 (u32 = .slice a0 S.length c0)
  f2 : Gd d 2 (u33 = .slice (some ⟨g0, 0, none⟩) S.length k0)
  f3 : Gd d 3 (u34 = .pointer (some ⟨b, 4, none⟩))
  f4 : Gd d 4 (u35 = .slice a1 S.length c1)
  f5 : Gd d 5 (u36 = .slice (some ⟨g1, 0, none⟩) S.length k1)
  f6 : Gd d 6 (u37 = .pointer (some ⟨b, 3, none⟩))
  f8 : Gd d 8 (u38 = .pointer (some ⟨b, 4, none⟩))
  r2 : Gd d 2 (RowO w w0.heap.size (.slice (some ⟨g0, 0, none⟩) S.length k0) S ∧ g0 < mid ∧ mid ≤ w.heap.size)
  r5 : Gd d 5 (RowO w mid (.slice (some ⟨g1, 0, none⟩) S.length k1) O)
  bw : Bw w b [.float .f32 n0, .float .f32 n1, .float .f32 n2, v3, v4]
  o3 : Ng d 7 (v3 = .slice a0 S.length c0)
  m3 : Gd d 7 (v3 = .slice (some ⟨g0, 0, none⟩) S.length k0)
  o4 : Ng d 9 (v4 = .slice a1 S.length c1)
  m4 : Gd d 9 (v4 = .slice (some ⟨g1, 0, none⟩) S.length k1)
  hr : Bw w r [.float .f32 0, .float .f32 0, .float .f32 0, .slice none 0 0, .slice none 0 0]
  hbel : Below b w0 w
def scInv (w0 : World) (t0_ t1_ t2_ t3_ t4_ t5_ t6_ t7_ t8_ t9_ t10_ t11_ t12_ t13_ t14_ t15_ t16_ t17_ t18_ t19_ t20_ t21_ t22_ t23_ t24_ t25_ t26_ t27_ t28_ t29_ t30_ t39_ t40_ t41_ t42_ t43_ t44_ t45_ t46_ t47_ t48_ t49_ t50_ t51_ t52_ t53_ t54_ t55_ t56_ t57_ t58_ t59_ t60_ t61_ t62_ t63_ t64_ t65_ t66_ t67_ t68_ t69_ t70_ t71_ t72_ t73_ t74_ t75_ t76_ t77_ t78_ t79_ t80_ t81_ t82_ t83_ t84_ t85_ t86_ t87_ t88_ t89_ t90_ t91_ t92_ t93_ t94_ t95_ t96_ t97_ t98_ t99_ t100_ t101_ t102_ t103_ t104_ t105_ t106_ t107_ t108_ t109_ t110_ t111_ t112_ t113_ t114_ t115_ t116_ t117_ t118_ t119_ t120_ : Value) (b r : Nat) (a0 a1 : Option Addr) (c0 c1 n0 n1 n2 : Nat) (S O : List Nat) (d : Array Bool) (a : Act) (w : World) : Prop := Nonempty (scInvS w0 t0_ t1_ t2_ t3_ t4_ t5_ t6_ t7_ t8_ t9_ t10_ t11_ t12_ t13_ t14_ t15_ t16_ t17_ t18_ t19_ t20_ t21_ t22_ t23_ t24_ t25_ t26_ t27_ t28_ t29_ t30_ t39_ t40_ t41_ t42_ t43_ t44_ t45_ t46_ t47_ t48_ t49_ t50_ t51_ t52_ t53_ t54_ t55_ t56_ t57_ t58_ t59_ t60_ t61_ t62_ t63_ t64_ t65_ t66_ t67_ t68_ t69_ t70_ t71_ t72_ t73_ t74_ t75_ t76_ t77_ t78_ t79_ t80_ t81_ t82_ t83_ t84_ t85_ t86_ t87_ t88_ t89_ t90_ t91_ t92_ t93_ t94_ t95_ t96_ t97_ t98_ t99_ t100_ t101_ t102_ t103_ t104_ t105_ t106_ t107_ t108_ t109_ t110_ t111_ t112_ t113_ t114_ t115_ t116_ t117_ t118_ t119_ t120_ b r a0 a1 c0 c1 n0 n1 n2 S O d a w)

set_option maxHeartbeats 16000000 in
theorem stepCanal_i {N0 N1 N2 X T : Option Nat} {n0 n1 n2 x t : Nat} (a0 a1 : Option Addr) (c0 c1 : Nat) (S O : List Nat) (w : World) (gx : Is32 X x) (gt : Is32 T t) (gn0 : Is32 N0 n0) (gn1 : Is32 N1 n1) (gn2 : Is32 N2 n2) (h0 : RowF .f32 w a0 S) (hl0 : S.length ≤ 1048576) (hz0 : ∀ z ∈ S, z < 4294967296) (h1 : RowF .f32 w a1 O) (hl1 : O.length ≤ 1048576) (hz1 : ∀ z ∈ O, z < 4294967296) :
    Calls Try.prog 32 #[.agg #[.float .f32 n0, .float .f32 n1, .float .f32 n2, .slice a0 S.length c0, .slice a1 O.length c1], .float .f32 x, .float .f32 t] w (CanI (tickR N0 N1 N2 S O X T) w) := by
  obtain ⟨Q, hQ⟩ : ∃ Q, tickR N0 N1 N2 S O X T = Q := ⟨_, rfl⟩
  rw [hQ]
  have HQ := Lib.hid hQ
  clear hQ
  have H0 := Lib.hid h0
  have H1 := Lib.hid h1
  have HZ0 := Lib.hid hz0
  have HZ1 := Lib.hid hz1
  clear h0 h1 hz0 hz1
  go_enter Try.func32, Try.ntmps32
  go_wp2_with fail
  refine (validCanal_i a0 a1 c0 c1 S O _ gn0 gn1 gn2 (H0.out.below (bel2 _ _ _) (Nat.le_refl _)) hl0 HZ0.out (H1.out.below (bel2 _ _ _) (Nat.le_refl _)) hl1 HZ1.out).mono ?_
  rintro e w1 ⟨bb, hbb, rfl, hb⟩
  have HB1 : Hid (Below w.heap.size w w1) := Lib.hid ((bel2 w _ _).trans (hb.mono (by simp; omega)))
  have hbx : Bw w1 w.heap.size [.float .f32 n0, .float .f32 n1, .float .f32 n2, .slice a0 S.length c0, .slice a1 O.length c1] := (((Bw.new w [.float .f32 n0, .float .f32 n1, .float .f32 n2, .slice a0 S.length c0, .slice a1 O.length c1] 36).alloc (.cells #[.float .f32 0, .float .f32 0, .float .f32 0, .slice none 0 0, .slice none 0 0] 36))).below hb (by simp; omega)
  have bw : Bw w1 (w.heap.size + 1) [.float .f32 0, .float .f32 0, .float .f32 0, .slice none 0 0, .slice none 0 0] := by have h9 := Bw.new (w.alloc (.cells #[.float .f32 n0, .float .f32 n1, .float .f32 n2, .slice a0 S.length c0, .slice a1 O.length c1] 36)) [.float .f32 0, .float .f32 0, .float .f32 0, .slice none 0 0, .slice none 0 0] 36; rw [show (w.alloc (.cells #[.float .f32 n0, .float .f32 n1, .float .f32 n2, .slice a0 S.length c0, .slice a1 O.length c1] 36)).heap.size = w.heap.size + 1 by simp] at h9; exact h9.below hb (by simp)
  have hs1 : w.heap.size + 1 + 1 ≤ w1.heap.size := by have := hb.size; simp at this; omega
  have P0 := Lib.hid hbb
  have q0 := bw.c 0 rfl
  have q1 := bw.c 1 rfl
  have q2 := bw.c 2 rfl
  have q3 := bw.c 3 rfl
  have q4 := bw.c 4 rfl
  have f0 := bw.f 0 (by simp)
  have f1 := bw.f 1 (by simp)
  have f2 := bw.f 2 (by simp)
  have f3 := bw.f 3 (by simp)
  have f4 := bw.f 4 (by simp)
  have BR := Lib.hid bw
  have BX := Lib.hid hbx
  have HS1 := Lib.hid hs1
  clear hbb bw hbx hb hs1
  cases bb
  · have hv : Q = failCan := by rw [← HQ.out]; unfold tickR stepB; rw [P0.out]; simp only [Bool.false_and, Bool.and_false, Bool.true_and, Bool.and_true]; rfl
    have HV := Lib.hid hv
    clear hv
    go_wp2_with fail
    rw [HV.out]
    exact bodyPost_ret (v := .tuple #[.agg #[.float .f32 0, .float .f32 0, .float .f32 0, .slice none 0 0, .slice none 0 0], .bool false]) (by first | (simp [results, Try.results32, go_sem, q0, q1, q2, q3, q4, f0, f1, f2, f3, f4]; done) | (simp (maxDischargeDepth := 12) [results, Try.results32, go_sem, q0, q1, q2, q3, q4, f0, f1, f2, f3, f4]; done) | (simp (maxDischargeDepth := 12) [results, Try.results32, go_sem, q0, q1, q2, q3, q4, f0, f1, f2, f3, f4]; rfl)) rfl (CanI.no (by repeat (first | with_reducible exact HB1.out | with_reducible refine beld ?_ _ | (with_reducible refine Below.alloc ?_ ?_ _; rotate_left; exact (by first | (simp; done) | (simp; omega) | omega)) | (with_reducible refine Below.setCell ?_ ?_ _; rotate_left; exact (by first | (simp; done) | (simp; omega) | omega)))))
  go_wp2_with fail
  refine (isFin_o _ gx).mono ?_
  rintro e w' ⟨bb, hbb, rfl, rfl⟩
  have P1 := Lib.hid hbb
  clear hbb
  cases bb
  · have hv : Q = failCan := by rw [← HQ.out]; unfold tickR stepB; rw [P0.out, P1.out]; simp only [Bool.false_and, Bool.and_false, Bool.true_and, Bool.and_true]; rfl
    have HV := Lib.hid hv
    clear hv
    go_wp2_with fail
    rw [HV.out]
    exact bodyPost_ret (v := .tuple #[.agg #[.float .f32 0, .float .f32 0, .float .f32 0, .slice none 0 0, .slice none 0 0], .bool false]) (by first | (simp [results, Try.results32, go_sem, q0, q1, q2, q3, q4, f0, f1, f2, f3, f4]; done) | (simp (maxDischargeDepth := 12) [results, Try.results32, go_sem, q0, q1, q2, q3, q4, f0, f1, f2, f3, f4]; done) | (simp (maxDischargeDepth := 12) [results, Try.results32, go_sem, q0, q1, q2, q3, q4, f0, f1, f2, f3, f4]; rfl)) rfl (CanI.no (by repeat (first | with_reducible exact HB1.out | with_reducible refine beld ?_ _ | (with_reducible refine Below.alloc ?_ ?_ _; rotate_left; exact (by first | (simp; done) | (simp; omega) | omega)) | (with_reducible refine Below.setCell ?_ ?_ _; rotate_left; exact (by first | (simp; done) | (simp; omega) | omega)))))
  go_wp2_with fail
  refine (isPositive_o _ gt).mono ?_
  rintro e w' ⟨bb, hbb, rfl, rfl⟩
  have P2 := Lib.hid hbb
  clear hbb
  cases bb
  · have hv : Q = failCan := by rw [← HQ.out]; unfold tickR stepB; rw [P0.out, P1.out, P2.out]; simp only [Bool.false_and, Bool.and_false, Bool.true_and, Bool.and_true]; rfl
    have HV := Lib.hid hv
    clear hv
    go_wp2_with fail
    rw [HV.out]
    exact bodyPost_ret (v := .tuple #[.agg #[.float .f32 0, .float .f32 0, .float .f32 0, .slice none 0 0, .slice none 0 0], .bool false]) (by first | (simp [results, Try.results32, go_sem, q0, q1, q2, q3, q4, f0, f1, f2, f3, f4]; done) | (simp (maxDischargeDepth := 12) [results, Try.results32, go_sem, q0, q1, q2, q3, q4, f0, f1, f2, f3, f4]; done) | (simp (maxDischargeDepth := 12) [results, Try.results32, go_sem, q0, q1, q2, q3, q4, f0, f1, f2, f3, f4]; rfl)) rfl (CanI.no (by repeat (first | with_reducible exact HB1.out | with_reducible refine beld ?_ _ | (with_reducible refine Below.alloc ?_ ?_ _; rotate_left; exact (by first | (simp; done) | (simp; omega) | omega)) | (with_reducible refine Below.setCell ?_ ?_ _; rotate_left; exact (by first | (simp; done) | (simp; omega) | omega)))))
  have hsb : stepB N0 N1 N2 S O X T = true := by unfold stepB; rw [P0.out, P1.out, P2.out]; rfl
  have HSB := Lib.hid hsb
  have hq := P0.out
  unfold canalB at hq
  simp only [Bool.and_eq_true, decide_eq_true_eq] at hq
  have hp0 : 0 < S.length := by have := hq.1.1.1.2.1; omega
  have hp1 : O.length = S.length := hq.1.1.2
  clear hq hsb q0 q1 q2 q3 q4 f0 f1 f2 f3 f4
  have BC0 : Hid (Bw w1 w.heap.size [.float .f32 n0, .float .f32 n1, .float .f32 n2, .slice a0 S.length c0, .slice a1 S.length c1]) := Lib.hid (by have h9 := BX.out; rw [hp1] at h9; exact h9)
  have HP1 := Lib.hid hp1
  have HC0 : Hid (∀ W : World, Below w.heap.size w1 W → Calls Try.prog 88 #[.slice a0 S.length c0] W fun e w' => ∃ g c, e = .returned (.slice (some ⟨g, 0, none⟩) S.length c) ∧ RowO w' W.heap.size (.slice (some ⟨g, 0, none⟩) S.length c) S ∧ Below W.heap.size W w') := Lib.hid fun W hb => clone_f a0 c0 S W (H0.out.below (HB1.out.trans hb) (Nat.le_refl _)) hl0 hp0
  have HC1 : Hid (∀ W : World, Below w.heap.size w1 W → Calls Try.prog 88 #[.slice a1 S.length c1] W fun e w' => ∃ g c, e = .returned (.slice (some ⟨g, 0, none⟩) S.length c) ∧ RowO w' W.heap.size (.slice (some ⟨g, 0, none⟩) S.length c) O ∧ Below W.heap.size W w') := Lib.hid fun W hb => by have h9 := clone_f a1 c1 O W (H1.out.below (HB1.out.trans hb) (Nat.le_refl _)) hl1 (by rw [hp1]; exact hp0); rw [hp1] at h9; exact h9
  have LOW : ∀ {lo : Nat} (W : World) (l9 : Nat) (v : Value) (zs : List Nat), lo ≤ l9 → RowO W l9 v zs → RowO W lo v zs := fun W l9 v zs hl h => (h.frow.mono hl (Nat.le_refl _) (Nat.le_refl _)).1
  have HBW0 : w.heap.size < w1.heap.size := by have := HS1.out; omega
  have HBR : w.heap.size ≠ w.heap.size + 1 := by omega
  have HBC0 := BC0.out.drewN 1
  have HRC0 := BR.out.drewN 1
  clear hp1 H0 H1 BX
  go_wp2_with fail
  refine wp_region_inv (id := 3) (scInv w1 _ _ _ _ _ _ _ _ _ _ _ _ _ _ _ _ _ _ _ _ _ _ _ _ _ _ _ _ _ _ _ _ _ _ _ _ _ _ _ _ _ _ _ _ _ _ _ _ _ _ _ _ _ _ _ _ _ _ _ _ _ _ _ _ _ _ _ _ _ _ _ _ _ _ _ _ _ _ _ _ _ _ _ _ _ _ _ _ _ _ _ _ _ _ _ _ _ _ _ _ _ _ _ _ _ _ _ _ _ _ _ _ _ w.heap.size (w.heap.size + 1) a0 a1 c0 c1 n0 n1 n2 S O) (by kernel_rfl) (by kernel_rfl) ⟨⟨_, _, _, _, _, _, _, _, 0, 0, 0, 0, 0, _, _, rfl, .start, .start, .start, .start, .start, .start, .start, .start, .start, .start, HBC0, .start rfl, .start, .start rfl, .start, HRC0, beld (Below.refl _ _) 1⟩⟩ ?hend ?hsteps
  rotate_left
  case hsteps =>
    refine .cons 1 rfl ?_ ?_
    · intro d a w9 hsz hcl hinv hd hdep
      obtain ⟨⟨u31, u32, u33, u34, u35, u36, u37, u38, g0, k0, g1, k1, mid, v3, v4, rfl, f0, f1, f2, f3, f4, f5, f6, f8, r2, r5, bw, o3, m3, o4, m4, hr, hbel⟩⟩ := hinv
      go_wp2_with fail
      exact ⟨⟨(.pointer (some ⟨w.heap.size, 3, none⟩)), u32, u33, u34, u35, u36, u37, u38, g0, k0, g1, k1, mid, v3, v4, rfl, (Gd.new (by first | rfl | simp)), (f1.keep (i := 0) (by decide)), (f2.keep (i := 0) (by decide)), (f3.keep (i := 0) (by decide)), (f4.keep (i := 0) (by decide)), (f5.keep (i := 0) (by decide)), (f6.keep (i := 0) (by decide)), (f8.keep (i := 0) (by decide)), (r2.keep (i := 0) (by decide)), (r5.keep (i := 0) (by decide)), bw, (o3.keep (i := 0) (by decide)), (m3.keep (i := 0) (by decide)), (o4.keep (i := 0) (by decide)), (m4.keep (i := 0) (by decide)), hr, hbel⟩⟩
    refine .cons 2 rfl ?_ ?_
    · intro d a w9 hsz hcl hinv hd hdep
      obtain ⟨⟨u31, u32, u33, u34, u35, u36, u37, u38, g0, k0, g1, k1, mid, v3, v4, rfl, f0, f1, f2, f3, f4, f5, f6, f8, r2, r5, bw, o3, m3, o4, m4, hr, hbel⟩⟩ := hinv
      have e0 := f0 (hdep.get 0 rfl)
      subst e0
      have n2 := hcl.not hd 2 _ rfl rfl
      have n7 := hcl.not n2 7 _ rfl rfl
      have ex := o3 n7
      subst ex
      have kc := bw.c 3 rfl
      go_wp2_with fail
      exact ⟨⟨(.pointer (some ⟨w.heap.size, 3, none⟩)), (.slice a0 S.length c0), u33, u34, u35, u36, u37, u38, g0, k0, g1, k1, mid, (.slice a0 S.length c0), v4, rfl, (Gd.new rfl), (Gd.new (by first | rfl | simp)), (f2.keep (i := 1) (by decide)), (f3.keep (i := 1) (by decide)), (f4.keep (i := 1) (by decide)), (f5.keep (i := 1) (by decide)), (f6.keep (i := 1) (by decide)), (f8.keep (i := 1) (by decide)), (r2.keep (i := 1) (by decide)), (r5.keep (i := 1) (by decide)), bw, (Ng.keep (i := 1) (fun _ => rfl) (by decide)), (m3.keep (i := 1) (by decide)), (o4.keep (i := 1) (by decide)), (m4.keep (i := 1) (by decide)), hr, hbel⟩⟩
    refine .cons 3 rfl ?_ ?_
    · intro d a w9 hsz hcl hinv hd hdep
      obtain ⟨⟨u31, u32, u33, u34, u35, u36, u37, u38, g0, k0, g1, k1, mid, v3, v4, rfl, f0, f1, f2, f3, f4, f5, f6, f8, r2, r5, bw, o3, m3, o4, m4, hr, hbel⟩⟩ := hinv
      have e1 := f1 (hdep.get 1 rfl)
      subst e1
      have n5 := hcl.not hd 5 _ rfl rfl
      have n7 := hcl.not hd 7 _ rfl rfl
      have n9 := hcl.not n5 9 _ rfl rfl
      have hb9 := bw.1.1
      go_wp2_with fail
      refine (HC0.out _ hbel).mono ?_
      rintro e w8 ⟨gn, kn, rfl, hrow, hb⟩
      have hlo := hrow.lo gn rfl
      have hz8 : w9.heap.size ≤ w8.heap.size := hb.size
      go_wp2_with fail
      exact ⟨⟨u31, (.slice a0 S.length c0), (.slice (some ⟨gn, 0, none⟩) S.length kn), u34, u35, u36, u37, u38, gn, kn, g1, k1, w8.heap.size, v3, v4, rfl, (f0.keep (i := 2) (by decide)), (Gd.new rfl), (Gd.new (by first | rfl | simp)), (f3.keep (i := 2) (by decide)), (f4.keep (i := 2) (by decide)), (Gd.undone (i := 2) n5 (by decide)), (f6.keep (i := 2) (by decide)), (f8.keep (i := 2) (by decide)), (Gd.new ⟨LOW _ _ _ _ (show w1.heap.size ≤ _ from hbel.size) hrow, hlo.2, Nat.le_refl _⟩), (Gd.undone (i := 2) n5 (by decide)), (bw.below hb bw.1.1), (o3.keep (i := 2) (by decide)), (Gd.undone (i := 2) n7 (by decide)), (o4.keep (i := 2) (by decide)), (m4.keep (i := 2) (by decide)), (hr.below hb hr.1.1), (hbel.trans (hb.mono (Nat.le_of_lt hb9)))⟩⟩
    refine .cons 4 rfl ?_ ?_
    · intro d a w9 hsz hcl hinv hd hdep
      obtain ⟨⟨u31, u32, u33, u34, u35, u36, u37, u38, g0, k0, g1, k1, mid, v3, v4, rfl, f0, f1, f2, f3, f4, f5, f6, f8, r2, r5, bw, o3, m3, o4, m4, hr, hbel⟩⟩ := hinv
      go_wp2_with fail
      exact ⟨⟨u31, u32, u33, (.pointer (some ⟨w.heap.size, 4, none⟩)), u35, u36, u37, u38, g0, k0, g1, k1, mid, v3, v4, rfl, (f0.keep (i := 3) (by decide)), (f1.keep (i := 3) (by decide)), (f2.keep (i := 3) (by decide)), (Gd.new (by first | rfl | simp)), (f4.keep (i := 3) (by decide)), (f5.keep (i := 3) (by decide)), (f6.keep (i := 3) (by decide)), (f8.keep (i := 3) (by decide)), (r2.keep (i := 3) (by decide)), (r5.keep (i := 3) (by decide)), bw, (o3.keep (i := 3) (by decide)), (m3.keep (i := 3) (by decide)), (o4.keep (i := 3) (by decide)), (m4.keep (i := 3) (by decide)), hr, hbel⟩⟩
    refine .cons 5 rfl ?_ ?_
    · intro d a w9 hsz hcl hinv hd hdep
      obtain ⟨⟨u31, u32, u33, u34, u35, u36, u37, u38, g0, k0, g1, k1, mid, v3, v4, rfl, f0, f1, f2, f3, f4, f5, f6, f8, r2, r5, bw, o3, m3, o4, m4, hr, hbel⟩⟩ := hinv
      have e3 := f3 (hdep.get 3 rfl)
      subst e3
      have n5 := hcl.not hd 5 _ rfl rfl
      have n9 := hcl.not n5 9 _ rfl rfl
      have ex := o4 n9
      subst ex
      have kc := bw.c 4 rfl
      go_wp2_with fail
      exact ⟨⟨u31, u32, u33, (.pointer (some ⟨w.heap.size, 4, none⟩)), (.slice a1 S.length c1), u36, u37, u38, g0, k0, g1, k1, mid, v3, (.slice a1 S.length c1), rfl, (f0.keep (i := 4) (by decide)), (f1.keep (i := 4) (by decide)), (f2.keep (i := 4) (by decide)), (Gd.new rfl), (Gd.new (by first | rfl | simp)), (f5.keep (i := 4) (by decide)), (f6.keep (i := 4) (by decide)), (f8.keep (i := 4) (by decide)), (r2.keep (i := 4) (by decide)), (r5.keep (i := 4) (by decide)), bw, (o3.keep (i := 4) (by decide)), (m3.keep (i := 4) (by decide)), (Ng.keep (i := 4) (fun _ => rfl) (by decide)), (m4.keep (i := 4) (by decide)), hr, hbel⟩⟩
    refine .cons 6 rfl ?_ ?_
    · intro d a w9 hsz hcl hinv hd hdep
      obtain ⟨⟨u31, u32, u33, u34, u35, u36, u37, u38, g0, k0, g1, k1, mid, v3, v4, rfl, f0, f1, f2, f3, f4, f5, f6, f8, r2, r5, bw, o3, m3, o4, m4, hr, hbel⟩⟩ := hinv
      have e4 := f4 (hdep.get 4 rfl)
      subst e4
      have n7 := hcl.not hd 7 _ rfl rfl
      have n9 := hcl.not hd 9 _ rfl rfl
      have hr2 := r2 (hdep.get 2 rfl)
      have hb9 := bw.1.1
      go_wp2_with fail
      refine (HC1.out _ hbel).mono ?_
      rintro e w8 ⟨gn, kn, rfl, hrow, hb⟩
      have hz8 : w9.heap.size ≤ w8.heap.size := hb.size
      go_wp2_with fail
      exact ⟨⟨u31, u32, u33, u34, (.slice a1 S.length c1), (.slice (some ⟨gn, 0, none⟩) S.length kn), u37, u38, g0, k0, gn, kn, mid, v3, v4, rfl, (f0.keep (i := 5) (by decide)), (f1.keep (i := 5) (by decide)), (f2.keep (i := 5) (by decide)), (f3.keep (i := 5) (by decide)), (Gd.new rfl), (Gd.new (by first | rfl | simp)), (f6.keep (i := 5) (by decide)), (f8.keep (i := 5) (by decide)), (Gd.keep (i := 5) (r2.imp fun h => ⟨h.1.below hb (Nat.le_refl _), h.2.1, Nat.le_trans h.2.2 hz8⟩) (by decide)), (Gd.new (LOW _ _ _ _ hr2.2.2 hrow)), (bw.below hb bw.1.1), (o3.keep (i := 5) (by decide)), (m3.keep (i := 5) (by decide)), (o4.keep (i := 5) (by decide)), (Gd.undone (i := 5) n9 (by decide)), (hr.below hb hr.1.1), (hbel.trans (hb.mono (Nat.le_of_lt hb9)))⟩⟩
    refine .cons 7 rfl ?_ ?_
    · intro d a w9 hsz hcl hinv hd hdep
      obtain ⟨⟨u31, u32, u33, u34, u35, u36, u37, u38, g0, k0, g1, k1, mid, v3, v4, rfl, f0, f1, f2, f3, f4, f5, f6, f8, r2, r5, bw, o3, m3, o4, m4, hr, hbel⟩⟩ := hinv
      go_wp2_with fail
      exact ⟨⟨u31, u32, u33, u34, u35, u36, (.pointer (some ⟨w.heap.size, 3, none⟩)), u38, g0, k0, g1, k1, mid, v3, v4, rfl, (f0.keep (i := 6) (by decide)), (f1.keep (i := 6) (by decide)), (f2.keep (i := 6) (by decide)), (f3.keep (i := 6) (by decide)), (f4.keep (i := 6) (by decide)), (f5.keep (i := 6) (by decide)), (Gd.new (by first | rfl | simp)), (f8.keep (i := 6) (by decide)), (r2.keep (i := 6) (by decide)), (r5.keep (i := 6) (by decide)), bw, (o3.keep (i := 6) (by decide)), (m3.keep (i := 6) (by decide)), (o4.keep (i := 6) (by decide)), (m4.keep (i := 6) (by decide)), hr, hbel⟩⟩
    refine .cons 8 rfl ?_ ?_
    · intro d a w9 hsz hcl hinv hd hdep
      obtain ⟨⟨u31, u32, u33, u34, u35, u36, u37, u38, g0, k0, g1, k1, mid, v3, v4, rfl, f0, f1, f2, f3, f4, f5, f6, f8, r2, r5, bw, o3, m3, o4, m4, hr, hbel⟩⟩ := hinv
      have e6 := f6 (hdep.get 6 rfl)
      subst e6
      have e2 := f2 (hdep.get 2 rfl)
      subst e2
      have d2 : d.getD 2 false = true := hdep.get 2 rfl
      have d5 : d.getD 5 false = true := hdep.get 5 rfl
      have hr2 := r2 d2
      have hr5 := r5 d5
      have hl0 := hr2.1.lo g0 rfl
      have hl1 := hr5.lo g1 rfl
      have hb9 : w.heap.size < w1.heap.size := HBW0
      have hne0 : g0 ≠ w.heap.size := by omega
      have hne1 : g1 ≠ w.heap.size := by omega
      have hc0 := bw.c 0 rfl
      have hc1 := bw.c 1 rfl
      have hc2 := bw.c 2 rfl
      have hc3 := bw.c 3 rfl
      have hc4 := bw.c 4 rfl
      have hf0 := bw.f 0 (by simp)
      have hf1 := bw.f 1 (by simp)
      have hf2 := bw.f 2 (by simp)
      have hf3 := bw.f 3 (by simp)
      have hf4 := bw.f 4 (by simp)
      have hbs := bw.1.1
      go_wp2_with fail
      have hnew : Bw (w9.setCell ⟨w.heap.size, 3, none⟩ (.slice (some ⟨g0, 0, none⟩) S.length k0)) w.heap.size [.float .f32 n0, .float .f32 n1, .float .f32 n2, .slice (some ⟨g0, 0, none⟩) S.length k0, v4] := Bw.of5 (by simp; exact hbs) (by first | (simp [go_sem, hc0, hc1, hc2, hc3, hc4, hf0, hf1, hf2, hf3, hf4]; done) | (simp [go_sem, hc0, hc1, hc2, hc3, hc4, hf0, hf1, hf2, hf3, hf4]; rfl)) (by first | (simp [go_sem, hc0, hc1, hc2, hc3, hc4, hf0, hf1, hf2, hf3, hf4]; done) | (simp [go_sem, hc0, hc1, hc2, hc3, hc4, hf0, hf1, hf2, hf3, hf4]; rfl)) (by first | (simp [go_sem, hc0, hc1, hc2, hc3, hc4, hf0, hf1, hf2, hf3, hf4]; done) | (simp [go_sem, hc0, hc1, hc2, hc3, hc4, hf0, hf1, hf2, hf3, hf4]; rfl)) (by first | (simp [go_sem, hc0, hc1, hc2, hc3, hc4, hf0, hf1, hf2, hf3, hf4]; done) | (simp [go_sem, hc0, hc1, hc2, hc3, hc4, hf0, hf1, hf2, hf3, hf4]; rfl)) (by first | (simp [go_sem, hc0, hc1, hc2, hc3, hc4, hf0, hf1, hf2, hf3, hf4]; done) | (simp [go_sem, hc0, hc1, hc2, hc3, hc4, hf0, hf1, hf2, hf3, hf4]; rfl)) (by first | (simp [go_sem, hc0, hc1, hc2, hc3, hc4, hf0, hf1, hf2, hf3, hf4]; done) | (simp [go_sem, hc0, hc1, hc2, hc3, hc4, hf0, hf1, hf2, hf3, hf4]; rfl)) (by first | (simp [go_sem, hc0, hc1, hc2, hc3, hc4, hf0, hf1, hf2, hf3, hf4]; done) | (simp [go_sem, hc0, hc1, hc2, hc3, hc4, hf0, hf1, hf2, hf3, hf4]; rfl)) (by first | (simp [go_sem, hc0, hc1, hc2, hc3, hc4, hf0, hf1, hf2, hf3, hf4]; done) | (simp [go_sem, hc0, hc1, hc2, hc3, hc4, hf0, hf1, hf2, hf3, hf4]; rfl)) (by first | (simp [go_sem, hc0, hc1, hc2, hc3, hc4, hf0, hf1, hf2, hf3, hf4]; done) | (simp [go_sem, hc0, hc1, hc2, hc3, hc4, hf0, hf1, hf2, hf3, hf4]; rfl)) (by first | (simp [go_sem, hc0, hc1, hc2, hc3, hc4, hf0, hf1, hf2, hf3, hf4]; done) | (simp [go_sem, hc0, hc1, hc2, hc3, hc4, hf0, hf1, hf2, hf3, hf4]; rfl))
      exact ⟨⟨u31, u32, (.slice (some ⟨g0, 0, none⟩) S.length k0), u34, u35, u36, (.pointer (some ⟨w.heap.size, 3, none⟩)), u38, g0, k0, g1, k1, mid, (.slice (some ⟨g0, 0, none⟩) S.length k0), v4, rfl, (f0.keep (i := 7) (by decide)), (f1.keep (i := 7) (by decide)), (Gd.new rfl), (f3.keep (i := 7) (by decide)), (f4.keep (i := 7) (by decide)), (f5.keep (i := 7) (by decide)), (Gd.new rfl), (f8.keep (i := 7) (by decide)), (Gd.keep (i := 7) (r2.imp fun h => ⟨h.1.setFar (by simp [Value.ownBlock]; exact hne0) _, h.2.1, by simp; exact h.2.2⟩) (by decide)), (Gd.keep (i := 7) (r5.imp fun h => h.setFar (by simp [Value.ownBlock]; exact hne1) _) (by decide)), hnew, (Ng.new (by rw [hsz]; exact (by decide : 7 < 10))), (Gd.new rfl), (o4.keep (i := 7) (by decide)), (m4.keep (i := 7) (by decide)), (hr.setOther (show w.heap.size ≠ w.heap.size + 1 from HBR) _), (hbel.setCell (Nat.le_refl _) _)⟩⟩
    refine .cons 9 rfl ?_ ?_
    · intro d a w9 hsz hcl hinv hd hdep
      obtain ⟨⟨u31, u32, u33, u34, u35, u36, u37, u38, g0, k0, g1, k1, mid, v3, v4, rfl, f0, f1, f2, f3, f4, f5, f6, f8, r2, r5, bw, o3, m3, o4, m4, hr, hbel⟩⟩ := hinv
      go_wp2_with fail
      exact ⟨⟨u31, u32, u33, u34, u35, u36, u37, (.pointer (some ⟨w.heap.size, 4, none⟩)), g0, k0, g1, k1, mid, v3, v4, rfl, (f0.keep (i := 8) (by decide)), (f1.keep (i := 8) (by decide)), (f2.keep (i := 8) (by decide)), (f3.keep (i := 8) (by decide)), (f4.keep (i := 8) (by decide)), (f5.keep (i := 8) (by decide)), (f6.keep (i := 8) (by decide)), (Gd.new (by first | rfl | simp)), (r2.keep (i := 8) (by decide)), (r5.keep (i := 8) (by decide)), bw, (o3.keep (i := 8) (by decide)), (m3.keep (i := 8) (by decide)), (o4.keep (i := 8) (by decide)), (m4.keep (i := 8) (by decide)), hr, hbel⟩⟩
    refine .cons 10 rfl ?_ trivial
    · intro d a w9 hsz hcl hinv hd hdep
      obtain ⟨⟨u31, u32, u33, u34, u35, u36, u37, u38, g0, k0, g1, k1, mid, v3, v4, rfl, f0, f1, f2, f3, f4, f5, f6, f8, r2, r5, bw, o3, m3, o4, m4, hr, hbel⟩⟩ := hinv
      have e8 := f8 (hdep.get 8 rfl)
      subst e8
      have e5 := f5 (hdep.get 5 rfl)
      subst e5
      have d5 : d.getD 5 false = true := hdep.get 5 rfl
      have d2 := (hcl 5 _ rfl d5).get 2 rfl
      have hr2 := r2 d2
      have hr5 := r5 d5
      have hl0 := hr2.1.lo g0 rfl
      have hl1 := hr5.lo g1 rfl
      have hb9 : w.heap.size < w1.heap.size := HBW0
      have hne0 : g0 ≠ w.heap.size := by omega
      have hne1 : g1 ≠ w.heap.size := by omega
      have hc0 := bw.c 0 rfl
      have hc1 := bw.c 1 rfl
      have hc2 := bw.c 2 rfl
      have hc3 := bw.c 3 rfl
      have hc4 := bw.c 4 rfl
      have hf0 := bw.f 0 (by simp)
      have hf1 := bw.f 1 (by simp)
      have hf2 := bw.f 2 (by simp)
      have hf3 := bw.f 3 (by simp)
      have hf4 := bw.f 4 (by simp)
      have hbs := bw.1.1
      go_wp2_with fail
      have hnew : Bw (w9.setCell ⟨w.heap.size, 4, none⟩ (.slice (some ⟨g1, 0, none⟩) S.length k1)) w.heap.size [.float .f32 n0, .float .f32 n1, .float .f32 n2, v3, .slice (some ⟨g1, 0, none⟩) S.length k1] := Bw.of5 (by simp; exact hbs) (by first | (simp [go_sem, hc0, hc1, hc2, hc3, hc4, hf0, hf1, hf2, hf3, hf4]; done) | (simp [go_sem, hc0, hc1, hc2, hc3, hc4, hf0, hf1, hf2, hf3, hf4]; rfl)) (by first | (simp [go_sem, hc0, hc1, hc2, hc3, hc4, hf0, hf1, hf2, hf3, hf4]; done) | (simp [go_sem, hc0, hc1, hc2, hc3, hc4, hf0, hf1, hf2, hf3, hf4]; rfl)) (by first | (simp [go_sem, hc0, hc1, hc2, hc3, hc4, hf0, hf1, hf2, hf3, hf4]; done) | (simp [go_sem, hc0, hc1, hc2, hc3, hc4, hf0, hf1, hf2, hf3, hf4]; rfl)) (by first | (simp [go_sem, hc0, hc1, hc2, hc3, hc4, hf0, hf1, hf2, hf3, hf4]; done) | (simp [go_sem, hc0, hc1, hc2, hc3, hc4, hf0, hf1, hf2, hf3, hf4]; rfl)) (by first | (simp [go_sem, hc0, hc1, hc2, hc3, hc4, hf0, hf1, hf2, hf3, hf4]; done) | (simp [go_sem, hc0, hc1, hc2, hc3, hc4, hf0, hf1, hf2, hf3, hf4]; rfl)) (by first | (simp [go_sem, hc0, hc1, hc2, hc3, hc4, hf0, hf1, hf2, hf3, hf4]; done) | (simp [go_sem, hc0, hc1, hc2, hc3, hc4, hf0, hf1, hf2, hf3, hf4]; rfl)) (by first | (simp [go_sem, hc0, hc1, hc2, hc3, hc4, hf0, hf1, hf2, hf3, hf4]; done) | (simp [go_sem, hc0, hc1, hc2, hc3, hc4, hf0, hf1, hf2, hf3, hf4]; rfl)) (by first | (simp [go_sem, hc0, hc1, hc2, hc3, hc4, hf0, hf1, hf2, hf3, hf4]; done) | (simp [go_sem, hc0, hc1, hc2, hc3, hc4, hf0, hf1, hf2, hf3, hf4]; rfl)) (by first | (simp [go_sem, hc0, hc1, hc2, hc3, hc4, hf0, hf1, hf2, hf3, hf4]; done) | (simp [go_sem, hc0, hc1, hc2, hc3, hc4, hf0, hf1, hf2, hf3, hf4]; rfl)) (by first | (simp [go_sem, hc0, hc1, hc2, hc3, hc4, hf0, hf1, hf2, hf3, hf4]; done) | (simp [go_sem, hc0, hc1, hc2, hc3, hc4, hf0, hf1, hf2, hf3, hf4]; rfl))
      exact ⟨⟨u31, u32, u33, u34, u35, (.slice (some ⟨g1, 0, none⟩) S.length k1), u37, (.pointer (some ⟨w.heap.size, 4, none⟩)), g0, k0, g1, k1, mid, v3, (.slice (some ⟨g1, 0, none⟩) S.length k1), rfl, (f0.keep (i := 9) (by decide)), (f1.keep (i := 9) (by decide)), (f2.keep (i := 9) (by decide)), (f3.keep (i := 9) (by decide)), (f4.keep (i := 9) (by decide)), (Gd.new rfl), (f6.keep (i := 9) (by decide)), (Gd.new rfl), (Gd.keep (i := 9) (r2.imp fun h => ⟨h.1.setFar (by simp [Value.ownBlock]; exact hne0) _, h.2.1, by simp; exact h.2.2⟩) (by decide)), (Gd.keep (i := 9) (r5.imp fun h => h.setFar (by simp [Value.ownBlock]; exact hne1) _) (by decide)), hnew, (o3.keep (i := 9) (by decide)), (m3.keep (i := 9) (by decide)), (Ng.new (by rw [hsz]; exact (by decide : 9 < 10))), (Gd.new rfl), (hr.setOther (show w.heap.size ≠ w.heap.size + 1 from HBR) _), (hbel.setCell (Nat.le_refl _) _)⟩⟩
  intro d a w9 hinv hall
  obtain ⟨⟨u31, u32, u33, u34, u35, u36, u37, u38, g0, k0, g1, k1, mid, v3, v4, rfl, f0, f1, f2, f3, f4, f5, f6, f8, r2, r5, bw, o3, m3, o4, m4, hr, hbel⟩⟩ := hinv
  have e2 := f2 (hall 2 (by decide))
  have e5 := f5 (hall 5 (by decide))
  subst e2
  subst e5
  have e3 := m3 (hall 7 (by decide))
  have e4 := m4 (hall 9 (by decide))
  subst e3
  subst e4
  have hr2 := r2 (hall 2 (by decide))
  have hr5 := r5 (hall 5 (by decide))
  have hbw := bw
  have hrr := hr
  have hbb := hbel
  clear f0 f1 f2 f3 f4 f5 f6 f8 r2 r5 bw o3 m3 o4 m4 hr hbel
  obtain ⟨hra, hgm, hmw⟩ := hr2
  have HB2 : Hid (Below w.heap.size w w9) := Lib.hid (HB1.out.trans hbb)
  have HA0 := Lib.hid hra
  have HZ0' := Lib.hid hr5
  have BC2 := Lib.hid hbw
  have BR2 := Lib.hid hrr
  have hgl := (hra.lo g0 rfl).1
  have hg1l := (hr5.lo g1 rfl).1
  have hs1 := HS1.out
  have Hg0 : Hid (w.heap.size + 1 < g0) := Lib.hid (by omega)
  have Hgm := Lib.hid hgm
  have Hg1 := Lib.hid hg1l
  have Hne : Hid (g0 ≠ g1) := Lib.hid (by omega)
  have HL2 : Hid (w.heap.size + 1 + 1 ≤ w9.heap.size) := Lib.hid (by have := hmw; omega)
  have Hmw := Lib.hid (show mid ≤ w9.heap.size from hmw)
  clear hra hr5 hbw hrr hgl hg1l hs1 hgm hmw hbb HBC0 HRC0 HC0 HC1 LOW HBW0 HBR BC0 BR
  have q0 := BC2.out.c 0 rfl
  have q1 := BC2.out.c 1 rfl
  have q2 := BC2.out.c 2 rfl
  have q3 := BC2.out.c 3 rfl
  have q4 := BC2.out.c 4 rfl
  go_wp2_with (first | ((with_reducible refine wpList_bin ?_); refine wpList_f32 rfl _ _ _ _ _ rfl rfl rfl (by decide) (by first | assumption | exact Is32.c (by decide)) (by first | assumption | exact Is32.c (by decide)) ?_; intro z n hz) | ((with_reducible refine wpList_bin ?_); refine wpList_c32 rfl _ _ _ _ _ rfl rfl rfl (by decide) (by first | assumption | exact Is32.c (by decide)) (by first | assumption | exact Is32.c (by decide)) ?_; intro bb hbb; cases bb))
  rename_i zb nb hzb zc nc hzc rl9 hrl9
  have hpull : Is32 (pullO T N1) zb := hzb
  have hslow : Is32 (fop .add .f32 (some 1065353216) (fop .mul .f32 T N2)) z := hz
  have HPull := Lib.hid hpull
  have HSlow := Lib.hid hslow
  clear q0 q1 q2 q3 q4 hzc hzb hz hpull hslow
  go_loopw [53, 10] (fun i bv wr => ∃ (k y : Nat) (Z : List Nat), k ≤ S.length ∧ i = .int .i64 k ∧ bv = .float .f32 y ∧ Hid (Is32 (befO S X k) y) ∧ Hid (Upto (newF N0 N1 N2 S O X T) k O Z) ∧ Hid (RowO wr w1.heap.size (.slice (some ⟨g0, 0, none⟩) S.length k0) S) ∧ Hid (RowO wr mid (.slice (some ⟨g1, 0, none⟩) S.length k1) Z) ∧ Hid (Bw wr w.heap.size [.float .f32 n0, .float .f32 n1, .float .f32 n2, .slice (some ⟨g0, 0, none⟩) S.length k0, .slice (some ⟨g1, 0, none⟩) S.length k1]) ∧ Hid (Bw wr (w.heap.size + 1) [.float .f32 0, .float .f32 0, .float .f32 0, .slice none 0 0, .slice none 0 0]) ∧ Hid (Below w.heap.size w wr) ∧ Hid (mid ≤ wr.heap.size)) (fun i _ _ => S.length - (intOf i).toNat)
  case atStart => exact ⟨0, x, O, Nat.zero_le _, rfl, rfl, Lib.hid gx, Lib.hid (Upto.zero _ _), Lib.hid (by repeat (first | with_reducible exact HA0.out | with_reducible refine RowO.drewN ?_ _)), Lib.hid (by repeat (first | with_reducible exact HZ0'.out | with_reducible refine RowO.drewN ?_ _)), Lib.hid (by repeat (first | with_reducible exact BC2.out | with_reducible refine Bw.drewN ?_ _)), Lib.hid (by repeat (first | with_reducible exact BR2.out | with_reducible refine Bw.drewN ?_ _)), Lib.hid (by repeat (first | with_reducible exact HB2.out | with_reducible refine beld ?_ _)), Hmw⟩
  case round =>
    obtain ⟨k, y, Z, hk, rfl, rfl, HY, HU, HA, HZ, HBc, HBr, HBk, HMw⟩ := hrel
    by_cases hlt : k < S.length
    · have hq0 := HBc.out.c 0 rfl
      have hq1 := HBc.out.c 1 rfl
      have hq2 := HBc.out.c 2 rfl
      have hq3 := HBc.out.c 3 rfl
      have hq4 := HBc.out.c 4 rfl
      obtain ⟨hch1, hfh1⟩ := HA.out.at rfl k hlt
      obtain ⟨h1, hh1⟩ : ∃ x, S.getD k 0 = x := ⟨_, rfl⟩
      rw [hh1] at hch1
      have hih1 : Is32 (some h1) h1 := Is32.c (by rw [← hh1]; exact getD_lt HZ0.out _)
      have HWh1 := Lib.hid hh1
      clear hh1 hfh1
      have hzl : Z.length = S.length := HU.out.1.trans HP1.out
      obtain ⟨hcz, hfz⟩ := HZ.out.at hzl.symm k (by omega)
      rw [HU.out.2.2 k (Nat.le_refl _)] at hcz
      obtain ⟨f1, hf1⟩ : ∃ x, O.getD k 0 = x := ⟨_, rfl⟩
      rw [hf1] at hcz
      have hif1 : Is32 (some f1) f1 := Is32.c (by rw [← hf1]; exact getD_lt HZ1.out _)
      have HWf1 := Lib.hid hf1
      clear hf1
      have Hzl := Lib.hid hzl
      clear hzl
      have hpull := HPull.out
      have hslow := HSlow.out
      have hy := HY.out
      have hk0 : (0 : Int) ≤ (k : Int) := by omega
      have hkv : (k : Int) < (S.length : Int) := by omega
      go_wp2_with (first | ((with_reducible refine wpList_bin ?_); refine wpList_f32 rfl _ _ _ _ _ rfl rfl rfl (by decide) (by first | assumption | exact Is32.c (by decide)) (by first | assumption | exact Is32.c (by decide)) ?_; intro z n hz) | ((with_reducible refine wpList_bin ?_); refine wpList_c32 rfl _ _ _ _ _ rfl rfl rfl (by decide) (by first | assumption | exact Is32.c (by decide)) (by first | assumption | exact Is32.c (by decide)) ?_; intro bb hbb; cases bb))
      rename_i zr nr hzr rl8 hrl8
      apply wp_region_tail (id := 11) 15 (C := fun w' => ∃ q2, w' = (wr.drewN (nr + n)).drewN q2) (vmap [(10, V32k _), (11, V32k _), (13, V32k _)]) ⟨1, rfl⟩ (by kernel_rfl) (by kernel_rfl)
      (refine wpV_go 1 rfl (fun K hK => ?_); go_simp; refine hK.out _ ?_; clear hK K)
      (refine wpV_go 2 rfl (fun K hK => ?_); go_simp; refine hK.out _ ?_; clear hK K)
      (refine wpV_go 3 rfl (fun K hK => ?_); go_simp; refine hK.out _ ?_; clear hK K)
      (refine wpV_go 4 rfl (fun K hK => ?_); go_simp; refine hK.out _ ?_; clear hK K)
      (refine wpV_go 5 rfl (fun K hK => ?_); go_simp; refine hK.out _ ?_; clear hK K)
      (refine wpV_go 6 rfl (fun K hK => ?_); go_simp; refine hK.out _ ?_; clear hK K)
      (refine wpV_go 7 rfl (fun K hK => ?_); go_simp; refine hK.out _ ?_; clear hK K)
      (refine wpV_go 8 rfl (fun K hK => ?_); go_simp; refine hK.out _ ?_; clear hK K)
      (refine wpV_go 9 rfl (fun K hK => ?_); go_simp; refine hK.out _ ?_; clear hK K)
      (refine wpV_go 10 rfl (fun K hK => ?_); go_simp; refine hK.out _ ?_; clear hK K)
      (refine wpV_f32 11 rfl (drewC _) _ _ _ _ _ rfl rfl rfl rfl (by decide) (by first | assumption | exact Is32.c (by decide)) (by first | assumption | exact Is32.c (by decide)) rfl ?_; intro z10 hz10)
      (refine wpV_f32 12 rfl (drewC _) _ _ _ _ _ rfl rfl rfl rfl (by decide) (by first | assumption | exact Is32.c (by decide)) (by first | assumption | exact Is32.c (by decide)) rfl ?_; intro z11 hz11)
      (refine wpV_go 13 rfl (fun K hK => ?_); go_simp; refine hK.out _ ?_; clear hK K)
      (refine wpV_f32 14 rfl (drewC _) _ _ _ _ _ rfl rfl rfl rfl (by decide) (by first | assumption | exact Is32.c (by decide)) (by first | assumption | exact Is32.c (by decide)) rfl ?_; intro z13 hz13)
      (refine wpV_go 15 rfl (fun K hK => ?_); go_simp; refine hK.out _ ?_; clear hK K)
      refine wpV_nil ?_
      rintro w9 ⟨q9, rfl⟩
      try simp only [List.drop]
      go_wp2_with fail
      go_roundw
      case rel => exact ⟨k + 1, h1, Z.set k z13, by omega, by go_num, rfl, Lib.hid (by show Is32 (some (S.getD k 0)) h1; rw [HWh1.out]; exact hih1), Lib.hid (HU.out.next (by have := HP1.out; omega) (by show Is32 (flO T N0 N1 N2 (some (O.getD k 0)) (some (S.getD k 0)) (befO S X k)) z13; rw [HWf1.out, HWh1.out]; exact hz13)), Lib.hid ((HA.out.drewN _).setFar (by simp [Value.ownBlock]; exact Hne.out) _), Lib.hid ((HZ.out.drewN _).store Hzl.out.symm _ z13), Lib.hid ((HBc.out.drewN _).setOther (by have := Hg0.out; have := Hgm.out; have := Hg1.out; show g1 ≠ _; omega) _), Lib.hid ((HBr.out.drewN _).setOther (by have := Hg0.out; have := Hgm.out; have := Hg1.out; show g1 ≠ _; omega) _), Lib.hid ((beld HBk.out _).setCell (by have := Hg0.out; have := Hgm.out; have := Hg1.out; show _ ≤ g1; omega) _), Lib.hid (by simp; exact HMw.out)⟩
      case measure => simp [intOf]; omega
    · have hkS : k = S.length := by omega
      subst hkS
      have hq3 := HBc.out.c 3 rfl
      have hq4 := HBc.out.c 4 rfl
      go_wp2_with fail
      clear hq3 hq4
      go_loopw [84] (fun i wr => ∃ (k : Nat) (Y : List Nat), k ≤ S.length ∧ i = .int .i64 k ∧ Hid (Upto (newH N0 N1 N2 S O X T) k S Y) ∧ Hid (RowO wr w1.heap.size (.slice (some ⟨g0, 0, none⟩) S.length k0) Y) ∧ Hid (RowO wr mid (.slice (some ⟨g1, 0, none⟩) S.length k1) Z) ∧ Hid (Bw wr w.heap.size [.float .f32 n0, .float .f32 n1, .float .f32 n2, .slice (some ⟨g0, 0, none⟩) S.length k0, .slice (some ⟨g1, 0, none⟩) S.length k1]) ∧ Hid (Bw wr (w.heap.size + 1) [.float .f32 0, .float .f32 0, .float .f32 0, .slice none 0 0, .slice none 0 0]) ∧ Hid (Below w.heap.size w wr) ∧ Hid (mid ≤ wr.heap.size)) (fun i _ => S.length - (intOf i).toNat)
      case atStart => exact ⟨0, S, Nat.zero_le _, rfl, Lib.hid (Upto.zero _ _), HA, HZ, HBc, HBr, HBk, HMw⟩
      case round =>
        clear HA HBr HBc HBk HY HMw
        obtain ⟨k, Y, hk, rfl, HV, HA, HZ, HBc, HBr, HBk, HMw⟩ := hrel
        by_cases hlt : k < S.length
        · have hq0 := HBc.out.c 0 rfl
          have hq1 := HBc.out.c 1 rfl
          have hq2 := HBc.out.c 2 rfl
          have hq3 := HBc.out.c 3 rfl
          have hq4 := HBc.out.c 4 rfl
          have hyl : Y.length = S.length := HV.out.1
          obtain ⟨hcy, hfy⟩ := HA.out.at hyl.symm k (by omega)
          rw [HV.out.2.2 k (Nat.le_refl _)] at hcy
          obtain ⟨h1, hh1⟩ : ∃ x, S.getD k 0 = x := ⟨_, rfl⟩
          rw [hh1] at hcy
          have hih1 : Is32 (some h1) h1 := Is32.c (by rw [← hh1]; exact getD_lt HZ0.out _)
          have HWh1 := Lib.hid hh1
          clear hh1
          have Hyl := Lib.hid hyl
          clear hyl
          have hzl : Z.length = S.length := HU.out.1.trans HP1.out
          obtain ⟨hcz, hfz⟩ := HZ.out.at hzl.symm k (by omega)
          have hizk := HU.out.2.1 k hlt
          generalize Z.getD k 0 = zk at hcz hizk
          have hk0 : (0 : Int) ≤ (k : Int) := by omega
          have hkv : (k : Int) < (S.length : Int) := by omega
          by_cases hl2 : k + 1 < S.length
          · have hl3 : (k : Int) + 1 < (S.length : Int) := by omega
            have hl4 : (0 : Int) ≤ (k : Int) + 1 := by omega
            obtain ⟨hcn, hfn⟩ := HZ.out.at hzl.symm (k + 1) (by omega)
            have hizn := HU.out.2.1 (k + 1) hl2
            generalize Z.getD (k + 1) 0 = zn at hcn hizn
            clear hzl
            go_wp2_with fail
            apply wp_region_tail (id := 20) 15 (C := fun w' => ∃ q2, w' = wr.drewN q2) (vmap [(8, V32k _), (11, V32k _), (12, V32k _), (13, V32k _)]) ⟨1, rfl⟩ (by kernel_rfl) (by kernel_rfl)
            (refine wpV_go 1 rfl (fun K hK => ?_); go_simp; refine hK.out _ ?_; clear hK K)
            (refine wpV_go 2 rfl (fun K hK => ?_); go_simp; refine hK.out _ ?_; clear hK K)
            (refine wpV_go 3 rfl (fun K hK => ?_); go_simp; refine hK.out _ ?_; clear hK K)
            (refine wpV_go 4 rfl (fun K hK => ?_); go_simp; refine hK.out _ ?_; clear hK K)
            (refine wpV_go 5 rfl (fun K hK => ?_); go_simp; refine hK.out _ ?_; clear hK K)
            (refine wpV_go 6 rfl (fun K hK => ?_); go_simp; refine hK.out _ ?_; clear hK K)
            (refine wpV_go 7 rfl (fun K hK => ?_); go_simp; refine hK.out _ ?_; clear hK K)
            (refine wpV_go 8 rfl (fun K hK => ?_); go_simp; refine hK.out _ ?_; clear hK K)
            (refine wpV_f32 9 rfl (drewC _) _ _ _ _ _ rfl rfl rfl rfl (by decide) (by first | assumption | exact Is32.c (by decide)) (by first | assumption | exact Is32.c (by decide)) rfl ?_; intro z8 hz8)
            (refine wpV_go 10 rfl (fun K hK => ?_); go_simp; refine hK.out _ ?_; clear hK K)
            (refine wpV_go 11 rfl (fun K hK => ?_); go_simp; refine hK.out _ ?_; clear hK K)
            (refine wpV_f32 12 rfl (drewC _) _ _ _ _ _ rfl rfl rfl rfl (by decide) (by first | assumption | exact Is32.c (by decide)) (by first | assumption | exact Is32.c (by decide)) rfl ?_; intro z11 hz11)
            (refine wpV_f32 13 rfl (drewC _) _ _ _ _ _ rfl rfl rfl rfl (by decide) (by first | assumption | exact Is32.c (by decide)) (by first | assumption | exact Is32.c (by decide)) rfl ?_; intro z12 hz12)
            (refine wpV_f32 14 rfl (drewC _) _ _ _ _ _ rfl rfl rfl rfl (by decide) (by first | assumption | exact Is32.c (by decide)) (by first | assumption | exact Is32.c (by decide)) rfl ?_; intro z13 hz13)
            (refine wpV_go 15 rfl (fun K hK => ?_); go_simp; refine hK.out _ ?_; clear hK K)
            refine wpV_nil ?_
            rintro w9 ⟨q9, rfl⟩
            try simp only [List.drop]
            go_wp2_with fail
            go_roundw
            case rel => exact ⟨k + 1, Y.set k z13, by omega, by go_num, Lib.hid (HV.out.next hlt (by unfold newH aftO; rw [if_pos hl2, HWh1.out]; exact hz13)), Lib.hid ((HA.out.drewN _).store Hyl.out.symm _ z13), Lib.hid ((HZ.out.drewN _).setFar (by simp [Value.ownBlock]; exact fun h => Hne.out h.symm) _), Lib.hid ((HBc.out.drewN _).setOther (by have := Hg0.out; show g0 ≠ _; omega) _), Lib.hid ((HBr.out.drewN _).setOther (by have := Hg0.out; show g0 ≠ _; omega) _), Lib.hid ((beld HBk.out _).setCell (by have := Hg0.out; show _ ≤ g0; omega) _), Lib.hid (by simp; exact HMw.out)⟩
            case measure => simp [intOf]; omega
          · have hl3 : ¬ (k : Int) + 1 < (S.length : Int) := by omega
            clear hzl
            go_wp2_with fail
            apply wp_region_tail (id := 20) 15 (C := fun w' => ∃ q2, w' = wr.drewN q2) (vmap [(8, V32k _), (11, V32k _), (12, V32k _), (13, V32k _)]) ⟨1, rfl⟩ (by kernel_rfl) (by kernel_rfl)
            (refine wpV_go 1 rfl (fun K hK => ?_); go_simp; refine hK.out _ ?_; clear hK K)
            (refine wpV_go 2 rfl (fun K hK => ?_); go_simp; refine hK.out _ ?_; clear hK K)
            (refine wpV_go 3 rfl (fun K hK => ?_); go_simp; refine hK.out _ ?_; clear hK K)
            (refine wpV_go 4 rfl (fun K hK => ?_); go_simp; refine hK.out _ ?_; clear hK K)
            (refine wpV_go 5 rfl (fun K hK => ?_); go_simp; refine hK.out _ ?_; clear hK K)
            (refine wpV_go 6 rfl (fun K hK => ?_); go_simp; refine hK.out _ ?_; clear hK K)
            (refine wpV_go 7 rfl (fun K hK => ?_); go_simp; refine hK.out _ ?_; clear hK K)
            (refine wpV_go 8 rfl (fun K hK => ?_); go_simp; refine hK.out _ ?_; clear hK K)
            (refine wpV_f32 9 rfl (drewC _) _ _ _ _ _ rfl rfl rfl rfl (by decide) (by first | assumption | exact Is32.c (by decide)) (by first | assumption | exact Is32.c (by decide)) rfl ?_; intro z8 hz8)
            (refine wpV_go 10 rfl (fun K hK => ?_); go_simp; refine hK.out _ ?_; clear hK K)
            (refine wpV_go 11 rfl (fun K hK => ?_); go_simp; refine hK.out _ ?_; clear hK K)
            (refine wpV_f32 12 rfl (drewC _) _ _ _ _ _ rfl rfl rfl rfl (by decide) (by first | assumption | exact Is32.c (by decide)) (by first | assumption | exact Is32.c (by decide)) rfl ?_; intro z11 hz11)
            (refine wpV_f32 13 rfl (drewC _) _ _ _ _ _ rfl rfl rfl rfl (by decide) (by first | assumption | exact Is32.c (by decide)) (by first | assumption | exact Is32.c (by decide)) rfl ?_; intro z12 hz12)
            (refine wpV_f32 14 rfl (drewC _) _ _ _ _ _ rfl rfl rfl rfl (by decide) (by first | assumption | exact Is32.c (by decide)) (by first | assumption | exact Is32.c (by decide)) rfl ?_; intro z13 hz13)
            (refine wpV_go 15 rfl (fun K hK => ?_); go_simp; refine hK.out _ ?_; clear hK K)
            refine wpV_nil ?_
            rintro w9 ⟨q9, rfl⟩
            try simp only [List.drop]
            go_wp2_with fail
            go_roundw
            case rel => exact ⟨k + 1, Y.set k z13, by omega, by go_num, Lib.hid (HV.out.next hlt (by unfold newH aftO; rw [if_neg hl2, HWh1.out]; exact hz13)), Lib.hid ((HA.out.drewN _).store Hyl.out.symm _ z13), Lib.hid ((HZ.out.drewN _).setFar (by simp [Value.ownBlock]; exact fun h => Hne.out h.symm) _), Lib.hid ((HBc.out.drewN _).setOther (by have := Hg0.out; show g0 ≠ _; omega) _), Lib.hid ((HBr.out.drewN _).setOther (by have := Hg0.out; show g0 ≠ _; omega) _), Lib.hid ((beld HBk.out _).setCell (by have := Hg0.out; show _ ≤ g0; omega) _), Lib.hid (by simp; exact HMw.out)⟩
            case measure => simp [intOf]; omega
        · have hkS : k = S.length := by omega
          subst hkS
          have hyl : Y.length = S.length := HV.out.1
          have hzl : Z.length = S.length := HU.out.1.trans HP1.out
          have hry : RowF .f32 wr (some ⟨g0, 0, none⟩) Y := by have h9 := HA.out; rw [← hyl] at h9; exact (FRow.mk h9).row
          have hrz : RowF .f32 wr (some ⟨g1, 0, none⟩) Z := by have h9 := HZ.out; rw [← hzl] at h9; exact (FRow.mk h9).row
          have hcall := madeCanal_i (some ⟨g0, 0, none⟩) (some ⟨g1, 0, none⟩) k0 k1 Y Z wr gn0 gn1 gn2 hry (by rw [hyl]; exact hl0) (HV.out.lt rfl) hrz (by rw [hzl]; omega) (HU.out.lt HP1.out.symm)
          rw [hyl, hzl] at hcall
          have HCall := Lib.hid hcall
          clear hry hrz hcall
          have hq0 := HBc.out.c 0 rfl
          have hq1 := HBc.out.c 1 rfl
          have hq2 := HBc.out.c 2 rfl
          have hq3 := HBc.out.c 3 rfl
          have hq4 := HBc.out.c 4 rfl
          go_wp2_with fail
          refine HCall.out.mono ?_
          rintro e w3 ⟨rfl, hb⟩
          have HB3 : Hid (Below w.heap.size w w3) := Lib.hid (HBk.out.trans (hb.mono HBk.out.size))
          have bw := HBr.out.below hb HBr.out.1.1
          have q0 := bw.c 0 rfl
          have q1 := bw.c 1 rfl
          have q2 := bw.c 2 rfl
          have q3 := bw.c 3 rfl
          have q4 := bw.c 4 rfl
          have f0 := bw.f 0 (by simp)
          have f1 := bw.f 1 (by simp)
          have f2 := bw.f 2 (by simp)
          have f3 := bw.f 3 (by simp)
          have f4 := bw.f 4 (by simp)
          have hs3 : wr.heap.size ≤ w3.heap.size := hb.size
          have HA3 := Lib.hid (HA.out.below hb (Nat.le_refl _))
          have HZ3 := Lib.hid (HZ.out.below hb (Nat.le_refl _))
          clear hb bw hq0 hq1 hq2 hq3 hq4
          obtain ⟨hcan, ho, h1S⟩ := canal_next (stepB_canal HSB.out) HV.out HU.out
          rw [hcan]
          cases hall : allO (newH N0 N1 N2 S O X T) S.length && allO (newF N0 N1 N2 S O X T) S.length
          · have hv : Q = failCan := by rw [← HQ.out]; unfold tickR; rw [HSB.out, hall]; rfl
            have HV9 := Lib.hid hv
            clear hv hall hcan
            go_wp2_with fail
            rw [HV9.out]
            exact bodyPost_ret (v := .tuple #[.agg #[.float .f32 0, .float .f32 0, .float .f32 0, .slice none 0 0, .slice none 0 0], .bool false]) (by first | (simp [results, Try.results32, go_sem, q0, q1, q2, q3, q4, f0, f1, f2, f3, f4]; done) | (simp (maxDischargeDepth := 12) [results, Try.results32, go_sem, q0, q1, q2, q3, q4, f0, f1, f2, f3, f4]; done) | (simp (maxDischargeDepth := 12) [results, Try.results32, go_sem, q0, q1, q2, q3, q4, f0, f1, f2, f3, f4]; rfl)) rfl (CanI.no (by repeat (first | with_reducible exact HB3.out | with_reducible refine beld ?_ _ | (with_reducible refine Below.alloc ?_ ?_ _; rotate_left; exact (by first | (simp; done) | (simp; omega) | omega)) | (with_reducible refine Below.setCell ?_ ?_ _; rotate_left; exact (by first | (simp; done) | (simp; omega) | omega)))))
          have hv : Q = ⟨N0, N1, N2, wordsO (newH N0 N1 N2 S O X T) S.length, wordsO (newF N0 N1 N2 S O X T) S.length, true⟩ := by rw [← HQ.out]; unfold tickR; rw [HSB.out, hall]; rfl
          rw [Bool.and_eq_true] at hall
          have ey := HV.out.words rfl hall.1
          have ez := HU.out.words ho.symm hall.2
          rw [← ey, ← ez] at hv
          have HV9 := Lib.hid hv
          clear hv hall hcan ey ez
          have Hyl := Lib.hid hyl
          have Hzl := Lib.hid hzl
          clear hyl hzl
          go_wp2_with fail
          rw [HV9.out]
          have WS : ∀ (p q r s t : Value), Below w.heap.size w (((((w3.setCell ⟨w.heap.size + 1, 0, none⟩ p).setCell ⟨w.heap.size + 1, 1, none⟩ q).setCell ⟨w.heap.size + 1, 2, none⟩ r).setCell ⟨w.heap.size + 1, 3, none⟩ s).setCell ⟨w.heap.size + 1, 4, none⟩ t) := fun p q r s t => ((((HB3.out.setCell (Nat.le_succ _) _).setCell (Nat.le_succ _) _).setCell (Nat.le_succ _) _).setCell (Nat.le_succ _) _).setCell (Nat.le_succ _) _
          have hne0 : (.slice (some ⟨g0, 0, none⟩) S.length k0 : Value).ownBlock ≠ some (w.heap.size + 1) := by simp [Value.ownBlock]; have := Hg0.out; omega
          have hne1 : (.slice (some ⟨g1, 0, none⟩) S.length k1 : Value).ownBlock ≠ some (w.heap.size + 1) := by simp [Value.ownBlock]; have := Hg0.out; have := Hgm.out; have := Hg1.out; omega
          have RA : ∀ (p q r s t : Value), RowO (((((w3.setCell ⟨w.heap.size + 1, 0, none⟩ p).setCell ⟨w.heap.size + 1, 1, none⟩ q).setCell ⟨w.heap.size + 1, 2, none⟩ r).setCell ⟨w.heap.size + 1, 3, none⟩ s).setCell ⟨w.heap.size + 1, 4, none⟩ t) w1.heap.size (.slice (some ⟨g0, 0, none⟩) S.length k0) Y := fun p q r s t => (((((HA3.out.setFar hne0 _).setFar hne0 _).setFar hne0 _).setFar hne0 _).setFar hne0 _)
          have RB : ∀ (p q r s t : Value), RowO (((((w3.setCell ⟨w.heap.size + 1, 0, none⟩ p).setCell ⟨w.heap.size + 1, 1, none⟩ q).setCell ⟨w.heap.size + 1, 2, none⟩ r).setCell ⟨w.heap.size + 1, 3, none⟩ s).setCell ⟨w.heap.size + 1, 4, none⟩ t) mid (.slice (some ⟨g1, 0, none⟩) S.length k1) Z := fun p q r s t => (((((HZ3.out.setFar hne1 _).setFar hne1 _).setFar hne1 _).setFar hne1 _).setFar hne1 _)
          have frA : ∀ W : World, RowO W w1.heap.size (.slice (some ⟨g0, 0, none⟩) S.length k0) Y → FRow W w1.heap.size W.heap.size (.slice (some ⟨g0, 0, none⟩) Y.length k0) Y := fun W h => by rw [Hyl.out]; exact h.frow
          have frB : ∀ W : World, RowO W mid (.slice (some ⟨g1, 0, none⟩) S.length k1) Z → FRow W mid W.heap.size (.slice (some ⟨g1, 0, none⟩) Z.length k1) Z := fun W h => by rw [Hzl.out]; exact h.frow
          refine bodyPost_ret (v := .tuple #[.agg #[.float .f32 n0, .float .f32 n1, .float .f32 n2, .slice (some ⟨g0, 0, none⟩) S.length k0, .slice (some ⟨g1, 0, none⟩) S.length k1], .bool true]) (by first | (simp [results, Try.results32, go_sem, q0, q1, q2, q3, q4, f0, f1, f2, f3, f4]; done) | (simp (maxDischargeDepth := 12) [results, Try.results32, go_sem, q0, q1, q2, q3, q4, f0, f1, f2, f3, f4]; done) | (simp (maxDischargeDepth := 12) [results, Try.results32, go_sem, q0, q1, q2, q3, q4, f0, f1, f2, f3, f4]; rfl)) rfl ?_
          have hmw9 := HMw.out
          have hg09 := Hg0.out
          have hgm9 := Hgm.out
          refine ⟨n0, n1, n2, some ⟨g0, 0, none⟩, k0, some ⟨g1, 0, none⟩, k1, w1.heap.size, mid, _, by simp only [Hyl.out, Hzl.out], ⟨gn0, gn1, gn2⟩, ?_, ?_, by have := HS1.out; omega, ?_, ?_, Nat.le_refl _, by show Y.length ≤ _; rw [Hyl.out]; exact hl0, by show Z.length ≤ _; rw [Hzl.out]; exact hl0, WS _ _ _ _ _⟩
          · refine ⟨(frA _ (RA _ _ _ _ _)).1, fun k hk => ?_, by simp; omega⟩
            simp only [Value.ownBlock, Option.some.injEq] at hk
            omega
          · exact frB _ (RB _ _ _ _ _)
          · have h9 := (HA3.out.lo g0 rfl).1; omega
          · simp; omega

end Go.Proofs.Ytgnkpppbhibfoaa
