/- The walk of the law on StepCanal. -/
import Derived.Test.YtgnkpppbhibfoaaStepCI
import Derived.Test.YtgnkpppbhibfoaaTickR
import Derived.Test.YtgnkpppbhibfoaaCanalH
import Derived.Test.YtgnkpppbhibfoaaRegionI
namespace Go.Proofs.Ytgnkpppbhibfoaa
open Go.RowKit
set_option linter.unusedVariables false
set_option linter.unusedSimpArgs false
set_option maxRecDepth 100000
attribute [local irreducible] wpV wpList Code.wp

structure stepCanalInvS (w0 : World) (t0_ t1_ t2_ t3_ t4_ t5_ t6_ t7_ t8_ t9_ t10_ t11_ t12_ t13_ t14_ t15_ t16_ t17_ t18_ t19_ t20_ t21_ t22_ t23_ t24_ t25_ t26_ t27_ t28_ t29_ t30_ t31_ t32_ t33_ t34_ t35_ t36_ t37_ t38_ t39_ t40_ t41_ t42_ t43_ t44_ t45_ t46_ t47_ t48_ t54_ t55_ t56_ t57_ t58_ t59_ t60_ t61_ t62_ t63_ t64_ t65_ t66_ t67_ t68_ t69_ t70_ t71_ t72_ t73_ t74_ t75_ t76_ t77_ t78_ t79_ t80_ t81_ t82_ t83_ t84_ t85_ t86_ t87_ t88_ t89_ t90_ t91_ t92_ t93_ t94_ t95_ t96_ t97_ t98_ t99_ t100_ t101_ t102_ t103_ t104_ t105_ : Value) (n0 n1 n2 : Nat) (x0 x1 a0 a1 : Option Addr) (d0 d1 c0 c1 : Nat) (zs0 zs1 : List Nat) (d : Array Bool) (a : Act) (w : World) where
  u49 : Value
  u50 : Value
  u51 : Value
  u52 : Value
  u53 : Value
  ea : a = ⟨#[t0_, t1_, t2_, t3_, t4_, t5_, t6_, t7_, t8_, t9_, t10_, t11_, t12_, t13_, t14_, t15_, t16_, t17_, t18_, t19_, t20_, t21_, t22_, t23_, t24_, t25_, t26_, t27_, t28_, t29_, t30_, t31_, t32_, t33_, t34_, t35_, t36_, t37_, t38_, t39_, t40_, t41_, t42_, t43_, t44_, t45_, t46_, t47_, t48_, u49, u50, u51, u52, u53, t54_, t55_, t56_, t57_, t58_, t59_, t60_, t61_, t62_, t63_, t64_, t65_, t66_, t67_, t68_, t69_, t70_, t71_, t72_, t73_, t74_, t75_, t76_, t77_, t78_, t79_, t80_, t81_, t82_, t83_, t84_, t85_, t86_, t87_, t88_, t89_, t90_, t91_, t92_, t93_, t94_, t95_, t96_, t97_, t98_, t99_, t100_, t101_, t102_, t103_, t104_, t105_], []⟩
  f0 : Gd d 0 (u49 = .agg #[.float .f32 n0, .float .f32 n1, .float .f32 n2, .slice x0 zs0.length d0, .slice x1 zs1.length d1])
  f1 : Gd d 1 (u50 = .agg #[.float .f32 n0, .float .f32 n1, .float .f32 n2, .slice a0 zs0.length c0, .slice a1 zs1.length c1])
  f2 : Gd d 2 (∃ e0 e1 k0 k1, u51 = .agg #[.float .f32 n0, .float .f32 n1, .float .f32 n2, .slice e0 zs0.length k0, .slice e1 zs1.length k1] ∧ RowF .f32 w e0 zs0 ∧ RowF .f32 w e1 zs1)
  f3 : Gd d 3 (u52 = .bool true)
  f4 : Gd d 4 (u53 = .bool false)
  hbel : Below w0.heap.size w0 w
def stepCanalInv (w0 : World) (t0_ t1_ t2_ t3_ t4_ t5_ t6_ t7_ t8_ t9_ t10_ t11_ t12_ t13_ t14_ t15_ t16_ t17_ t18_ t19_ t20_ t21_ t22_ t23_ t24_ t25_ t26_ t27_ t28_ t29_ t30_ t31_ t32_ t33_ t34_ t35_ t36_ t37_ t38_ t39_ t40_ t41_ t42_ t43_ t44_ t45_ t46_ t47_ t48_ t54_ t55_ t56_ t57_ t58_ t59_ t60_ t61_ t62_ t63_ t64_ t65_ t66_ t67_ t68_ t69_ t70_ t71_ t72_ t73_ t74_ t75_ t76_ t77_ t78_ t79_ t80_ t81_ t82_ t83_ t84_ t85_ t86_ t87_ t88_ t89_ t90_ t91_ t92_ t93_ t94_ t95_ t96_ t97_ t98_ t99_ t100_ t101_ t102_ t103_ t104_ t105_ : Value) (n0 n1 n2 : Nat) (x0 x1 a0 a1 : Option Addr) (d0 d1 c0 c1 : Nat) (zs0 zs1 : List Nat) (d : Array Bool) (a : Act) (w : World) : Prop := Nonempty (stepCanalInvS w0 t0_ t1_ t2_ t3_ t4_ t5_ t6_ t7_ t8_ t9_ t10_ t11_ t12_ t13_ t14_ t15_ t16_ t17_ t18_ t19_ t20_ t21_ t22_ t23_ t24_ t25_ t26_ t27_ t28_ t29_ t30_ t31_ t32_ t33_ t34_ t35_ t36_ t37_ t38_ t39_ t40_ t41_ t42_ t43_ t44_ t45_ t46_ t47_ t48_ t54_ t55_ t56_ t57_ t58_ t59_ t60_ t61_ t62_ t63_ t64_ t65_ t66_ t67_ t68_ t69_ t70_ t71_ t72_ t73_ t74_ t75_ t76_ t77_ t78_ t79_ t80_ t81_ t82_ t83_ t84_ t85_ t86_ t87_ t88_ t89_ t90_ t91_ t92_ t93_ t94_ t95_ t96_ t97_ t98_ t99_ t100_ t101_ t102_ t103_ t104_ t105_ n0 n1 n2 x0 x1 a0 a1 d0 d1 c0 c1 zs0 zs1 d a w)

theorem stepCanal_gs {n j : Nat} {p : Prop} : Gd (Array.replicate n false) j p := fun h => by rw [getD_replicate_false] at h; cases h
theorem stepCanal_ng {l : Array Bool} {j : Nat} {p : Prop} (h : p) : Ng l j p := fun _ => h
theorem stepCanal_gu {l : Array Bool} {i j : Nat} {p : Prop} (h : l.getD j false = false) (hne : i ≠ j) : Gd (l.setIfInBounds i true) j p := fun h9 => by rw [set_ne hne, h] at h9; cases h9
theorem stepCanal_sc {P : Program} {l : List Oper} {Inv : Array Bool → Act → World → Prop} {k : Nat} {o : Oper} {rest : List Oper} (j : Nat) (hj : k + 1 = j)
    (h : ∀ d a w, d.size = l.length → Closed l d → Inv d a w → d.getD k false = false → Deps d o.after.toList → wpList P l.toArray (QI fun a' w' => Inv (d.setIfInBounds k true) a' w') [o] a w) (hr : StepAll P l Inv j rest) : StepAll P l Inv k (o :: rest) := by
  subst hj; exact ⟨h, hr⟩

set_option maxHeartbeats 16000000 in
theorem stepCanalLaw_fits (n0 n1 n2 : Nat) (a0 a1 : Option Addr) (c0 c1 : Nat) (zs0 zs1 : List Nat) (x t : Nat) (w : World) (hn0 : n0 < 4294967296) (hn1 : n1 < 4294967296) (hn2 : n2 < 4294967296) (hr0 : RowF .f32 w a0 zs0) (hz0 : ∀ z ∈ zs0, z < 4294967296) (hr1 : RowF .f32 w a1 zs1) (hz1 : ∀ z ∈ zs1, z < 4294967296) (hx : x < 4294967296) (ht : t < 4294967296) (hsum : zs0.length + zs1.length ≤ 1048576) :
    Calls Try.prog 6 #[.agg #[.float .f32 n0, .float .f32 n1, .float .f32 n2, .slice a0 zs0.length c0, .slice a1 zs1.length c1], .float .f32 x, .float .f32 t] w fun e w' => e = .returned (.bool true) ∧ Below w.heap.size w w' := by
  have hl0 : zs0.length ≤ 1048576 := by omega
  have hl1 : zs1.length ≤ 1048576 := by omega
  obtain ⟨⟨N0, N1, N2, Z0, Z1, B⟩, hR⟩ : ∃ R, tickR (some n0) (some n1) (some n2) zs0 zs1 (some x) (some t) = R := ⟨_, rfl⟩
  have cS : ∀ (a0 a1 : Option Addr) (c0 c1 : Nat) (W : World), RowF .f32 W a0 zs0 → RowF .f32 W a1 zs1 → Calls Try.prog 30 #[.agg #[.float .f32 n0, .float .f32 n1, .float .f32 n2, .slice a0 zs0.length c0, .slice a1 zs1.length c1], .float .f32 x, .float .f32 t] W (CanS ⟨N0, N1, N2, Z0, Z1, B⟩ W) := by
    intro a0 a1 c0 c1 W h0' h1'
    refine (stepCanal_s a0 a1 c0 c1 zs0 zs1 W (Is32.c hx) (Is32.c ht) (Is32.c hn0) (Is32.c hn1) (Is32.c hn2) h0' hl0 hz0 h1' hl1 hz1).mono fun e w' h9 => ?_
    have h8 := h9.canS (Is32.c hn0) (Is32.c hn1) (Is32.c hn2) hl0
    rw [hR] at h8
    exact h8
  have cI : ∀ (a0 a1 : Option Addr) (c0 c1 : Nat) (W : World), RowF .f32 W a0 zs0 → RowF .f32 W a1 zs1 → Calls Try.prog 32 #[.agg #[.float .f32 n0, .float .f32 n1, .float .f32 n2, .slice a0 zs0.length c0, .slice a1 zs1.length c1], .float .f32 x, .float .f32 t] W (CanI ⟨N0, N1, N2, Z0, Z1, B⟩ W) := by
    intro a0 a1 c0 c1 W h0' h1'
    have h9 := stepCanal_i a0 a1 c0 c1 zs0 zs1 W (Is32.c hx) (Is32.c ht) (Is32.c hn0) (Is32.c hn1) (Is32.c hn2) h0' hl0 hz0 h1' hl1 hz1
    rw [hR] at h9
    exact h9
  have HS := Lib.hid cS
  have HI := Lib.hid cI
  have H0_ := Lib.hid hr0
  have H1_ := Lib.hid hr1
  clear cS cI hR hr0 hr1 hz0 hz1
  have hszf : ¬ (1048576 : Int) - (zs0.length : Int) - (zs1.length : Int) < 0 := by omega
  cases B
  all_goals
    have BB_0 : Hid (Below w.heap.size w w) := Lib.hid (Below.refl w.heap.size w)
    have H0 : Hid (RowF .f32 w a0 zs0) := Lib.hid (H0_.out)
    have H1 : Hid (RowF .f32 w a1 zs1) := Lib.hid (H1_.out)
    have BB_1 : Hid (Below w.heap.size w (w.alloc (.cells #[.float .f32 n0, .float .f32 n1, .float .f32 n2, .slice a0 zs0.length c0, .slice a1 zs1.length c1] 42))) := Lib.hid (BB_0.out.alloc BB_0.out.size _)
    clear BB_0
    have HA_0 : Hid (Bx (w.alloc (.cells #[.float .f32 n0, .float .f32 n1, .float .f32 n2, .slice a0 zs0.length c0, .slice a1 zs1.length c1] 42)) (w.heap.size) [.float .f32 n0, .float .f32 n1, .float .f32 n2, .slice a0 zs0.length c0, .slice a1 zs1.length c1]) := Lib.hid (Bx.new w [.float .f32 n0, .float .f32 n1, .float .f32 n2, .slice a0 zs0.length c0, .slice a1 zs1.length c1] 42)
    go_enter Try.func6, Try.ntmps6
    have cHA0 := HA_0.out.c 0 rfl
    have cHA1 := HA_0.out.c 1 rfl
    have cHA2 := HA_0.out.c 2 rfl
    have cHA3 := HA_0.out.c 3 rfl
    have cHA4 := HA_0.out.c 4 rfl
    go_wp2_with fail
    refine (szCanal_fits n0 n1 n2 a0 a1 zs0.length zs1.length c0 c1 _ (by omega) (by omega) _).mono ?_
    rintro e w1 ⟨rfl, hb⟩
    clear cHA0 cHA1 cHA2 cHA3 cHA4
    have z1 : w.heap.size + 1 ≤ w1.heap.size := (by have := hb.size; (try simp at this); omega)
    have BB_2 : Hid (Below w.heap.size w w1) := Lib.hid (BB_1.out.trans (hb.mono BB_1.out.size))
    clear BB_1
    have HA_1 : Hid (Bx w1 (w.heap.size) [.float .f32 n0, .float .f32 n1, .float .f32 n2, .slice a0 zs0.length c0, .slice a1 zs1.length c1]) := Lib.hid (HA_0.out.below hb HA_0.out.1)
    clear HA_0
    clear hb
    have cHA0 := HA_1.out.c 0 rfl
    have cHA1 := HA_1.out.c 1 rfl
    have cHA2 := HA_1.out.c 2 rfl
    have cHA3 := HA_1.out.c 3 rfl
    have cHA4 := HA_1.out.c 4 rfl
    go_wp2_with fail
    refine (toCanal_any n0 n1 n2 a0 a1 c0 c1 zs0 zs1 _ (H0.out.below BB_2.out (Nat.le_refl _)) hl0 (H1.out.below BB_2.out (Nat.le_refl _)) hl1).mono ?_
    rintro e w2 ⟨e0, k0, e1, k1, mid, rfl, hb, hf0, hf1, hm1, hm2⟩
    clear cHA0 cHA1 cHA2 cHA3 cHA4
    have z2 : w1.heap.size + 0 ≤ w2.heap.size := (by have := hb.size; (try simp at this); omega)
    have BB_3 : Hid (Below w.heap.size w w2) := Lib.hid (BB_2.out.trans (hb.mono BB_2.out.size))
    clear BB_2
    have HA_2 : Hid (Bx w2 (w.heap.size) [.float .f32 n0, .float .f32 n1, .float .f32 n2, .slice a0 zs0.length c0, .slice a1 zs1.length c1]) := Lib.hid (HA_1.out.below hb HA_1.out.1)
    clear HA_1
    have HE0 := Lib.hid hf0.row
    have HE1 := Lib.hid hf1.row
    clear hf0 hf1 hm1 hm2
    clear hb
    have cHA0 := HA_2.out.c 0 rfl
    have cHA1 := HA_2.out.c 1 rfl
    have cHA2 := HA_2.out.c 2 rfl
    have cHA3 := HA_2.out.c 3 rfl
    have cHA4 := HA_2.out.c 4 rfl
    go_wp2_with fail
    refine (HS.out e0 e1 k0 k1 _ HE0.out HE1.out).mono ?_
    rintro e w3 ⟨s0, s1, s2, sa, sc, sb, sd, rfl, ⟨si0, si1, si2⟩, sr0, sr1, sl0, sl1, hb⟩
    clear cHA0 cHA1 cHA2 cHA3 cHA4
    have z3 : w2.heap.size + 0 ≤ w3.heap.size := (by have := hb.size; (try simp at this); omega)
    have BB_4 : Hid (Below w.heap.size w w3) := Lib.hid (BB_3.out.trans (hb.mono BB_3.out.size))
    clear BB_3
    have HA_3 : Hid (Bx w3 (w.heap.size) [.float .f32 n0, .float .f32 n1, .float .f32 n2, .slice a0 zs0.length c0, .slice a1 zs1.length c1]) := Lib.hid (HA_2.out.below hb HA_2.out.1)
    clear HA_2
    simp only at si0 si1 si2 sr0 sr1 sl0 sl1 ⊢
    clear HE0 HE1
    clear hb
    have B3_0 : Hid (Below w3.heap.size w3 w3) := Lib.hid (Below.refl w3.heap.size w3)
    have RS0 : Hid (RowF .f32 w3 sa Z0) := Lib.hid (sr0)
    have RS1 : Hid (RowF .f32 w3 sb Z1) := Lib.hid (sr1)
    clear sr0 sr1
    have BB_5 : Hid (Below w.heap.size w (w3.alloc (.cells #[.float .f32 s0, .float .f32 s1, .float .f32 s2, .slice sa Z0.length sc, .slice sb Z1.length sd] 36))) := Lib.hid (BB_4.out.alloc BB_4.out.size _)
    clear BB_4
    have HA_4 : Hid (Bx (w3.alloc (.cells #[.float .f32 s0, .float .f32 s1, .float .f32 s2, .slice sa Z0.length sc, .slice sb Z1.length sd] 36)) (w.heap.size) [.float .f32 n0, .float .f32 n1, .float .f32 n2, .slice a0 zs0.length c0, .slice a1 zs1.length c1]) := Lib.hid (HA_3.out.alloc _)
    clear HA_3
    have B3_1 : Hid (Below w3.heap.size w3 (w3.alloc (.cells #[.float .f32 s0, .float .f32 s1, .float .f32 s2, .slice sa Z0.length sc, .slice sb Z1.length sd] 36))) := Lib.hid (B3_0.out.alloc B3_0.out.size _)
    clear B3_0
    have BS_0 : Hid (Bx (w3.alloc (.cells #[.float .f32 s0, .float .f32 s1, .float .f32 s2, .slice sa Z0.length sc, .slice sb Z1.length sd] 36)) (w3.heap.size) [.float .f32 s0, .float .f32 s1, .float .f32 s2, .slice sa Z0.length sc, .slice sb Z1.length sd]) := Lib.hid (Bx.new w3 [.float .f32 s0, .float .f32 s1, .float .f32 s2, .slice sa Z0.length sc, .slice sb Z1.length sd] 36)
    have cHA0 := HA_4.out.c 0 rfl
    have cHA1 := HA_4.out.c 1 rfl
    have cHA2 := HA_4.out.c 2 rfl
    have cHA3 := HA_4.out.c 3 rfl
    have cHA4 := HA_4.out.c 4 rfl
    have cBS0 := BS_0.out.c 0 rfl
    have cBS1 := BS_0.out.c 1 rfl
    have cBS2 := BS_0.out.c 2 rfl
    have cBS3 := BS_0.out.c 3 rfl
    have cBS4 := BS_0.out.c 4 rfl
    go_wp2_with fail
    refine (toCanal_any n0 n1 n2 a0 a1 c0 c1 zs0 zs1 _ (H0.out.below BB_5.out (Nat.le_refl _)) hl0 (H1.out.below BB_5.out (Nat.le_refl _)) hl1).mono ?_
    rintro e w4 ⟨x0, d0, x1, d1, midx, rfl, hb, hf0, hf1, hm1, hm2⟩
    clear cHA0 cHA1 cHA2 cHA3 cHA4 cBS0 cBS1 cBS2 cBS3 cBS4
    have z4 : w3.heap.size + 1 ≤ w4.heap.size := (by have := hb.size; (try simp at this); omega)
    have BB_6 : Hid (Below w.heap.size w w4) := Lib.hid (BB_5.out.trans (hb.mono BB_5.out.size))
    clear BB_5
    have HA_5 : Hid (Bx w4 (w.heap.size) [.float .f32 n0, .float .f32 n1, .float .f32 n2, .slice a0 zs0.length c0, .slice a1 zs1.length c1]) := Lib.hid (HA_4.out.below hb HA_4.out.1)
    clear HA_4
    have B3_2 : Hid (Below w3.heap.size w3 w4) := Lib.hid (B3_1.out.trans (hb.mono B3_1.out.size))
    clear B3_1
    have BS_1 : Hid (Bx w4 (w3.heap.size) [.float .f32 s0, .float .f32 s1, .float .f32 s2, .slice sa Z0.length sc, .slice sb Z1.length sd]) := Lib.hid (BS_0.out.below hb BS_0.out.1)
    clear BS_0
    have hx1 : w3.heap.size + 1 ≤ midx := (by have := hm1; (try simp at this); omega)
    have hx2 : midx ≤ w4.heap.size := hm2
    clear hb
    have FX0_0 : Hid (FRow w4 (w3.heap.size + 1) (midx) (.slice x0 zs0.length d0) zs0) := Lib.hid (hf0.mono (lo' := w3.heap.size + 1) (by first | (simp; done) | (simp; omega) | omega) (Nat.le_refl _) hf0.2.2)
    have FX1_0 : Hid (FRow w4 (midx) (w4.heap.size) (.slice x1 zs1.length d1) zs1) := Lib.hid (hf1)
    clear hf0 hf1 hm1 hm2
    have BB_7 : Hid (Below w.heap.size w (w4.alloc (.cells #[.float .f32 n0, .float .f32 n1, .float .f32 n2, .slice x0 zs0.length d0, .slice x1 zs1.length d1] 36))) := Lib.hid (BB_6.out.alloc BB_6.out.size _)
    clear BB_6
    have HA_6 : Hid (Bx (w4.alloc (.cells #[.float .f32 n0, .float .f32 n1, .float .f32 n2, .slice x0 zs0.length d0, .slice x1 zs1.length d1] 36)) (w.heap.size) [.float .f32 n0, .float .f32 n1, .float .f32 n2, .slice a0 zs0.length c0, .slice a1 zs1.length c1]) := Lib.hid (HA_5.out.alloc _)
    clear HA_5
    have B3_3 : Hid (Below w3.heap.size w3 (w4.alloc (.cells #[.float .f32 n0, .float .f32 n1, .float .f32 n2, .slice x0 zs0.length d0, .slice x1 zs1.length d1] 36))) := Lib.hid (B3_2.out.alloc B3_2.out.size _)
    clear B3_2
    have BS_2 : Hid (Bx (w4.alloc (.cells #[.float .f32 n0, .float .f32 n1, .float .f32 n2, .slice x0 zs0.length d0, .slice x1 zs1.length d1] 36)) (w3.heap.size) [.float .f32 s0, .float .f32 s1, .float .f32 s2, .slice sa Z0.length sc, .slice sb Z1.length sd]) := Lib.hid (BS_1.out.alloc _)
    clear BS_1
    have FX0_1 : Hid (FRow (w4.alloc (.cells #[.float .f32 n0, .float .f32 n1, .float .f32 n2, .slice x0 zs0.length d0, .slice x1 zs1.length d1] 36)) (w3.heap.size + 1) (midx) (.slice x0 zs0.length d0) zs0) := Lib.hid (FX0_0.out.alloc _)
    clear FX0_0
    have FX1_1 : Hid (FRow (w4.alloc (.cells #[.float .f32 n0, .float .f32 n1, .float .f32 n2, .slice x0 zs0.length d0, .slice x1 zs1.length d1] 36)) (midx) (w4.heap.size) (.slice x1 zs1.length d1) zs1) := Lib.hid (FX1_0.out.alloc _)
    clear FX1_0
    have BX_0 : Hid (Bx (w4.alloc (.cells #[.float .f32 n0, .float .f32 n1, .float .f32 n2, .slice x0 zs0.length d0, .slice x1 zs1.length d1] 36)) (w4.heap.size) [.float .f32 n0, .float .f32 n1, .float .f32 n2, .slice x0 zs0.length d0, .slice x1 zs1.length d1]) := Lib.hid (Bx.new w4 [.float .f32 n0, .float .f32 n1, .float .f32 n2, .slice x0 zs0.length d0, .slice x1 zs1.length d1] 36)
    have cHA0 := HA_6.out.c 0 rfl
    have cHA1 := HA_6.out.c 1 rfl
    have cHA2 := HA_6.out.c 2 rfl
    have cHA3 := HA_6.out.c 3 rfl
    have cHA4 := HA_6.out.c 4 rfl
    have cBS0 := BS_2.out.c 0 rfl
    have cBS1 := BS_2.out.c 1 rfl
    have cBS2 := BS_2.out.c 2 rfl
    have cBS3 := BS_2.out.c 3 rfl
    have cBS4 := BS_2.out.c 4 rfl
    have cBX0 := BX_0.out.c 0 rfl
    have cBX1 := BX_0.out.c 1 rfl
    have cBX2 := BX_0.out.c 2 rfl
    have cBX3 := BX_0.out.c 3 rfl
    have cBX4 := BX_0.out.c 4 rfl
    go_wp2_with fail
    refine (HI.out x0 x1 d0 d1 _ FX0_1.out.row FX1_1.out.row).mono ?_
    rintro e w5 ⟨t0, t1, t2, ta, tc, tb, td, lo, mid, hi, rfl, ⟨ti0, ti1, ti2⟩, fr0, fr1, hlo, hlm, hmh, hhi, tl0, tl1, hb⟩
    clear cHA0 cHA1 cHA2 cHA3 cHA4 cBS0 cBS1 cBS2 cBS3 cBS4 cBX0 cBX1 cBX2 cBX3 cBX4
    have z5 : w4.heap.size + 1 ≤ w5.heap.size := (by have := hb.size; (try simp at this); omega)
    have BB_8 : Hid (Below w.heap.size w w5) := Lib.hid (BB_7.out.trans (hb.mono BB_7.out.size))
    clear BB_7
    have HA_7 : Hid (Bx w5 (w.heap.size) [.float .f32 n0, .float .f32 n1, .float .f32 n2, .slice a0 zs0.length c0, .slice a1 zs1.length c1]) := Lib.hid (HA_6.out.below hb HA_6.out.1)
    clear HA_6
    have B3_4 : Hid (Below w3.heap.size w3 w5) := Lib.hid (B3_3.out.trans (hb.mono B3_3.out.size))
    clear B3_3
    have BS_3 : Hid (Bx w5 (w3.heap.size) [.float .f32 s0, .float .f32 s1, .float .f32 s2, .slice sa Z0.length sc, .slice sb Z1.length sd]) := Lib.hid (BS_2.out.below hb BS_2.out.1)
    clear BS_2
    have FX0_2 : Hid (FRow w5 (w3.heap.size + 1) (midx) (.slice x0 zs0.length d0) zs0) := Lib.hid (FX0_1.out.below hb FX0_1.out.2.2)
    clear FX0_1
    have FX1_2 : Hid (FRow w5 (midx) (w4.heap.size) (.slice x1 zs1.length d1) zs1) := Lib.hid (FX1_1.out.below hb FX1_1.out.2.2)
    clear FX1_1
    have BX_1 : Hid (Bx w5 (w4.heap.size) [.float .f32 n0, .float .f32 n1, .float .f32 n2, .slice x0 zs0.length d0, .slice x1 zs1.length d1]) := Lib.hid (BX_0.out.below hb BX_0.out.1)
    clear BX_0
    simp only at ti0 ti1 ti2 fr0 fr1 tl0 tl1 ⊢
    have hlo1 : w4.heap.size + 1 ≤ lo := (by have := hlo; (try simp at this); omega)
    clear hlo
    clear hb
    have FG0_0 : Hid (FRow w5 (lo) (mid) (.slice ta Z0.length tc) Z0) := Lib.hid (fr0)
    have FG1_0 : Hid (FRow w5 (mid) (hi) (.slice tb Z1.length td) Z1) := Lib.hid (fr1)
    clear fr0 fr1
    have BB_9 : Hid (Below w.heap.size w (w5.alloc (.cells #[.float .f32 t0, .float .f32 t1, .float .f32 t2, .slice ta Z0.length tc, .slice tb Z1.length td] 36))) := Lib.hid (BB_8.out.alloc BB_8.out.size _)
    clear BB_8
    have HA_8 : Hid (Bx (w5.alloc (.cells #[.float .f32 t0, .float .f32 t1, .float .f32 t2, .slice ta Z0.length tc, .slice tb Z1.length td] 36)) (w.heap.size) [.float .f32 n0, .float .f32 n1, .float .f32 n2, .slice a0 zs0.length c0, .slice a1 zs1.length c1]) := Lib.hid (HA_7.out.alloc _)
    clear HA_7
    have B3_5 : Hid (Below w3.heap.size w3 (w5.alloc (.cells #[.float .f32 t0, .float .f32 t1, .float .f32 t2, .slice ta Z0.length tc, .slice tb Z1.length td] 36))) := Lib.hid (B3_4.out.alloc B3_4.out.size _)
    clear B3_4
    have BS_4 : Hid (Bx (w5.alloc (.cells #[.float .f32 t0, .float .f32 t1, .float .f32 t2, .slice ta Z0.length tc, .slice tb Z1.length td] 36)) (w3.heap.size) [.float .f32 s0, .float .f32 s1, .float .f32 s2, .slice sa Z0.length sc, .slice sb Z1.length sd]) := Lib.hid (BS_3.out.alloc _)
    clear BS_3
    have FX0_3 : Hid (FRow (w5.alloc (.cells #[.float .f32 t0, .float .f32 t1, .float .f32 t2, .slice ta Z0.length tc, .slice tb Z1.length td] 36)) (w3.heap.size + 1) (midx) (.slice x0 zs0.length d0) zs0) := Lib.hid (FX0_2.out.alloc _)
    clear FX0_2
    have FX1_3 : Hid (FRow (w5.alloc (.cells #[.float .f32 t0, .float .f32 t1, .float .f32 t2, .slice ta Z0.length tc, .slice tb Z1.length td] 36)) (midx) (w4.heap.size) (.slice x1 zs1.length d1) zs1) := Lib.hid (FX1_2.out.alloc _)
    clear FX1_2
    have BX_2 : Hid (Bx (w5.alloc (.cells #[.float .f32 t0, .float .f32 t1, .float .f32 t2, .slice ta Z0.length tc, .slice tb Z1.length td] 36)) (w4.heap.size) [.float .f32 n0, .float .f32 n1, .float .f32 n2, .slice x0 zs0.length d0, .slice x1 zs1.length d1]) := Lib.hid (BX_1.out.alloc _)
    clear BX_1
    have FG0_1 : Hid (FRow (w5.alloc (.cells #[.float .f32 t0, .float .f32 t1, .float .f32 t2, .slice ta Z0.length tc, .slice tb Z1.length td] 36)) (lo) (mid) (.slice ta Z0.length tc) Z0) := Lib.hid (FG0_0.out.alloc _)
    clear FG0_0
    have FG1_1 : Hid (FRow (w5.alloc (.cells #[.float .f32 t0, .float .f32 t1, .float .f32 t2, .slice ta Z0.length tc, .slice tb Z1.length td] 36)) (mid) (hi) (.slice tb Z1.length td) Z1) := Lib.hid (FG1_0.out.alloc _)
    clear FG1_0
    have BG_0 : Hid (Bx (w5.alloc (.cells #[.float .f32 t0, .float .f32 t1, .float .f32 t2, .slice ta Z0.length tc, .slice tb Z1.length td] 36)) (w5.heap.size) [.float .f32 t0, .float .f32 t1, .float .f32 t2, .slice ta Z0.length tc, .slice tb Z1.length td]) := Lib.hid (Bx.new w5 [.float .f32 t0, .float .f32 t1, .float .f32 t2, .slice ta Z0.length tc, .slice tb Z1.length td] 36)
    have cHA0 := HA_8.out.c 0 rfl
    have cHA1 := HA_8.out.c 1 rfl
    have cHA2 := HA_8.out.c 2 rfl
    have cHA3 := HA_8.out.c 3 rfl
    have cHA4 := HA_8.out.c 4 rfl
    have cBS0 := BS_4.out.c 0 rfl
    have cBS1 := BS_4.out.c 1 rfl
    have cBS2 := BS_4.out.c 2 rfl
    have cBS3 := BS_4.out.c 3 rfl
    have cBS4 := BS_4.out.c 4 rfl
    have cBX0 := BX_2.out.c 0 rfl
    have cBX1 := BX_2.out.c 1 rfl
    have cBX2 := BX_2.out.c 2 rfl
    have cBX3 := BX_2.out.c 3 rfl
    have cBX4 := BX_2.out.c 4 rfl
    have cBG0 := BG_0.out.c 0 rfl
    have cBG1 := BG_0.out.c 1 rfl
    have cBG2 := BG_0.out.c 2 rfl
    have cBG3 := BG_0.out.c 3 rfl
    have cBG4 := BG_0.out.c 4 rfl
    go_wp2_with fail
    refine (eqCanal_any ta tb sa sb tc td sc sd Z0 Z1 _ ti0 si0 ti1 si1 ti2 si2 FG0_1.out.row (RS0.out.below B3_5.out (Nat.le_refl _)) tl0 FG1_1.out.row (RS1.out.below B3_5.out (Nat.le_refl _)) tl1).mono ?_
    rintro e w6 ⟨rfl, hb⟩
    clear cHA0 cHA1 cHA2 cHA3 cHA4 cBS0 cBS1 cBS2 cBS3 cBS4 cBX0 cBX1 cBX2 cBX3 cBX4 cBG0 cBG1 cBG2 cBG3 cBG4
    have z6 : w5.heap.size + 1 ≤ w6.heap.size := (by have := hb.size; (try simp at this); omega)
    have BB_10 : Hid (Below w.heap.size w w6) := Lib.hid (BB_9.out.trans (hb.mono BB_9.out.size))
    clear BB_9
    have HA_9 : Hid (Bx w6 (w.heap.size) [.float .f32 n0, .float .f32 n1, .float .f32 n2, .slice a0 zs0.length c0, .slice a1 zs1.length c1]) := Lib.hid (HA_8.out.below hb HA_8.out.1)
    clear HA_8
    have B3_6 : Hid (Below w3.heap.size w3 w6) := Lib.hid (B3_5.out.trans (hb.mono B3_5.out.size))
    clear B3_5
    have BS_5 : Hid (Bx w6 (w3.heap.size) [.float .f32 s0, .float .f32 s1, .float .f32 s2, .slice sa Z0.length sc, .slice sb Z1.length sd]) := Lib.hid (BS_4.out.below hb BS_4.out.1)
    clear BS_4
    have FX0_4 : Hid (FRow w6 (w3.heap.size + 1) (midx) (.slice x0 zs0.length d0) zs0) := Lib.hid (FX0_3.out.below hb FX0_3.out.2.2)
    clear FX0_3
    have FX1_4 : Hid (FRow w6 (midx) (w4.heap.size) (.slice x1 zs1.length d1) zs1) := Lib.hid (FX1_3.out.below hb FX1_3.out.2.2)
    clear FX1_3
    have BX_3 : Hid (Bx w6 (w4.heap.size) [.float .f32 n0, .float .f32 n1, .float .f32 n2, .slice x0 zs0.length d0, .slice x1 zs1.length d1]) := Lib.hid (BX_2.out.below hb BX_2.out.1)
    clear BX_2
    have FG0_2 : Hid (FRow w6 (lo) (mid) (.slice ta Z0.length tc) Z0) := Lib.hid (FG0_1.out.below hb FG0_1.out.2.2)
    clear FG0_1
    have FG1_2 : Hid (FRow w6 (mid) (hi) (.slice tb Z1.length td) Z1) := Lib.hid (FG1_1.out.below hb FG1_1.out.2.2)
    clear FG1_1
    have BG_1 : Hid (Bx w6 (w5.heap.size) [.float .f32 t0, .float .f32 t1, .float .f32 t2, .slice ta Z0.length tc, .slice tb Z1.length td]) := Lib.hid (BG_0.out.below hb BG_0.out.1)
    clear BG_0
    clear hb
    have cHA0 := HA_9.out.c 0 rfl
    have cHA1 := HA_9.out.c 1 rfl
    have cHA2 := HA_9.out.c 2 rfl
    have cHA3 := HA_9.out.c 3 rfl
    have cHA4 := HA_9.out.c 4 rfl
    have cBS0 := BS_5.out.c 0 rfl
    have cBS1 := BS_5.out.c 1 rfl
    have cBS2 := BS_5.out.c 2 rfl
    have cBS3 := BS_5.out.c 3 rfl
    have cBS4 := BS_5.out.c 4 rfl
    have cBX0 := BX_3.out.c 0 rfl
    have cBX1 := BX_3.out.c 1 rfl
    have cBX2 := BX_3.out.c 2 rfl
    have cBX3 := BX_3.out.c 3 rfl
    have cBX4 := BX_3.out.c 4 rfl
    have cBG0 := BG_1.out.c 0 rfl
    have cBG1 := BG_1.out.c 1 rfl
    have cBG2 := BG_1.out.c 2 rfl
    have cBG3 := BG_1.out.c 3 rfl
    have cBG4 := BG_1.out.c 4 rfl
    go_wp2_with fail
    clear cHA0 cHA1 cHA2 cHA3 cHA4 cBS0 cBS1 cBS2 cBS3 cBS4 cBX0 cBX1 cBX2 cBX3 cBX4 cBG0 cBG1 cBG2 cBG3 cBG4
    refine wp_region_inv (id := 10) (stepCanalInv w6 _ _ _ _ _ _ _ _ _ _ _ _ _ _ _ _ _ _ _ _ _ _ _ _ _ _ _ _ _ _ _ _ _ _ _ _ _ _ _ _ _ _ _ _ _ _ _ _ _ _ _ _ _ _ _ _ _ _ _ _ _ _ _ _ _ _ _ _ _ _ _ _ _ _ _ _ _ _ _ _ _ _ _ _ _ _ _ _ _ _ _ _ _ _ _ _ _ _ _ _ _ n0 n1 n2 x0 x1 a0 a1 d0 d1 c0 c1 zs0 zs1) (by kernel_rfl) (by kernel_rfl) ⟨⟨_, _, _, _, _, rfl, stepCanal_gs, stepCanal_gs, stepCanal_gs, stepCanal_gs, stepCanal_gs, (by first | exact beld (Below.refl _ _) 1 | exact beld (beld (Below.refl _ _) _) 1)⟩⟩ ?_ ?_
    rotate_left
    · skip
      refine stepCanal_sc 1 rfl ?_ ?_
      · intro d a w9 hsz hcl hinv hd hdep
        obtain ⟨⟨u49, u50, u51, u52, u53, rfl, f0, f1, f2, f3, f4, hbel⟩⟩ := hinv
        have bx := BX_3.out.below hbel BX_3.out.1
        have k0_ := bx.c 0 rfl
        have k1_ := bx.c 1 rfl
        have k2_ := bx.c 2 rfl
        have k3_ := bx.c 3 rfl
        have k4_ := bx.c 4 rfl
        go_wp2_with fail
        exact ⟨⟨(.agg #[.float .f32 n0, .float .f32 n1, .float .f32 n2, .slice x0 zs0.length d0, .slice x1 zs1.length d1]), u50, u51, u52, u53, rfl, (Gd.new rfl), (f1.keep (i := 0) (by decide)), (f2.keep (i := 0) (by decide)), (f3.keep (i := 0) (by decide)), (f4.keep (i := 0) (by decide)), hbel⟩⟩
      refine stepCanal_sc 2 rfl ?_ ?_
      · intro d a w9 hsz hcl hinv hd hdep
        obtain ⟨⟨u49, u50, u51, u52, u53, rfl, f0, f1, f2, f3, f4, hbel⟩⟩ := hinv
        have bx := HA_9.out.below hbel HA_9.out.1
        have k0_ := bx.c 0 rfl
        have k1_ := bx.c 1 rfl
        have k2_ := bx.c 2 rfl
        have k3_ := bx.c 3 rfl
        have k4_ := bx.c 4 rfl
        go_wp2_with fail
        exact ⟨⟨u49, (.agg #[.float .f32 n0, .float .f32 n1, .float .f32 n2, .slice a0 zs0.length c0, .slice a1 zs1.length c1]), u51, u52, u53, rfl, (f0.keep (i := 1) (by decide)), (Gd.new rfl), (f2.keep (i := 1) (by decide)), (f3.keep (i := 1) (by decide)), (f4.keep (i := 1) (by decide)), hbel⟩⟩
      refine stepCanal_sc 3 rfl ?_ ?_
      · intro d a w9 hsz hcl hinv hd hdep
        obtain ⟨⟨u49, u50, u51, u52, u53, rfl, f0, f1, f2, f3, f4, hbel⟩⟩ := hinv
        have e1 := f1 (hdep.get 1 rfl)
        subst e1
        have n3 := hcl.not hd 3 _ rfl rfl
        have n4 := hcl.not n3 4 _ rfl rfl
        go_wp2_with fail
        refine (toCanal_any n0 n1 n2 a0 a1 c0 c1 zs0 zs1 _ ((H0.out.below BB_10.out (Nat.le_refl _)).below hbel (Nat.le_refl _)) hl0 ((H1.out.below BB_10.out (Nat.le_refl _)).below hbel (Nat.le_refl _)) hl1).mono ?_
        rintro e wc ⟨g0, q0, g1, q1, mq, rfl, hb, hf0, hf1, hm1q, hm2q⟩
        have Hf0 := Lib.hid hf0.row
        have Hf1 := Lib.hid hf1.row
        have Hb := Lib.hid hb
        clear hf0 hf1 hb
        go_wp2_with fail
        exact ⟨⟨u49, (.agg #[.float .f32 n0, .float .f32 n1, .float .f32 n2, .slice a0 zs0.length c0, .slice a1 zs1.length c1]), (.agg #[.float .f32 n0, .float .f32 n1, .float .f32 n2, .slice g0 zs0.length q0, .slice g1 zs1.length q1]), u52, u53, rfl, (f0.keep (i := 2) (by decide)), Gd.new rfl, Gd.new ⟨g0, g1, q0, q1, rfl, Hf0.out, Hf1.out⟩, stepCanal_gu (i := 2) n3 (by decide), stepCanal_gu (i := 2) n4 (by decide), hbel.trans (Hb.out.mono hbel.size)⟩⟩
      refine stepCanal_sc 4 rfl ?_ ?_
      · intro d a w9 hsz hcl hinv hd hdep
        obtain ⟨⟨u49, u50, u51, u52, u53, rfl, f0, f1, f2, f3, f4, hbel⟩⟩ := hinv
        have e0 := f0 (hdep.get 0 rfl)
        subst e0
        obtain ⟨g0, g1, q0, q1, e2, hf0, hf1⟩ := f2 (hdep.get 2 rfl)
        subst e2
        have Hf0 := Lib.hid hf0
        have Hf1 := Lib.hid hf1
        clear hf0 hf1
        have n4 := hcl.not hd 4 _ rfl rfl
        go_wp2_with fail
        refine (eqCanal_any x0 x1 g0 g1 d0 d1 q0 q1 zs0 zs1 _ (Is32.c hn0) (Is32.c hn0) (Is32.c hn1) (Is32.c hn1) (Is32.c hn2) (Is32.c hn2) (FX0_4.out.row.below hbel (Nat.le_refl _)) Hf0.out hl0 (FX1_4.out.row.below hbel (Nat.le_refl _)) Hf1.out hl1).mono ?_
        rintro e wc ⟨rfl, hb⟩
        have Hb := Lib.hid hb
        clear hb
        go_wp2_with fail
        exact ⟨⟨(.agg #[.float .f32 n0, .float .f32 n1, .float .f32 n2, .slice x0 zs0.length d0, .slice x1 zs1.length d1]), u50, (.agg #[.float .f32 n0, .float .f32 n1, .float .f32 n2, .slice g0 zs0.length q0, .slice g1 zs1.length q1]), (.bool true), u53, rfl, Gd.new rfl, (f1.keep (i := 3) (by decide)), Gd.new ⟨g0, g1, q0, q1, rfl, Hf0.out.below Hb.out (Nat.le_refl _), Hf1.out.below Hb.out (Nat.le_refl _)⟩, Gd.new rfl, stepCanal_gu (i := 3) n4 (by decide), hbel.trans (Hb.out.mono hbel.size)⟩⟩
      refine stepCanal_sc 5 rfl ?_ trivial
      · intro d a w9 hsz hcl hinv hd hdep
        obtain ⟨⟨u49, u50, u51, u52, u53, rfl, f0, f1, f2, f3, f4, hbel⟩⟩ := hinv
        have e3 := f3 (hdep.get 3 rfl)
        subst e3
        go_wp2_with fail
        exact ⟨⟨u49, u50, u51, (.bool true), (.bool false), rfl, (f0.keep (i := 4) (by decide)), (f1.keep (i := 4) (by decide)), (f2.keep (i := 4) (by decide)), Gd.new rfl, Gd.new rfl, hbel⟩⟩
    intro d a w7 hinv hall
    obtain ⟨⟨u49, u50, u51, u52, u53, rfl, f0, f1, f2, f3, f4, hbel⟩⟩ := hinv
    have e4 := f4 (hall 4 (by decide))
    subst e4
    clear f0 f1 f2 f3 f4
    have hb := hbel
    clear hbel
    have z7 : w6.heap.size ≤ w7.heap.size := hb.size
    have BB_11 : Hid (Below w.heap.size w w7) := Lib.hid (BB_10.out.trans (hb.mono BB_10.out.size))
    clear BB_10
    have HA_10 : Hid (Bx w7 (w.heap.size) [.float .f32 n0, .float .f32 n1, .float .f32 n2, .slice a0 zs0.length c0, .slice a1 zs1.length c1]) := Lib.hid (HA_9.out.below hb HA_9.out.1)
    clear HA_9
    have B3_7 : Hid (Below w3.heap.size w3 w7) := Lib.hid (B3_6.out.trans (hb.mono B3_6.out.size))
    clear B3_6
    have BS_6 : Hid (Bx w7 (w3.heap.size) [.float .f32 s0, .float .f32 s1, .float .f32 s2, .slice sa Z0.length sc, .slice sb Z1.length sd]) := Lib.hid (BS_5.out.below hb BS_5.out.1)
    clear BS_5
    have FX0_5 : Hid (FRow w7 (w3.heap.size + 1) (midx) (.slice x0 zs0.length d0) zs0) := Lib.hid (FX0_4.out.below hb FX0_4.out.2.2)
    clear FX0_4
    have FX1_5 : Hid (FRow w7 (midx) (w4.heap.size) (.slice x1 zs1.length d1) zs1) := Lib.hid (FX1_4.out.below hb FX1_4.out.2.2)
    clear FX1_4
    have BX_4 : Hid (Bx w7 (w4.heap.size) [.float .f32 n0, .float .f32 n1, .float .f32 n2, .slice x0 zs0.length d0, .slice x1 zs1.length d1]) := Lib.hid (BX_3.out.below hb BX_3.out.1)
    clear BX_3
    have FG0_3 : Hid (FRow w7 (lo) (mid) (.slice ta Z0.length tc) Z0) := Lib.hid (FG0_2.out.below hb FG0_2.out.2.2)
    clear FG0_2
    have FG1_3 : Hid (FRow w7 (mid) (hi) (.slice tb Z1.length td) Z1) := Lib.hid (FG1_2.out.below hb FG1_2.out.2.2)
    clear FG1_2
    have BG_2 : Hid (Bx w7 (w5.heap.size) [.float .f32 t0, .float .f32 t1, .float .f32 t2, .slice ta Z0.length tc, .slice tb Z1.length td]) := Lib.hid (BG_1.out.below hb BG_1.out.1)
    clear BG_1
    clear hb
    have fx0 := FX0_5.out
    have fx1 := FX1_5.out
    clear FX0_5 FX1_5
    have cHA0 := HA_10.out.c 0 rfl
    have cHA1 := HA_10.out.c 1 rfl
    have cHA2 := HA_10.out.c 2 rfl
    have cHA3 := HA_10.out.c 3 rfl
    have cHA4 := HA_10.out.c 4 rfl
    have cBS0 := BS_6.out.c 0 rfl
    have cBS1 := BS_6.out.c 1 rfl
    have cBS2 := BS_6.out.c 2 rfl
    have cBS3 := BS_6.out.c 3 rfl
    have cBS4 := BS_6.out.c 4 rfl
    have cBX0 := BX_4.out.c 0 rfl
    have cBX1 := BX_4.out.c 1 rfl
    have cBX2 := BX_4.out.c 2 rfl
    have cBX3 := BX_4.out.c 3 rfl
    have cBX4 := BX_4.out.c 4 rfl
    have cBG0 := BG_2.out.c 0 rfl
    have cBG1 := BG_2.out.c 1 rfl
    have cBG2 := BG_2.out.c 2 rfl
    have cBG3 := BG_2.out.c 3 rfl
    have cBG4 := BG_2.out.c 4 rfl
    go_wp2_with fail
    refine (markCanal_any (w3.heap.size + 1) midx w4.heap.size 1 n0 n1 n2 x0 x1 d0 d1 zs0 zs1 _ fx0 fx1 hx1 hx2 hl0 hl1 (by decide)).mono ?_
    rintro e w8 ⟨rfl, hf0, hf1, hk⟩
    clear cHA0 cHA1 cHA2 cHA3 cHA4 cBS0 cBS1 cBS2 cBS3 cBS4 cBX0 cBX1 cBX2 cBX3 cBX4 cBG0 cBG1 cBG2 cBG3 cBG4
    have z8 : w7.heap.size + 0 ≤ w8.heap.size := (by have := hk.size; (try simp at this); omega)
    have BB_12 : Hid (Below w.heap.size w w8) := Lib.hid (BB_11.out.trans (hk.below (by omega) (by omega)))
    clear BB_11
    have HA_11 : Hid (Bx w8 (w.heap.size) [.float .f32 n0, .float .f32 n1, .float .f32 n2, .slice a0 zs0.length c0, .slice a1 zs1.length c1]) := Lib.hid (HA_10.out.kept hk (by first | exact .inl (by omega) | exact .inr (by omega)))
    clear HA_10
    have B3_8 : Hid (Below w3.heap.size w3 w8) := Lib.hid (B3_7.out.trans (hk.below (by omega) (by omega)))
    clear B3_7
    have BS_7 : Hid (Bx w8 (w3.heap.size) [.float .f32 s0, .float .f32 s1, .float .f32 s2, .slice sa Z0.length sc, .slice sb Z1.length sd]) := Lib.hid (BS_6.out.kept hk (by first | exact .inl (by omega) | exact .inr (by omega)))
    clear BS_6
    have BX_5 : Hid (Bx w8 (w4.heap.size) [.float .f32 n0, .float .f32 n1, .float .f32 n2, .slice x0 zs0.length d0, .slice x1 zs1.length d1]) := Lib.hid (BX_4.out.kept hk (by first | exact .inl (by omega) | exact .inr (by omega)))
    clear BX_4
    have FG0_4 : Hid (FRow w8 (lo) (mid) (.slice ta Z0.length tc) Z0) := Lib.hid (FG0_3.out.kept hk (by first | exact .inl (by omega) | exact .inr (by omega)))
    clear FG0_3
    have FG1_4 : Hid (FRow w8 (mid) (hi) (.slice tb Z1.length td) Z1) := Lib.hid (FG1_3.out.kept hk (by first | exact .inl (by omega) | exact .inr (by omega)))
    clear FG1_3
    have BG_3 : Hid (Bx w8 (w5.heap.size) [.float .f32 t0, .float .f32 t1, .float .f32 t2, .slice ta Z0.length tc, .slice tb Z1.length td]) := Lib.hid (BG_2.out.kept hk (by first | exact .inl (by omega) | exact .inr (by omega)))
    clear BG_2
    clear hf0 hf1 fx0 fx1
    clear hk
    have hcx : ¬ ((1 + zs0.length + zs1.length : Nat) : Int) < 0 := by omega
    have cHA0 := HA_11.out.c 0 rfl
    have cHA1 := HA_11.out.c 1 rfl
    have cHA2 := HA_11.out.c 2 rfl
    have cHA3 := HA_11.out.c 3 rfl
    have cHA4 := HA_11.out.c 4 rfl
    have cBS0 := BS_7.out.c 0 rfl
    have cBS1 := BS_7.out.c 1 rfl
    have cBS2 := BS_7.out.c 2 rfl
    have cBS3 := BS_7.out.c 3 rfl
    have cBS4 := BS_7.out.c 4 rfl
    have cBX0 := BX_5.out.c 0 rfl
    have cBX1 := BX_5.out.c 1 rfl
    have cBX2 := BX_5.out.c 2 rfl
    have cBX3 := BX_5.out.c 3 rfl
    have cBX4 := BX_5.out.c 4 rfl
    have cBG0 := BG_3.out.c 0 rfl
    have cBG1 := BG_3.out.c 1 rfl
    have cBG2 := BG_3.out.c 2 rfl
    have cBG3 := BG_3.out.c 3 rfl
    have cBG4 := BG_3.out.c 4 rfl
    go_wp2_with fail
    refine (eqCanal_any ta tb sa sb tc td sc sd Z0 Z1 _ ti0 si0 ti1 si1 ti2 si2 FG0_4.out.row (RS0.out.below B3_8.out (Nat.le_refl _)) tl0 FG1_4.out.row (RS1.out.below B3_8.out (Nat.le_refl _)) tl1).mono ?_
    rintro e w9 ⟨rfl, hb⟩
    clear cHA0 cHA1 cHA2 cHA3 cHA4 cBS0 cBS1 cBS2 cBS3 cBS4 cBX0 cBX1 cBX2 cBX3 cBX4 cBG0 cBG1 cBG2 cBG3 cBG4
    have z9 : w8.heap.size + 0 ≤ w9.heap.size := (by have := hb.size; (try simp at this); omega)
    have BB_13 : Hid (Below w.heap.size w w9) := Lib.hid (BB_12.out.trans (hb.mono BB_12.out.size))
    clear BB_12
    have HA_12 : Hid (Bx w9 (w.heap.size) [.float .f32 n0, .float .f32 n1, .float .f32 n2, .slice a0 zs0.length c0, .slice a1 zs1.length c1]) := Lib.hid (HA_11.out.below hb HA_11.out.1)
    clear HA_11
    have B3_9 : Hid (Below w3.heap.size w3 w9) := Lib.hid (B3_8.out.trans (hb.mono B3_8.out.size))
    clear B3_8
    have BS_8 : Hid (Bx w9 (w3.heap.size) [.float .f32 s0, .float .f32 s1, .float .f32 s2, .slice sa Z0.length sc, .slice sb Z1.length sd]) := Lib.hid (BS_7.out.below hb BS_7.out.1)
    clear BS_7
    have BX_6 : Hid (Bx w9 (w4.heap.size) [.float .f32 n0, .float .f32 n1, .float .f32 n2, .slice x0 zs0.length d0, .slice x1 zs1.length d1]) := Lib.hid (BX_5.out.below hb BX_5.out.1)
    clear BX_5
    have FG0_5 : Hid (FRow w9 (lo) (mid) (.slice ta Z0.length tc) Z0) := Lib.hid (FG0_4.out.below hb FG0_4.out.2.2)
    clear FG0_4
    have FG1_5 : Hid (FRow w9 (mid) (hi) (.slice tb Z1.length td) Z1) := Lib.hid (FG1_4.out.below hb FG1_4.out.2.2)
    clear FG1_4
    have BG_4 : Hid (Bx w9 (w5.heap.size) [.float .f32 t0, .float .f32 t1, .float .f32 t2, .slice ta Z0.length tc, .slice tb Z1.length td]) := Lib.hid (BG_3.out.below hb BG_3.out.1)
    clear BG_3
    clear hb
    have fg0 := FG0_5.out
    have fg1 := FG1_5.out
    clear FG0_5 FG1_5
    have cHA0 := HA_12.out.c 0 rfl
    have cHA1 := HA_12.out.c 1 rfl
    have cHA2 := HA_12.out.c 2 rfl
    have cHA3 := HA_12.out.c 3 rfl
    have cHA4 := HA_12.out.c 4 rfl
    have cBS0 := BS_8.out.c 0 rfl
    have cBS1 := BS_8.out.c 1 rfl
    have cBS2 := BS_8.out.c 2 rfl
    have cBS3 := BS_8.out.c 3 rfl
    have cBS4 := BS_8.out.c 4 rfl
    have cBX0 := BX_6.out.c 0 rfl
    have cBX1 := BX_6.out.c 1 rfl
    have cBX2 := BX_6.out.c 2 rfl
    have cBX3 := BX_6.out.c 3 rfl
    have cBX4 := BX_6.out.c 4 rfl
    have cBG0 := BG_4.out.c 0 rfl
    have cBG1 := BG_4.out.c 1 rfl
    have cBG2 := BG_4.out.c 2 rfl
    have cBG3 := BG_4.out.c 3 rfl
    have cBG4 := BG_4.out.c 4 rfl
    go_wp2_with fail
    refine (markCanal_any lo mid hi 1 t0 t1 t2 ta tb tc td Z0 Z1 _ fg0 fg1 hlm hmh tl0 tl1 (by decide)).mono ?_
    rintro e w10 ⟨rfl, hf0, hf1, hk⟩
    clear cHA0 cHA1 cHA2 cHA3 cHA4 cBS0 cBS1 cBS2 cBS3 cBS4 cBX0 cBX1 cBX2 cBX3 cBX4 cBG0 cBG1 cBG2 cBG3 cBG4
    have z10 : w9.heap.size + 0 ≤ w10.heap.size := (by have := hk.size; (try simp at this); omega)
    have BB_14 : Hid (Below w.heap.size w w10) := Lib.hid (BB_13.out.trans (hk.below (by omega) (by omega)))
    clear BB_13
    have HA_13 : Hid (Bx w10 (w.heap.size) [.float .f32 n0, .float .f32 n1, .float .f32 n2, .slice a0 zs0.length c0, .slice a1 zs1.length c1]) := Lib.hid (HA_12.out.kept hk (by first | exact .inl (by omega) | exact .inr (by omega)))
    clear HA_12
    have B3_10 : Hid (Below w3.heap.size w3 w10) := Lib.hid (B3_9.out.trans (hk.below (by omega) (by omega)))
    clear B3_9
    have BS_9 : Hid (Bx w10 (w3.heap.size) [.float .f32 s0, .float .f32 s1, .float .f32 s2, .slice sa Z0.length sc, .slice sb Z1.length sd]) := Lib.hid (BS_8.out.kept hk (by first | exact .inl (by omega) | exact .inr (by omega)))
    clear BS_8
    have BX_7 : Hid (Bx w10 (w4.heap.size) [.float .f32 n0, .float .f32 n1, .float .f32 n2, .slice x0 zs0.length d0, .slice x1 zs1.length d1]) := Lib.hid (BX_6.out.kept hk (by first | exact .inl (by omega) | exact .inr (by omega)))
    clear BX_6
    have BG_5 : Hid (Bx w10 (w5.heap.size) [.float .f32 t0, .float .f32 t1, .float .f32 t2, .slice ta Z0.length tc, .slice tb Z1.length td]) := Lib.hid (BG_4.out.kept hk (by first | exact .inl (by omega) | exact .inr (by omega)))
    clear BG_4
    clear fg0 fg1
    clear hk
    have FM0_0 : Hid (FRow w10 (lo) (mid) (.slice ta Z0.length tc) (marks 1 Z0.length)) := Lib.hid (hf0)
    have FM1_0 : Hid (FRow w10 (mid) (hi) (.slice tb Z1.length td) (marks (1 + Z0.length) Z1.length)) := Lib.hid (hf1)
    clear hf0 hf1
    have hcn : ¬ ((1 + Z0.length + Z1.length : Nat) : Int) < 0 := by omega
    have cHA0 := HA_13.out.c 0 rfl
    have cHA1 := HA_13.out.c 1 rfl
    have cHA2 := HA_13.out.c 2 rfl
    have cHA3 := HA_13.out.c 3 rfl
    have cHA4 := HA_13.out.c 4 rfl
    have cBS0 := BS_9.out.c 0 rfl
    have cBS1 := BS_9.out.c 1 rfl
    have cBS2 := BS_9.out.c 2 rfl
    have cBS3 := BS_9.out.c 3 rfl
    have cBS4 := BS_9.out.c 4 rfl
    have cBX0 := BX_7.out.c 0 rfl
    have cBX1 := BX_7.out.c 1 rfl
    have cBX2 := BX_7.out.c 2 rfl
    have cBX3 := BX_7.out.c 3 rfl
    have cBX4 := BX_7.out.c 4 rfl
    have cBG0 := BG_5.out.c 0 rfl
    have cBG1 := BG_5.out.c 1 rfl
    have cBG2 := BG_5.out.c 2 rfl
    have cBG3 := BG_5.out.c 3 rfl
    have cBG4 := BG_5.out.c 4 rfl
    go_wp2_with fail
    refine (heldCanal_any lo mid hi 1 Z0.length Z1.length t0 t1 t2 ta tb tc td _ FM0_0.out FM1_0.out tl0 tl1 (by decide)).mono ?_
    rintro e w11 ⟨rfl, hb⟩
    clear cHA0 cHA1 cHA2 cHA3 cHA4 cBS0 cBS1 cBS2 cBS3 cBS4 cBX0 cBX1 cBX2 cBX3 cBX4 cBG0 cBG1 cBG2 cBG3 cBG4
    have z11 : w10.heap.size + 0 ≤ w11.heap.size := (by have := hb.size; (try simp at this); omega)
    have BB_15 : Hid (Below w.heap.size w w11) := Lib.hid (BB_14.out.trans (hb.mono BB_14.out.size))
    clear BB_14
    have HA_14 : Hid (Bx w11 (w.heap.size) [.float .f32 n0, .float .f32 n1, .float .f32 n2, .slice a0 zs0.length c0, .slice a1 zs1.length c1]) := Lib.hid (HA_13.out.below hb HA_13.out.1)
    clear HA_13
    have B3_11 : Hid (Below w3.heap.size w3 w11) := Lib.hid (B3_10.out.trans (hb.mono B3_10.out.size))
    clear B3_10
    have BS_10 : Hid (Bx w11 (w3.heap.size) [.float .f32 s0, .float .f32 s1, .float .f32 s2, .slice sa Z0.length sc, .slice sb Z1.length sd]) := Lib.hid (BS_9.out.below hb BS_9.out.1)
    clear BS_9
    have BX_8 : Hid (Bx w11 (w4.heap.size) [.float .f32 n0, .float .f32 n1, .float .f32 n2, .slice x0 zs0.length d0, .slice x1 zs1.length d1]) := Lib.hid (BX_7.out.below hb BX_7.out.1)
    clear BX_7
    have BG_6 : Hid (Bx w11 (w5.heap.size) [.float .f32 t0, .float .f32 t1, .float .f32 t2, .slice ta Z0.length tc, .slice tb Z1.length td]) := Lib.hid (BG_5.out.below hb BG_5.out.1)
    clear BG_5
    have FM0_1 : Hid (FRow w11 (lo) (mid) (.slice ta Z0.length tc) (marks 1 Z0.length)) := Lib.hid (FM0_0.out.below hb FM0_0.out.2.2)
    clear FM0_0
    have FM1_1 : Hid (FRow w11 (mid) (hi) (.slice tb Z1.length td) (marks (1 + Z0.length) Z1.length)) := Lib.hid (FM1_0.out.below hb FM1_0.out.2.2)
    clear FM1_0
    clear hb
    have cHA0 := HA_14.out.c 0 rfl
    have cHA1 := HA_14.out.c 1 rfl
    have cHA2 := HA_14.out.c 2 rfl
    have cHA3 := HA_14.out.c 3 rfl
    have cHA4 := HA_14.out.c 4 rfl
    have cBS0 := BS_10.out.c 0 rfl
    have cBS1 := BS_10.out.c 1 rfl
    have cBS2 := BS_10.out.c 2 rfl
    have cBS3 := BS_10.out.c 3 rfl
    have cBS4 := BS_10.out.c 4 rfl
    have cBX0 := BX_8.out.c 0 rfl
    have cBX1 := BX_8.out.c 1 rfl
    have cBX2 := BX_8.out.c 2 rfl
    have cBX3 := BX_8.out.c 3 rfl
    have cBX4 := BX_8.out.c 4 rfl
    have cBG0 := BG_6.out.c 0 rfl
    have cBG1 := BG_6.out.c 1 rfl
    have cBG2 := BG_6.out.c 2 rfl
    have cBG3 := BG_6.out.c 3 rfl
    have cBG4 := BG_6.out.c 4 rfl
    go_wp2_with fail
    refine (toCanal_any n0 n1 n2 a0 a1 c0 c1 zs0 zs1 _ (H0.out.below BB_15.out (Nat.le_refl _)) hl0 (H1.out.below BB_15.out (Nat.le_refl _)) hl1).mono ?_
    rintro e w12 ⟨e0, k0, e1, k1, midh, rfl, hb, hf0, hf1, hm1, hm2⟩
    clear cHA0 cHA1 cHA2 cHA3 cHA4 cBS0 cBS1 cBS2 cBS3 cBS4 cBX0 cBX1 cBX2 cBX3 cBX4 cBG0 cBG1 cBG2 cBG3 cBG4
    have z12 : w11.heap.size + 0 ≤ w12.heap.size := (by have := hb.size; (try simp at this); omega)
    have BB_16 : Hid (Below w.heap.size w w12) := Lib.hid (BB_15.out.trans (hb.mono BB_15.out.size))
    clear BB_15
    have HA_15 : Hid (Bx w12 (w.heap.size) [.float .f32 n0, .float .f32 n1, .float .f32 n2, .slice a0 zs0.length c0, .slice a1 zs1.length c1]) := Lib.hid (HA_14.out.below hb HA_14.out.1)
    clear HA_14
    have B3_12 : Hid (Below w3.heap.size w3 w12) := Lib.hid (B3_11.out.trans (hb.mono B3_11.out.size))
    clear B3_11
    have BS_11 : Hid (Bx w12 (w3.heap.size) [.float .f32 s0, .float .f32 s1, .float .f32 s2, .slice sa Z0.length sc, .slice sb Z1.length sd]) := Lib.hid (BS_10.out.below hb BS_10.out.1)
    clear BS_10
    have BX_9 : Hid (Bx w12 (w4.heap.size) [.float .f32 n0, .float .f32 n1, .float .f32 n2, .slice x0 zs0.length d0, .slice x1 zs1.length d1]) := Lib.hid (BX_8.out.below hb BX_8.out.1)
    clear BX_8
    have BG_7 : Hid (Bx w12 (w5.heap.size) [.float .f32 t0, .float .f32 t1, .float .f32 t2, .slice ta Z0.length tc, .slice tb Z1.length td]) := Lib.hid (BG_6.out.below hb BG_6.out.1)
    clear BG_6
    have FM0_2 : Hid (FRow w12 (lo) (mid) (.slice ta Z0.length tc) (marks 1 Z0.length)) := Lib.hid (FM0_1.out.below hb FM0_1.out.2.2)
    clear FM0_1
    have FM1_2 : Hid (FRow w12 (mid) (hi) (.slice tb Z1.length td) (marks (1 + Z0.length) Z1.length)) := Lib.hid (FM1_1.out.below hb FM1_1.out.2.2)
    clear FM1_1
    have HE0 := Lib.hid hf0.row
    have HE1 := Lib.hid hf1.row
    clear hf0 hf1 hm1 hm2
    clear hb
    have cHA0 := HA_15.out.c 0 rfl
    have cHA1 := HA_15.out.c 1 rfl
    have cHA2 := HA_15.out.c 2 rfl
    have cHA3 := HA_15.out.c 3 rfl
    have cHA4 := HA_15.out.c 4 rfl
    have cBS0 := BS_11.out.c 0 rfl
    have cBS1 := BS_11.out.c 1 rfl
    have cBS2 := BS_11.out.c 2 rfl
    have cBS3 := BS_11.out.c 3 rfl
    have cBS4 := BS_11.out.c 4 rfl
    have cBX0 := BX_9.out.c 0 rfl
    have cBX1 := BX_9.out.c 1 rfl
    have cBX2 := BX_9.out.c 2 rfl
    have cBX3 := BX_9.out.c 3 rfl
    have cBX4 := BX_9.out.c 4 rfl
    have cBG0 := BG_7.out.c 0 rfl
    have cBG1 := BG_7.out.c 1 rfl
    have cBG2 := BG_7.out.c 2 rfl
    have cBG3 := BG_7.out.c 3 rfl
    have cBG4 := BG_7.out.c 4 rfl
    go_wp2_with fail
    refine (HI.out e0 e1 k0 k1 _ HE0.out HE1.out).mono ?_
    rintro e w13 ⟨u0, u1, u2, ua, uc, ub, ud, lo', mid', hi', rfl, ⟨ui0, ui1, ui2⟩, fr0, fr1, hlo', hlm', hmh', hhi', ul0, ul1, hb⟩
    clear cHA0 cHA1 cHA2 cHA3 cHA4 cBS0 cBS1 cBS2 cBS3 cBS4 cBX0 cBX1 cBX2 cBX3 cBX4 cBG0 cBG1 cBG2 cBG3 cBG4
    have z13 : w12.heap.size + 0 ≤ w13.heap.size := (by have := hb.size; (try simp at this); omega)
    have BB_17 : Hid (Below w.heap.size w w13) := Lib.hid (BB_16.out.trans (hb.mono BB_16.out.size))
    clear BB_16
    have HA_16 : Hid (Bx w13 (w.heap.size) [.float .f32 n0, .float .f32 n1, .float .f32 n2, .slice a0 zs0.length c0, .slice a1 zs1.length c1]) := Lib.hid (HA_15.out.below hb HA_15.out.1)
    clear HA_15
    have B3_13 : Hid (Below w3.heap.size w3 w13) := Lib.hid (B3_12.out.trans (hb.mono B3_12.out.size))
    clear B3_12
    have BS_12 : Hid (Bx w13 (w3.heap.size) [.float .f32 s0, .float .f32 s1, .float .f32 s2, .slice sa Z0.length sc, .slice sb Z1.length sd]) := Lib.hid (BS_11.out.below hb BS_11.out.1)
    clear BS_11
    have BX_10 : Hid (Bx w13 (w4.heap.size) [.float .f32 n0, .float .f32 n1, .float .f32 n2, .slice x0 zs0.length d0, .slice x1 zs1.length d1]) := Lib.hid (BX_9.out.below hb BX_9.out.1)
    clear BX_9
    have BG_8 : Hid (Bx w13 (w5.heap.size) [.float .f32 t0, .float .f32 t1, .float .f32 t2, .slice ta Z0.length tc, .slice tb Z1.length td]) := Lib.hid (BG_7.out.below hb BG_7.out.1)
    clear BG_7
    have FM0_3 : Hid (FRow w13 (lo) (mid) (.slice ta Z0.length tc) (marks 1 Z0.length)) := Lib.hid (FM0_2.out.below hb FM0_2.out.2.2)
    clear FM0_2
    have FM1_3 : Hid (FRow w13 (mid) (hi) (.slice tb Z1.length td) (marks (1 + Z0.length) Z1.length)) := Lib.hid (FM1_2.out.below hb FM1_2.out.2.2)
    clear FM1_2
    simp only at ui0 ui1 ui2 fr0 fr1 ul0 ul1 ⊢
    clear HE0 HE1 hlo'
    clear hb
    have FU0_0 : Hid (FRow w13 (lo') (mid') (.slice ua Z0.length uc) Z0) := Lib.hid (fr0)
    have FU1_0 : Hid (FRow w13 (mid') (hi') (.slice ub Z1.length ud) Z1) := Lib.hid (fr1)
    clear fr0 fr1
    have BB_18 : Hid (Below w.heap.size w (w13.alloc (.cells #[.float .f32 u0, .float .f32 u1, .float .f32 u2, .slice ua Z0.length uc, .slice ub Z1.length ud] 36))) := Lib.hid (BB_17.out.alloc BB_17.out.size _)
    clear BB_17
    have HA_17 : Hid (Bx (w13.alloc (.cells #[.float .f32 u0, .float .f32 u1, .float .f32 u2, .slice ua Z0.length uc, .slice ub Z1.length ud] 36)) (w.heap.size) [.float .f32 n0, .float .f32 n1, .float .f32 n2, .slice a0 zs0.length c0, .slice a1 zs1.length c1]) := Lib.hid (HA_16.out.alloc _)
    clear HA_16
    have B3_14 : Hid (Below w3.heap.size w3 (w13.alloc (.cells #[.float .f32 u0, .float .f32 u1, .float .f32 u2, .slice ua Z0.length uc, .slice ub Z1.length ud] 36))) := Lib.hid (B3_13.out.alloc B3_13.out.size _)
    clear B3_13
    have BS_13 : Hid (Bx (w13.alloc (.cells #[.float .f32 u0, .float .f32 u1, .float .f32 u2, .slice ua Z0.length uc, .slice ub Z1.length ud] 36)) (w3.heap.size) [.float .f32 s0, .float .f32 s1, .float .f32 s2, .slice sa Z0.length sc, .slice sb Z1.length sd]) := Lib.hid (BS_12.out.alloc _)
    clear BS_12
    have BX_11 : Hid (Bx (w13.alloc (.cells #[.float .f32 u0, .float .f32 u1, .float .f32 u2, .slice ua Z0.length uc, .slice ub Z1.length ud] 36)) (w4.heap.size) [.float .f32 n0, .float .f32 n1, .float .f32 n2, .slice x0 zs0.length d0, .slice x1 zs1.length d1]) := Lib.hid (BX_10.out.alloc _)
    clear BX_10
    have BG_9 : Hid (Bx (w13.alloc (.cells #[.float .f32 u0, .float .f32 u1, .float .f32 u2, .slice ua Z0.length uc, .slice ub Z1.length ud] 36)) (w5.heap.size) [.float .f32 t0, .float .f32 t1, .float .f32 t2, .slice ta Z0.length tc, .slice tb Z1.length td]) := Lib.hid (BG_8.out.alloc _)
    clear BG_8
    have FM0_4 : Hid (FRow (w13.alloc (.cells #[.float .f32 u0, .float .f32 u1, .float .f32 u2, .slice ua Z0.length uc, .slice ub Z1.length ud] 36)) (lo) (mid) (.slice ta Z0.length tc) (marks 1 Z0.length)) := Lib.hid (FM0_3.out.alloc _)
    clear FM0_3
    have FM1_4 : Hid (FRow (w13.alloc (.cells #[.float .f32 u0, .float .f32 u1, .float .f32 u2, .slice ua Z0.length uc, .slice ub Z1.length ud] 36)) (mid) (hi) (.slice tb Z1.length td) (marks (1 + Z0.length) Z1.length)) := Lib.hid (FM1_3.out.alloc _)
    clear FM1_3
    have FU0_1 : Hid (FRow (w13.alloc (.cells #[.float .f32 u0, .float .f32 u1, .float .f32 u2, .slice ua Z0.length uc, .slice ub Z1.length ud] 36)) (lo') (mid') (.slice ua Z0.length uc) Z0) := Lib.hid (FU0_0.out.alloc _)
    clear FU0_0
    have FU1_1 : Hid (FRow (w13.alloc (.cells #[.float .f32 u0, .float .f32 u1, .float .f32 u2, .slice ua Z0.length uc, .slice ub Z1.length ud] 36)) (mid') (hi') (.slice ub Z1.length ud) Z1) := Lib.hid (FU1_0.out.alloc _)
    clear FU1_0
    have BH_0 : Hid (Bx (w13.alloc (.cells #[.float .f32 u0, .float .f32 u1, .float .f32 u2, .slice ua Z0.length uc, .slice ub Z1.length ud] 36)) (w13.heap.size) [.float .f32 u0, .float .f32 u1, .float .f32 u2, .slice ua Z0.length uc, .slice ub Z1.length ud]) := Lib.hid (Bx.new w13 [.float .f32 u0, .float .f32 u1, .float .f32 u2, .slice ua Z0.length uc, .slice ub Z1.length ud] 36)
    have cHA0 := HA_17.out.c 0 rfl
    have cHA1 := HA_17.out.c 1 rfl
    have cHA2 := HA_17.out.c 2 rfl
    have cHA3 := HA_17.out.c 3 rfl
    have cHA4 := HA_17.out.c 4 rfl
    have cBS0 := BS_13.out.c 0 rfl
    have cBS1 := BS_13.out.c 1 rfl
    have cBS2 := BS_13.out.c 2 rfl
    have cBS3 := BS_13.out.c 3 rfl
    have cBS4 := BS_13.out.c 4 rfl
    have cBX0 := BX_11.out.c 0 rfl
    have cBX1 := BX_11.out.c 1 rfl
    have cBX2 := BX_11.out.c 2 rfl
    have cBX3 := BX_11.out.c 3 rfl
    have cBX4 := BX_11.out.c 4 rfl
    have cBG0 := BG_9.out.c 0 rfl
    have cBG1 := BG_9.out.c 1 rfl
    have cBG2 := BG_9.out.c 2 rfl
    have cBG3 := BG_9.out.c 3 rfl
    have cBG4 := BG_9.out.c 4 rfl
    have cBH0 := BH_0.out.c 0 rfl
    have cBH1 := BH_0.out.c 1 rfl
    have cBH2 := BH_0.out.c 2 rfl
    have cBH3 := BH_0.out.c 3 rfl
    have cBH4 := BH_0.out.c 4 rfl
    go_wp2_with fail
    refine (eqCanal_any ua ub sa sb uc ud sc sd Z0 Z1 _ ui0 si0 ui1 si1 ui2 si2 FU0_1.out.row (RS0.out.below B3_14.out (Nat.le_refl _)) tl0 FU1_1.out.row (RS1.out.below B3_14.out (Nat.le_refl _)) tl1).mono ?_
    rintro e w14 ⟨rfl, hb⟩
    clear cHA0 cHA1 cHA2 cHA3 cHA4 cBS0 cBS1 cBS2 cBS3 cBS4 cBX0 cBX1 cBX2 cBX3 cBX4 cBG0 cBG1 cBG2 cBG3 cBG4 cBH0 cBH1 cBH2 cBH3 cBH4
    have z14 : w13.heap.size + 1 ≤ w14.heap.size := (by have := hb.size; (try simp at this); omega)
    have BB_19 : Hid (Below w.heap.size w w14) := Lib.hid (BB_18.out.trans (hb.mono BB_18.out.size))
    clear BB_18
    have HA_18 : Hid (Bx w14 (w.heap.size) [.float .f32 n0, .float .f32 n1, .float .f32 n2, .slice a0 zs0.length c0, .slice a1 zs1.length c1]) := Lib.hid (HA_17.out.below hb HA_17.out.1)
    clear HA_17
    have B3_15 : Hid (Below w3.heap.size w3 w14) := Lib.hid (B3_14.out.trans (hb.mono B3_14.out.size))
    clear B3_14
    have BS_14 : Hid (Bx w14 (w3.heap.size) [.float .f32 s0, .float .f32 s1, .float .f32 s2, .slice sa Z0.length sc, .slice sb Z1.length sd]) := Lib.hid (BS_13.out.below hb BS_13.out.1)
    clear BS_13
    have BX_12 : Hid (Bx w14 (w4.heap.size) [.float .f32 n0, .float .f32 n1, .float .f32 n2, .slice x0 zs0.length d0, .slice x1 zs1.length d1]) := Lib.hid (BX_11.out.below hb BX_11.out.1)
    clear BX_11
    have BG_10 : Hid (Bx w14 (w5.heap.size) [.float .f32 t0, .float .f32 t1, .float .f32 t2, .slice ta Z0.length tc, .slice tb Z1.length td]) := Lib.hid (BG_9.out.below hb BG_9.out.1)
    clear BG_9
    have FM0_5 : Hid (FRow w14 (lo) (mid) (.slice ta Z0.length tc) (marks 1 Z0.length)) := Lib.hid (FM0_4.out.below hb FM0_4.out.2.2)
    clear FM0_4
    have FM1_5 : Hid (FRow w14 (mid) (hi) (.slice tb Z1.length td) (marks (1 + Z0.length) Z1.length)) := Lib.hid (FM1_4.out.below hb FM1_4.out.2.2)
    clear FM1_4
    have FU0_2 : Hid (FRow w14 (lo') (mid') (.slice ua Z0.length uc) Z0) := Lib.hid (FU0_1.out.below hb FU0_1.out.2.2)
    clear FU0_1
    have FU1_2 : Hid (FRow w14 (mid') (hi') (.slice ub Z1.length ud) Z1) := Lib.hid (FU1_1.out.below hb FU1_1.out.2.2)
    clear FU1_1
    have BH_1 : Hid (Bx w14 (w13.heap.size) [.float .f32 u0, .float .f32 u1, .float .f32 u2, .slice ua Z0.length uc, .slice ub Z1.length ud]) := Lib.hid (BH_0.out.below hb BH_0.out.1)
    clear BH_0
    clear hb
    have cHA0 := HA_18.out.c 0 rfl
    have cHA1 := HA_18.out.c 1 rfl
    have cHA2 := HA_18.out.c 2 rfl
    have cHA3 := HA_18.out.c 3 rfl
    have cHA4 := HA_18.out.c 4 rfl
    have cBS0 := BS_14.out.c 0 rfl
    have cBS1 := BS_14.out.c 1 rfl
    have cBS2 := BS_14.out.c 2 rfl
    have cBS3 := BS_14.out.c 3 rfl
    have cBS4 := BS_14.out.c 4 rfl
    have cBX0 := BX_12.out.c 0 rfl
    have cBX1 := BX_12.out.c 1 rfl
    have cBX2 := BX_12.out.c 2 rfl
    have cBX3 := BX_12.out.c 3 rfl
    have cBX4 := BX_12.out.c 4 rfl
    have cBG0 := BG_10.out.c 0 rfl
    have cBG1 := BG_10.out.c 1 rfl
    have cBG2 := BG_10.out.c 2 rfl
    have cBG3 := BG_10.out.c 3 rfl
    have cBG4 := BG_10.out.c 4 rfl
    have cBH0 := BH_1.out.c 0 rfl
    have cBH1 := BH_1.out.c 1 rfl
    have cBH2 := BH_1.out.c 2 rfl
    have cBH3 := BH_1.out.c 3 rfl
    have cBH4 := BH_1.out.c 4 rfl
    go_wp2_with fail
    refine (heldCanal_any lo mid hi 1 Z0.length Z1.length t0 t1 t2 ta tb tc td _ FM0_5.out FM1_5.out tl0 tl1 (by decide)).mono ?_
    rintro e w15 ⟨rfl, hb⟩
    clear cHA0 cHA1 cHA2 cHA3 cHA4 cBS0 cBS1 cBS2 cBS3 cBS4 cBX0 cBX1 cBX2 cBX3 cBX4 cBG0 cBG1 cBG2 cBG3 cBG4 cBH0 cBH1 cBH2 cBH3 cBH4
    have z15 : w14.heap.size + 0 ≤ w15.heap.size := (by have := hb.size; (try simp at this); omega)
    have BB_20 : Hid (Below w.heap.size w w15) := Lib.hid (BB_19.out.trans (hb.mono BB_19.out.size))
    clear BB_19
    have HA_19 : Hid (Bx w15 (w.heap.size) [.float .f32 n0, .float .f32 n1, .float .f32 n2, .slice a0 zs0.length c0, .slice a1 zs1.length c1]) := Lib.hid (HA_18.out.below hb HA_18.out.1)
    clear HA_18
    have B3_16 : Hid (Below w3.heap.size w3 w15) := Lib.hid (B3_15.out.trans (hb.mono B3_15.out.size))
    clear B3_15
    have BS_15 : Hid (Bx w15 (w3.heap.size) [.float .f32 s0, .float .f32 s1, .float .f32 s2, .slice sa Z0.length sc, .slice sb Z1.length sd]) := Lib.hid (BS_14.out.below hb BS_14.out.1)
    clear BS_14
    have BX_13 : Hid (Bx w15 (w4.heap.size) [.float .f32 n0, .float .f32 n1, .float .f32 n2, .slice x0 zs0.length d0, .slice x1 zs1.length d1]) := Lib.hid (BX_12.out.below hb BX_12.out.1)
    clear BX_12
    have BG_11 : Hid (Bx w15 (w5.heap.size) [.float .f32 t0, .float .f32 t1, .float .f32 t2, .slice ta Z0.length tc, .slice tb Z1.length td]) := Lib.hid (BG_10.out.below hb BG_10.out.1)
    clear BG_10
    have FM0_6 : Hid (FRow w15 (lo) (mid) (.slice ta Z0.length tc) (marks 1 Z0.length)) := Lib.hid (FM0_5.out.below hb FM0_5.out.2.2)
    clear FM0_5
    have FM1_6 : Hid (FRow w15 (mid) (hi) (.slice tb Z1.length td) (marks (1 + Z0.length) Z1.length)) := Lib.hid (FM1_5.out.below hb FM1_5.out.2.2)
    clear FM1_5
    have FU0_3 : Hid (FRow w15 (lo') (mid') (.slice ua Z0.length uc) Z0) := Lib.hid (FU0_2.out.below hb FU0_2.out.2.2)
    clear FU0_2
    have FU1_3 : Hid (FRow w15 (mid') (hi') (.slice ub Z1.length ud) Z1) := Lib.hid (FU1_2.out.below hb FU1_2.out.2.2)
    clear FU1_2
    have BH_2 : Hid (Bx w15 (w13.heap.size) [.float .f32 u0, .float .f32 u1, .float .f32 u2, .slice ua Z0.length uc, .slice ub Z1.length ud]) := Lib.hid (BH_1.out.below hb BH_1.out.1)
    clear BH_1
    clear hb
    go_wp2_with fail
    go_ret
    exact ⟨rfl, BB_20.out⟩

set_option maxHeartbeats 1000000 in
theorem walk_FnExactStepCanal (n0 n1 n2 : Nat) (a0 a1 : Option Addr) (l0 l1 c0 c1 : Nat) (zs0 zs1 : List Nat) (x t : Nat) (w : World) (hn0 : n0 < 4294967296) (hn1 : n1 < 4294967296) (hn2 : n2 < 4294967296) (h0 : IsRowF .f32 w a0 l0 c0 zs0) (h1 : IsRowF .f32 w a1 l1 c1 zs1) (hx : x < 4294967296) (ht : t < 4294967296) :
    Calls Try.prog 6 #[.agg #[.float .f32 n0, .float .f32 n1, .float .f32 n2, .slice a0 l0 c0, .slice a1 l1 c1], .float .f32 x, .float .f32 t] w fun e w' => e = .returned (.bool true) ∧ Below w.heap.size w w' := by
  obtain ⟨rfl, hcap0, hmax0, hr0, hz0⟩ := h0
  obtain ⟨rfl, hcap1, hmax1, hr1, hz1⟩ := h1
  unfold maxLen at hmax0 hmax1
  by_cases hsum : zs0.length + zs1.length ≤ 1048576
  · exact stepCanalLaw_fits n0 n1 n2 a0 a1 c0 c1 zs0 zs1 x t w hn0 hn1 hn2 hr0 hz0 hr1 hz1 hx ht hsum
  · have HSz := Lib.hid (szCanal_not n0 n1 n2 a0 a1 zs0.length zs1.length c0 c1 1048576 (by omega) (by omega) (by omega) (by omega) (by omega) (w.alloc (.cells #[.float .f32 n0, .float .f32 n1, .float .f32 n2, .slice a0 zs0.length c0, .slice a1 zs1.length c1] 42)))
    have Hsum := Lib.hid hsum
    clear hr0 hz0 hr1 hz1 hsum
    go_enter Try.func6, Try.ntmps6
    go_wp2_with fail
    refine HSz.out.mono ?_
    rintro e w1 ⟨rfl, hb⟩
    have HB1 : Hid (Below w.heap.size w w1) := Lib.hid ((bel1 w _).trans (hb.mono (by simp)))
    clear hb
    go_wp2_with fail
    go_ret
    exact ⟨rfl, HB1.out⟩
end Go.Proofs.Ytgnkpppbhibfoaa
