/- The walk of the law on RunCanal. -/
import Derived.Test.YtgnkpppbhibfoaaRunCI
import Derived.Test.YtgnkpppbhibfoaaRunCS
import Derived.Test.YtgnkpppbhibfoaaCanalH
import Derived.Test.YtgnkpppbhibfoaaRegionI
import Derived.Test.YtgnkpppbhibfoaaEqF
import Derived.Test.YtgnkpppbhibfoaaMarkF
namespace Go.Proofs.Ytgnkpppbhibfoaa
open Go.RowKit
set_option linter.unusedVariables false
set_option linter.unusedSimpArgs false
set_option maxRecDepth 100000
attribute [local irreducible] wpV wpList Code.wp

structure runCanalInvS (w0 : World) (t0_ t1_ t2_ t3_ t4_ t5_ t6_ t7_ t8_ t9_ t10_ t11_ t12_ t13_ t14_ t15_ t16_ t17_ t18_ t19_ t20_ t21_ t22_ t23_ t24_ t25_ t26_ t27_ t28_ t29_ t30_ t31_ t32_ t33_ t34_ t35_ t36_ t37_ t38_ t39_ t40_ t41_ t42_ t43_ t44_ t45_ t46_ t47_ t48_ t49_ t50_ t51_ t52_ t53_ t54_ t55_ t56_ t57_ t58_ t59_ t60_ t61_ t62_ t63_ t64_ t65_ t66_ t72_ t73_ t74_ t75_ t76_ t77_ t78_ t79_ t80_ t81_ t82_ t83_ t84_ t85_ t86_ t87_ t88_ t89_ t90_ t91_ t92_ t93_ t94_ t95_ t96_ t97_ t98_ t99_ t100_ t101_ t102_ t103_ t104_ t105_ t106_ t107_ t108_ t109_ t110_ t111_ t112_ t113_ t114_ t115_ t116_ t117_ t118_ t119_ t120_ t121_ t122_ t123_ t124_ t125_ t126_ t127_ t128_ t129_ t130_ t131_ t132_ t133_ t134_ t135_ t136_ t137_ t138_ t139_ t140_ t141_ t142_ t143_ t144_ t145_ t146_ t147_ t148_ t149_ t150_ t151_ t152_ t153_ t154_ t155_ t156_ t157_ t158_ : Value) (n0 n1 n2 : Nat) (x0 x1 a0 a1 : Option Addr) (d0 d1 c0 c1 : Nat) (zs0 zs1 : List Nat) (d : Array Bool) (a : Act) (w : World) where
  u67 : Value
  u68 : Value
  u69 : Value
  u70 : Value
  u71 : Value
  ea : a = ⟨#[t0_, t1_, t2_, t3_, t4_, t5_, t6_, t7_, t8_, t9_, t10_, t11_, t12_, t13_, t14_, t15_, t16_, t17_, t18_, t19_, t20_, t21_, t22_, t23_, t24_, t25_, t26_, t27_, t28_, t29_, t30_, t31_, t32_, t33_, t34_, t35_, t36_, t37_, t38_, t39_, t40_, t41_, t42_, t43_, t44_, t45_, t46_, t47_, t48_, t49_, t50_, t51_, t52_, t53_, t54_, t55_, t56_, t57_, t58_, t59_, t60_, t61_, t62_, t63_, t64_, t65_, t66_, u67, u68, u69, u70, u71, t72_, t73_, t74_, t75_, t76_, t77_, t78_, t79_, t80_, t81_, t82_, t83_, t84_, t85_, t86_, t87_, t88_, t89_, t90_, t91_, t92_, t93_, t94_, t95_, t96_, t97_, t98_, t99_, t100_, t101_, t102_, t103_, t104_, t105_, t106_, t107_, t108_, t109_, t110_, t111_, t112_, t113_, t114_, t115_, t116_, t117_, t118_, t119_, t120_, t121_, t122_, t123_, t124_, t125_, t126_, t127_, t128_, t129_, t130_, t131_, t132_, t133_, t134_, t135_, t136_, t137_, t138_, t139_, t140_, t141_, t142_, t143_, t144_, t145_, t146_, t147_, t148_, t149_, t150_, t151_, t152_, t153_, t154_, t155_, t156_, t157_, t158_], []⟩
  f0 : Gd d 0 (u67 = .agg #[.float .f32 n0, .float .f32 n1, .float .f32 n2, .slice x0 zs0.length d0, .slice x1 zs1.length d1])
  f1 : Gd d 1 (u68 = .agg #[.float .f32 n0, .float .f32 n1, .float .f32 n2, .slice a0 zs0.length c0, .slice a1 zs1.length c1])
  f2 : Gd d 2 (∃ e0 e1 k0 k1, u69 = .agg #[.float .f32 n0, .float .f32 n1, .float .f32 n2, .slice e0 zs0.length k0, .slice e1 zs1.length k1] ∧ RowF .f32 w e0 zs0 ∧ RowF .f32 w e1 zs1)
  f3 : Gd d 3 (u70 = .bool true)
  f4 : Gd d 4 (u71 = .bool false)
  hbel : Below w0.heap.size w0 w
def runCanalInv (w0 : World) (t0_ t1_ t2_ t3_ t4_ t5_ t6_ t7_ t8_ t9_ t10_ t11_ t12_ t13_ t14_ t15_ t16_ t17_ t18_ t19_ t20_ t21_ t22_ t23_ t24_ t25_ t26_ t27_ t28_ t29_ t30_ t31_ t32_ t33_ t34_ t35_ t36_ t37_ t38_ t39_ t40_ t41_ t42_ t43_ t44_ t45_ t46_ t47_ t48_ t49_ t50_ t51_ t52_ t53_ t54_ t55_ t56_ t57_ t58_ t59_ t60_ t61_ t62_ t63_ t64_ t65_ t66_ t72_ t73_ t74_ t75_ t76_ t77_ t78_ t79_ t80_ t81_ t82_ t83_ t84_ t85_ t86_ t87_ t88_ t89_ t90_ t91_ t92_ t93_ t94_ t95_ t96_ t97_ t98_ t99_ t100_ t101_ t102_ t103_ t104_ t105_ t106_ t107_ t108_ t109_ t110_ t111_ t112_ t113_ t114_ t115_ t116_ t117_ t118_ t119_ t120_ t121_ t122_ t123_ t124_ t125_ t126_ t127_ t128_ t129_ t130_ t131_ t132_ t133_ t134_ t135_ t136_ t137_ t138_ t139_ t140_ t141_ t142_ t143_ t144_ t145_ t146_ t147_ t148_ t149_ t150_ t151_ t152_ t153_ t154_ t155_ t156_ t157_ t158_ : Value) (n0 n1 n2 : Nat) (x0 x1 a0 a1 : Option Addr) (d0 d1 c0 c1 : Nat) (zs0 zs1 : List Nat) (d : Array Bool) (a : Act) (w : World) : Prop := Nonempty (runCanalInvS w0 t0_ t1_ t2_ t3_ t4_ t5_ t6_ t7_ t8_ t9_ t10_ t11_ t12_ t13_ t14_ t15_ t16_ t17_ t18_ t19_ t20_ t21_ t22_ t23_ t24_ t25_ t26_ t27_ t28_ t29_ t30_ t31_ t32_ t33_ t34_ t35_ t36_ t37_ t38_ t39_ t40_ t41_ t42_ t43_ t44_ t45_ t46_ t47_ t48_ t49_ t50_ t51_ t52_ t53_ t54_ t55_ t56_ t57_ t58_ t59_ t60_ t61_ t62_ t63_ t64_ t65_ t66_ t72_ t73_ t74_ t75_ t76_ t77_ t78_ t79_ t80_ t81_ t82_ t83_ t84_ t85_ t86_ t87_ t88_ t89_ t90_ t91_ t92_ t93_ t94_ t95_ t96_ t97_ t98_ t99_ t100_ t101_ t102_ t103_ t104_ t105_ t106_ t107_ t108_ t109_ t110_ t111_ t112_ t113_ t114_ t115_ t116_ t117_ t118_ t119_ t120_ t121_ t122_ t123_ t124_ t125_ t126_ t127_ t128_ t129_ t130_ t131_ t132_ t133_ t134_ t135_ t136_ t137_ t138_ t139_ t140_ t141_ t142_ t143_ t144_ t145_ t146_ t147_ t148_ t149_ t150_ t151_ t152_ t153_ t154_ t155_ t156_ t157_ t158_ n0 n1 n2 x0 x1 a0 a1 d0 d1 c0 c1 zs0 zs1 d a w)

theorem runCanal_gs {n j : Nat} {p : Prop} : Gd (Array.replicate n false) j p := fun h => by rw [getD_replicate_false] at h; cases h
theorem runCanal_ng {l : Array Bool} {j : Nat} {p : Prop} (h : p) : Ng l j p := fun _ => h
theorem runCanal_gu {l : Array Bool} {i j : Nat} {p : Prop} (h : l.getD j false = false) (hne : i ≠ j) : Gd (l.setIfInBounds i true) j p := fun h9 => by rw [set_ne hne, h] at h9; cases h9
theorem runCanal_sc {P : Program} {l : List Oper} {Inv : Array Bool → Act → World → Prop} {k : Nat} {o : Oper} {rest : List Oper} (j : Nat) (hj : k + 1 = j)
    (h : ∀ d a w, d.size = l.length → Closed l d → Inv d a w → d.getD k false = false → Deps d o.after.toList → wpList P l.toArray (QI fun a' w' => Inv (d.setIfInBounds k true) a' w') [o] a w) (hr : StepAll P l Inv j rest) : StepAll P l Inv k (o :: rest) := by
  subst hj; exact ⟨h, hr⟩

set_option maxHeartbeats 32000000 in
theorem runCanalLaw_fits (n0 n1 n2 : Nat) (a0 a1 : Option Addr) (c0 c1 : Nat) (zs0 zs1 : List Nat) (a2 : Option Addr) (c2 : Nat) (zs2 : List Nat) (t : Nat) (w : World) (hn0 : n0 < 4294967296) (hn1 : n1 < 4294967296) (hn2 : n2 < 4294967296) (hr0 : RowF .f32 w a0 zs0) (hz0 : ∀ z ∈ zs0, z < 4294967296) (hr1 : RowF .f32 w a1 zs1) (hz1 : ∀ z ∈ zs1, z < 4294967296) (hr2 : RowF .f32 w a2 zs2) (hz2 : ∀ z ∈ zs2, z < 4294967296) (ht : t < 4294967296) (hsum : zs0.length + zs1.length ≤ 1048576) (hl2 : zs2.length ≤ 1048576) :
    Calls Try.prog 7 #[.agg #[.float .f32 n0, .float .f32 n1, .float .f32 n2, .slice a0 zs0.length c0, .slice a1 zs1.length c1], .slice a2 zs2.length c2, .float .f32 t] w fun e w' => e = .returned (.bool true) ∧ Below w.heap.size w w' := by
  have hl0 : zs0.length ≤ 1048576 := by omega
  have hl1 : zs1.length ≤ 1048576 := by omega
  obtain ⟨⟨⟨N0, N1, N2, Z0, Z1, B⟩, Z2⟩, hR⟩ : ∃ R, runC (some n0) (some n1) (some n2) zs0 zs1 zs2 (some t) = R := ⟨_, rfl⟩
  have cS : ∀ (a0 a1 a2 : Option Addr) (c0 c1 c2 : Nat) (W : World), RowF .f32 W a0 zs0 → RowF .f32 W a1 zs1 → RowF .f32 W a2 zs2 → Calls Try.prog 33 #[.agg #[.float .f32 n0, .float .f32 n1, .float .f32 n2, .slice a0 zs0.length c0, .slice a1 zs1.length c1], .slice a2 zs2.length c2, .float .f32 t] W (RunS (⟨N0, N1, N2, Z0, Z1, B⟩, Z2) W) := by
    intro a0 a1 a2 c0 c1 c2 W h0' h1' h2'
    have h9 := @runCanal_s _ _ _ _ _ _ _ _ a0 a1 c0 c1 zs0 zs1 a2 c2 zs2 W (Is32.c ht) (Is32.c hn0) (Is32.c hn1) (Is32.c hn2) h0' hl0 hz0 h1' hl1 hz1 h2' hl2 hz2
    rw [hR] at h9
    exact h9
  have cI : ∀ (a0 a1 a2 : Option Addr) (c0 c1 c2 : Nat) (W : World), RowF .f32 W a0 zs0 → RowF .f32 W a1 zs1 → RowF .f32 W a2 zs2 → Calls Try.prog 34 #[.agg #[.float .f32 n0, .float .f32 n1, .float .f32 n2, .slice a0 zs0.length c0, .slice a1 zs1.length c1], .slice a2 zs2.length c2, .float .f32 t] W (RunI (⟨N0, N1, N2, Z0, Z1, B⟩, Z2) W) := by
    intro a0 a1 a2 c0 c1 c2 W h0' h1' h2'
    have h9 := @runCanal_i _ _ _ _ _ _ _ _ a0 a1 c0 c1 zs0 zs1 a2 c2 zs2 W (Is32.c ht) (Is32.c hn0) (Is32.c hn1) (Is32.c hn2) h0' hl0 hz0 h1' hl1 hz1 h2' hl2 hz2
    rw [hR] at h9
    exact h9
  have HS := Lib.hid cS
  have HI := Lib.hid cI
  have H0_ := Lib.hid hr0
  have H1_ := Lib.hid hr1
  have H2_ := Lib.hid hr2
  clear cS cI hR hr0 hr1 hr2 hz0 hz1 hz2
  have hszf : ¬ (1048576 : Int) - (zs0.length : Int) - (zs1.length : Int) < 0 := by omega
  have hsl : ¬ (1048576 : Int) < (zs2.length : Int) := by omega
  cases B
  all_goals
    have BB_0 : Hid (Below w.heap.size w w) := Lib.hid (Below.refl w.heap.size w)
    have H0 : Hid (RowF .f32 w a0 zs0) := Lib.hid (H0_.out)
    have H1 : Hid (RowF .f32 w a1 zs1) := Lib.hid (H1_.out)
    have H2 : Hid (RowF .f32 w a2 zs2) := Lib.hid (H2_.out)
    have BB_1 : Hid (Below w.heap.size w (w.alloc (.cells #[.float .f32 n0, .float .f32 n1, .float .f32 n2, .slice a0 zs0.length c0, .slice a1 zs1.length c1] 42))) := Lib.hid (BB_0.out.alloc BB_0.out.size _)
    clear BB_0
    have HA_0 : Hid (Bx (w.alloc (.cells #[.float .f32 n0, .float .f32 n1, .float .f32 n2, .slice a0 zs0.length c0, .slice a1 zs1.length c1] 42)) (w.heap.size) [.float .f32 n0, .float .f32 n1, .float .f32 n2, .slice a0 zs0.length c0, .slice a1 zs1.length c1]) := Lib.hid (Bx.new w [.float .f32 n0, .float .f32 n1, .float .f32 n2, .slice a0 zs0.length c0, .slice a1 zs1.length c1] 42)
    go_enter Try.func7, Try.ntmps7
    have cHA0 := HA_0.out.c 0 rfl
    have cHA1 := HA_0.out.c 1 rfl
    have cHA2 := HA_0.out.c 2 rfl
    have cHA3 := HA_0.out.c 3 rfl
    have cHA4 := HA_0.out.c 4 rfl
    go_wp2_with fail
    refine (szCanal_fits n0 n1 n2 a0 a1 zs0.length zs1.length c0 c1 _ (by omega) (by omega) _).mono ?_
    rintro e w1 ⟨rfl, hb⟩
    clear cHA0 cHA1 cHA2 cHA3 cHA4
    have z1 : w.heap.size + 1 ≤ w1.heap.size := (by have := hb.size; (try simp at this); omega)
    have BB_2 : Hid (Below w.heap.size w w1) := Lib.hid (BB_1.out.trans (hb.mono BB_1.out.size))
    clear BB_1
    have HA_1 : Hid (Bx w1 (w.heap.size) [.float .f32 n0, .float .f32 n1, .float .f32 n2, .slice a0 zs0.length c0, .slice a1 zs1.length c1]) := Lib.hid (HA_0.out.below hb HA_0.out.1)
    clear HA_0
    clear hb
    have cHA0 := HA_1.out.c 0 rfl
    have cHA1 := HA_1.out.c 1 rfl
    have cHA2 := HA_1.out.c 2 rfl
    have cHA3 := HA_1.out.c 3 rfl
    have cHA4 := HA_1.out.c 4 rfl
    go_wp2_with fail
    refine (toCanal_any n0 n1 n2 a0 a1 c0 c1 zs0 zs1 _ (H0.out.below BB_2.out (Nat.le_refl _)) hl0 (H1.out.below BB_2.out (Nat.le_refl _)) hl1).mono ?_
    rintro e w2 ⟨e0, k0, e1, k1, mid, rfl, hb, hf0, hf1, hm1, hm2⟩
    clear cHA0 cHA1 cHA2 cHA3 cHA4
    have z2 : w1.heap.size + 0 ≤ w2.heap.size := (by have := hb.size; (try simp at this); omega)
    have BB_3 : Hid (Below w.heap.size w w2) := Lib.hid (BB_2.out.trans (hb.mono BB_2.out.size))
    clear BB_2
    have HA_2 : Hid (Bx w2 (w.heap.size) [.float .f32 n0, .float .f32 n1, .float .f32 n2, .slice a0 zs0.length c0, .slice a1 zs1.length c1]) := Lib.hid (HA_1.out.below hb HA_1.out.1)
    clear HA_1
    clear hb
    have FE0_0 : Hid (FRow w2 (0) (mid) (.slice e0 zs0.length k0) zs0) := Lib.hid (hf0.mono (Nat.zero_le _) (Nat.le_refl _) hf0.2.2)
    have FE1_0 : Hid (FRow w2 (0) (w2.heap.size) (.slice e1 zs1.length k1) zs1) := Lib.hid (hf1.mono (Nat.zero_le _) (Nat.le_refl _) hf1.2.2)
    clear hf0 hf1 hm1 hm2
    have cHA0 := HA_2.out.c 0 rfl
    have cHA1 := HA_2.out.c 1 rfl
    have cHA2 := HA_2.out.c 2 rfl
    have cHA3 := HA_2.out.c 3 rfl
    have cHA4 := HA_2.out.c 4 rfl
    go_wp2_with fail
    refine (copyF_any a2 c2 zs2 _ (H2.out.below BB_3.out (Nat.le_refl _)) hl2).mono ?_
    rintro e w3 ⟨e2, k2, rfl, hb, hf2⟩
    clear cHA0 cHA1 cHA2 cHA3 cHA4
    have z3 : w2.heap.size + 0 ≤ w3.heap.size := (by have := hb.size; (try simp at this); omega)
    have BB_4 : Hid (Below w.heap.size w w3) := Lib.hid (BB_3.out.trans (hb.mono BB_3.out.size))
    clear BB_3
    have HA_3 : Hid (Bx w3 (w.heap.size) [.float .f32 n0, .float .f32 n1, .float .f32 n2, .slice a0 zs0.length c0, .slice a1 zs1.length c1]) := Lib.hid (HA_2.out.below hb HA_2.out.1)
    clear HA_2
    have FE0_1 : Hid (FRow w3 (0) (mid) (.slice e0 zs0.length k0) zs0) := Lib.hid (FE0_0.out.below hb FE0_0.out.2.2)
    clear FE0_0
    have FE1_1 : Hid (FRow w3 (0) (w2.heap.size) (.slice e1 zs1.length k1) zs1) := Lib.hid (FE1_0.out.below hb FE1_0.out.2.2)
    clear FE1_0
    clear hb
    have FE2 := Lib.hid hf2.row
    clear hf2
    have cHA0 := HA_3.out.c 0 rfl
    have cHA1 := HA_3.out.c 1 rfl
    have cHA2 := HA_3.out.c 2 rfl
    have cHA3 := HA_3.out.c 3 rfl
    have cHA4 := HA_3.out.c 4 rfl
    go_wp2_with fail
    refine (HS.out e0 e1 e2 k0 k1 k2 _ FE0_1.out.row FE1_1.out.row FE2.out).mono ?_
    rintro e w4 ⟨s0, s1, s2, sa, sc, sb, sd, sx, sy, rfl, ⟨si0, si1, si2⟩, sr0, sr1, sr2, sl0, sl1, sl2, hb⟩
    clear cHA0 cHA1 cHA2 cHA3 cHA4
    have z4 : w3.heap.size + 0 ≤ w4.heap.size := (by have := hb.size; (try simp at this); omega)
    have BB_5 : Hid (Below w.heap.size w w4) := Lib.hid (BB_4.out.trans (hb.mono BB_4.out.size))
    clear BB_4
    have HA_4 : Hid (Bx w4 (w.heap.size) [.float .f32 n0, .float .f32 n1, .float .f32 n2, .slice a0 zs0.length c0, .slice a1 zs1.length c1]) := Lib.hid (HA_3.out.below hb HA_3.out.1)
    clear HA_3
    have FE0_2 : Hid (FRow w4 (0) (mid) (.slice e0 zs0.length k0) zs0) := Lib.hid (FE0_1.out.below hb FE0_1.out.2.2)
    clear FE0_1
    have FE1_2 : Hid (FRow w4 (0) (w2.heap.size) (.slice e1 zs1.length k1) zs1) := Lib.hid (FE1_1.out.below hb FE1_1.out.2.2)
    clear FE1_1
    simp only at si0 si1 si2 sr0 sr1 sr2 sl0 sl1 sl2 ⊢
    clear FE2
    clear hb
    clear FE0_2 FE1_2
    have BQ_0 : Hid (Below w4.heap.size w4 w4) := Lib.hid (Below.refl w4.heap.size w4)
    have RS0 : Hid (RowF .f32 w4 sa Z0) := Lib.hid (sr0)
    have RS1 : Hid (RowF .f32 w4 sb Z1) := Lib.hid (sr1)
    have RS2 : Hid (RowF .f32 w4 sx Z2) := Lib.hid (sr2)
    clear sr0 sr1 sr2
    have BB_6 : Hid (Below w.heap.size w (w4.alloc (.cells #[.float .f32 s0, .float .f32 s1, .float .f32 s2, .slice sa Z0.length sc, .slice sb Z1.length sd] 36))) := Lib.hid (BB_5.out.alloc BB_5.out.size _)
    clear BB_5
    have HA_5 : Hid (Bx (w4.alloc (.cells #[.float .f32 s0, .float .f32 s1, .float .f32 s2, .slice sa Z0.length sc, .slice sb Z1.length sd] 36)) (w.heap.size) [.float .f32 n0, .float .f32 n1, .float .f32 n2, .slice a0 zs0.length c0, .slice a1 zs1.length c1]) := Lib.hid (HA_4.out.alloc _)
    clear HA_4
    have BQ_1 : Hid (Below w4.heap.size w4 (w4.alloc (.cells #[.float .f32 s0, .float .f32 s1, .float .f32 s2, .slice sa Z0.length sc, .slice sb Z1.length sd] 36))) := Lib.hid (BQ_0.out.alloc BQ_0.out.size _)
    clear BQ_0
    have BS_0 : Hid (Bx (w4.alloc (.cells #[.float .f32 s0, .float .f32 s1, .float .f32 s2, .slice sa Z0.length sc, .slice sb Z1.length sd] 36)) (w4.heap.size) [.float .f32 s0, .float .f32 s1, .float .f32 s2, .slice sa Z0.length sc, .slice sb Z1.length sd]) := Lib.hid (Bx.new w4 [.float .f32 s0, .float .f32 s1, .float .f32 s2, .slice sa Z0.length sc, .slice sb Z1.length sd] 36)
    have cHA0 := HA_5.out.c 0 rfl
    have cHA1 := HA_5.out.c 1 rfl
    have cHA2 := HA_5.out.c 2 rfl
    have cHA3 := HA_5.out.c 3 rfl
    have cHA4 := HA_5.out.c 4 rfl
    have cBS0 := BS_0.out.c 0 rfl
    have cBS1 := BS_0.out.c 1 rfl
    have cBS2 := BS_0.out.c 2 rfl
    have cBS3 := BS_0.out.c 3 rfl
    have cBS4 := BS_0.out.c 4 rfl
    go_wp2_with fail
    refine (toCanal_any n0 n1 n2 a0 a1 c0 c1 zs0 zs1 _ (H0.out.below BB_6.out (Nat.le_refl _)) hl0 (H1.out.below BB_6.out (Nat.le_refl _)) hl1).mono ?_
    rintro e w5 ⟨x0, d0, x1, d1, midx, rfl, hb, hf0, hf1, hm1, hm2⟩
    clear cHA0 cHA1 cHA2 cHA3 cHA4 cBS0 cBS1 cBS2 cBS3 cBS4
    have z5 : w4.heap.size + 1 ≤ w5.heap.size := (by have := hb.size; (try simp at this); omega)
    have BB_7 : Hid (Below w.heap.size w w5) := Lib.hid (BB_6.out.trans (hb.mono BB_6.out.size))
    clear BB_6
    have HA_6 : Hid (Bx w5 (w.heap.size) [.float .f32 n0, .float .f32 n1, .float .f32 n2, .slice a0 zs0.length c0, .slice a1 zs1.length c1]) := Lib.hid (HA_5.out.below hb HA_5.out.1)
    clear HA_5
    have BQ_2 : Hid (Below w4.heap.size w4 w5) := Lib.hid (BQ_1.out.trans (hb.mono BQ_1.out.size))
    clear BQ_1
    have BS_1 : Hid (Bx w5 (w4.heap.size) [.float .f32 s0, .float .f32 s1, .float .f32 s2, .slice sa Z0.length sc, .slice sb Z1.length sd]) := Lib.hid (BS_0.out.below hb BS_0.out.1)
    clear BS_0
    clear hb
    have hx1 : w4.heap.size + 1 ≤ midx := (by have := hm1; (try simp at this); omega)
    have hx2 : midx ≤ w5.heap.size := hm2
    have FX0_0 : Hid (FRow w5 (w4.heap.size + 1) (midx) (.slice x0 zs0.length d0) zs0) := Lib.hid (hf0.mono (lo' := w4.heap.size + 1) (by first | (simp; done) | (simp; omega) | omega) (Nat.le_refl _) hf0.2.2)
    have FX1_0 : Hid (FRow w5 (midx) (w5.heap.size) (.slice x1 zs1.length d1) zs1) := Lib.hid (hf1)
    clear hf0 hf1 hm1 hm2
    have BB_8 : Hid (Below w.heap.size w (w5.alloc (.cells #[.float .f32 n0, .float .f32 n1, .float .f32 n2, .slice x0 zs0.length d0, .slice x1 zs1.length d1] 36))) := Lib.hid (BB_7.out.alloc BB_7.out.size _)
    clear BB_7
    have HA_7 : Hid (Bx (w5.alloc (.cells #[.float .f32 n0, .float .f32 n1, .float .f32 n2, .slice x0 zs0.length d0, .slice x1 zs1.length d1] 36)) (w.heap.size) [.float .f32 n0, .float .f32 n1, .float .f32 n2, .slice a0 zs0.length c0, .slice a1 zs1.length c1]) := Lib.hid (HA_6.out.alloc _)
    clear HA_6
    have BQ_3 : Hid (Below w4.heap.size w4 (w5.alloc (.cells #[.float .f32 n0, .float .f32 n1, .float .f32 n2, .slice x0 zs0.length d0, .slice x1 zs1.length d1] 36))) := Lib.hid (BQ_2.out.alloc BQ_2.out.size _)
    clear BQ_2
    have BS_2 : Hid (Bx (w5.alloc (.cells #[.float .f32 n0, .float .f32 n1, .float .f32 n2, .slice x0 zs0.length d0, .slice x1 zs1.length d1] 36)) (w4.heap.size) [.float .f32 s0, .float .f32 s1, .float .f32 s2, .slice sa Z0.length sc, .slice sb Z1.length sd]) := Lib.hid (BS_1.out.alloc _)
    clear BS_1
    have FX0_1 : Hid (FRow (w5.alloc (.cells #[.float .f32 n0, .float .f32 n1, .float .f32 n2, .slice x0 zs0.length d0, .slice x1 zs1.length d1] 36)) (w4.heap.size + 1) (midx) (.slice x0 zs0.length d0) zs0) := Lib.hid (FX0_0.out.alloc _)
    clear FX0_0
    have FX1_1 : Hid (FRow (w5.alloc (.cells #[.float .f32 n0, .float .f32 n1, .float .f32 n2, .slice x0 zs0.length d0, .slice x1 zs1.length d1] 36)) (midx) (w5.heap.size) (.slice x1 zs1.length d1) zs1) := Lib.hid (FX1_0.out.alloc _)
    clear FX1_0
    have BX_0 : Hid (Bx (w5.alloc (.cells #[.float .f32 n0, .float .f32 n1, .float .f32 n2, .slice x0 zs0.length d0, .slice x1 zs1.length d1] 36)) (w5.heap.size) [.float .f32 n0, .float .f32 n1, .float .f32 n2, .slice x0 zs0.length d0, .slice x1 zs1.length d1]) := Lib.hid (Bx.new w5 [.float .f32 n0, .float .f32 n1, .float .f32 n2, .slice x0 zs0.length d0, .slice x1 zs1.length d1] 36)
    have cHA0 := HA_7.out.c 0 rfl
    have cHA1 := HA_7.out.c 1 rfl
    have cHA2 := HA_7.out.c 2 rfl
    have cHA3 := HA_7.out.c 3 rfl
    have cHA4 := HA_7.out.c 4 rfl
    have cBS0 := BS_2.out.c 0 rfl
    have cBS1 := BS_2.out.c 1 rfl
    have cBS2 := BS_2.out.c 2 rfl
    have cBS3 := BS_2.out.c 3 rfl
    have cBS4 := BS_2.out.c 4 rfl
    have cBX0 := BX_0.out.c 0 rfl
    have cBX1 := BX_0.out.c 1 rfl
    have cBX2 := BX_0.out.c 2 rfl
    have cBX3 := BX_0.out.c 3 rfl
    have cBX4 := BX_0.out.c 4 rfl
    go_wp2_with fail
    refine (copyF_any a2 c2 zs2 _ (H2.out.below BB_8.out (Nat.le_refl _)) hl2).mono ?_
    rintro e w6 ⟨x2, d2, rfl, hb, hf2⟩
    clear cHA0 cHA1 cHA2 cHA3 cHA4 cBS0 cBS1 cBS2 cBS3 cBS4 cBX0 cBX1 cBX2 cBX3 cBX4
    have z6 : w5.heap.size + 1 ≤ w6.heap.size := (by have := hb.size; (try simp at this); omega)
    have BB_9 : Hid (Below w.heap.size w w6) := Lib.hid (BB_8.out.trans (hb.mono BB_8.out.size))
    clear BB_8
    have HA_8 : Hid (Bx w6 (w.heap.size) [.float .f32 n0, .float .f32 n1, .float .f32 n2, .slice a0 zs0.length c0, .slice a1 zs1.length c1]) := Lib.hid (HA_7.out.below hb HA_7.out.1)
    clear HA_7
    have BQ_4 : Hid (Below w4.heap.size w4 w6) := Lib.hid (BQ_3.out.trans (hb.mono BQ_3.out.size))
    clear BQ_3
    have BS_3 : Hid (Bx w6 (w4.heap.size) [.float .f32 s0, .float .f32 s1, .float .f32 s2, .slice sa Z0.length sc, .slice sb Z1.length sd]) := Lib.hid (BS_2.out.below hb BS_2.out.1)
    clear BS_2
    have FX0_2 : Hid (FRow w6 (w4.heap.size + 1) (midx) (.slice x0 zs0.length d0) zs0) := Lib.hid (FX0_1.out.below hb FX0_1.out.2.2)
    clear FX0_1
    have FX1_2 : Hid (FRow w6 (midx) (w5.heap.size) (.slice x1 zs1.length d1) zs1) := Lib.hid (FX1_1.out.below hb FX1_1.out.2.2)
    clear FX1_1
    have BX_1 : Hid (Bx w6 (w5.heap.size) [.float .f32 n0, .float .f32 n1, .float .f32 n2, .slice x0 zs0.length d0, .slice x1 zs1.length d1]) := Lib.hid (BX_0.out.below hb BX_0.out.1)
    clear BX_0
    clear hb
    have FX2_0 : Hid (FRow w6 (w5.heap.size + 1) (w6.heap.size) (.slice x2 zs2.length d2) zs2) := Lib.hid (hf2.mono (lo' := w5.heap.size + 1) (by first | (simp; done) | (simp; omega) | omega) (Nat.le_refl _) hf2.2.2)
    clear hf2
    have cHA0 := HA_8.out.c 0 rfl
    have cHA1 := HA_8.out.c 1 rfl
    have cHA2 := HA_8.out.c 2 rfl
    have cHA3 := HA_8.out.c 3 rfl
    have cHA4 := HA_8.out.c 4 rfl
    have cBS0 := BS_3.out.c 0 rfl
    have cBS1 := BS_3.out.c 1 rfl
    have cBS2 := BS_3.out.c 2 rfl
    have cBS3 := BS_3.out.c 3 rfl
    have cBS4 := BS_3.out.c 4 rfl
    have cBX0 := BX_1.out.c 0 rfl
    have cBX1 := BX_1.out.c 1 rfl
    have cBX2 := BX_1.out.c 2 rfl
    have cBX3 := BX_1.out.c 3 rfl
    have cBX4 := BX_1.out.c 4 rfl
    go_wp2_with fail
    refine (HI.out x0 x1 x2 d0 d1 d2 _ FX0_2.out.row FX1_2.out.row FX2_0.out.row).mono ?_
    rintro e w7 ⟨t0, t1, t2, ta, tc, tb, td, tx, ty, lo, mid', hi, lo2, hi2, rfl, ⟨ti0, ti1, ti2⟩, fr0, fr1, fr2, hord, tl0, tl1, tl2, hb⟩
    clear cHA0 cHA1 cHA2 cHA3 cHA4 cBS0 cBS1 cBS2 cBS3 cBS4 cBX0 cBX1 cBX2 cBX3 cBX4
    have z7 : w6.heap.size + 0 ≤ w7.heap.size := (by have := hb.size; (try simp at this); omega)
    have BB_10 : Hid (Below w.heap.size w w7) := Lib.hid (BB_9.out.trans (hb.mono BB_9.out.size))
    clear BB_9
    have HA_9 : Hid (Bx w7 (w.heap.size) [.float .f32 n0, .float .f32 n1, .float .f32 n2, .slice a0 zs0.length c0, .slice a1 zs1.length c1]) := Lib.hid (HA_8.out.below hb HA_8.out.1)
    clear HA_8
    have BQ_5 : Hid (Below w4.heap.size w4 w7) := Lib.hid (BQ_4.out.trans (hb.mono BQ_4.out.size))
    clear BQ_4
    have BS_4 : Hid (Bx w7 (w4.heap.size) [.float .f32 s0, .float .f32 s1, .float .f32 s2, .slice sa Z0.length sc, .slice sb Z1.length sd]) := Lib.hid (BS_3.out.below hb BS_3.out.1)
    clear BS_3
    have FX0_3 : Hid (FRow w7 (w4.heap.size + 1) (midx) (.slice x0 zs0.length d0) zs0) := Lib.hid (FX0_2.out.below hb FX0_2.out.2.2)
    clear FX0_2
    have FX1_3 : Hid (FRow w7 (midx) (w5.heap.size) (.slice x1 zs1.length d1) zs1) := Lib.hid (FX1_2.out.below hb FX1_2.out.2.2)
    clear FX1_2
    have BX_2 : Hid (Bx w7 (w5.heap.size) [.float .f32 n0, .float .f32 n1, .float .f32 n2, .slice x0 zs0.length d0, .slice x1 zs1.length d1]) := Lib.hid (BX_1.out.below hb BX_1.out.1)
    clear BX_1
    have FX2_1 : Hid (FRow w7 (w5.heap.size + 1) (w6.heap.size) (.slice x2 zs2.length d2) zs2) := Lib.hid (FX2_0.out.below hb FX2_0.out.2.2)
    clear FX2_0
    simp only at ti0 ti1 ti2 fr0 fr1 fr2 tl0 tl1 tl2 ⊢
    obtain ⟨hl_1, hl_2, hl_3, hl_4, hl_5, hl_6, hl_7, hl_8⟩ := hord
    clear hb
    have FG0_0 : Hid (FRow w7 (lo) (mid') (.slice ta Z0.length tc) Z0) := Lib.hid (fr0)
    have FG1_0 : Hid (FRow w7 (mid') (hi) (.slice tb Z1.length td) Z1) := Lib.hid (fr1)
    have FG2_0 : Hid (FRow w7 (lo2) (hi2) (.slice tx Z2.length ty) Z2) := Lib.hid (fr2)
    clear fr0 fr1 fr2
    have BB_11 : Hid (Below w.heap.size w (w7.alloc (.cells #[.float .f32 t0, .float .f32 t1, .float .f32 t2, .slice ta Z0.length tc, .slice tb Z1.length td] 36))) := Lib.hid (BB_10.out.alloc BB_10.out.size _)
    clear BB_10
    have HA_10 : Hid (Bx (w7.alloc (.cells #[.float .f32 t0, .float .f32 t1, .float .f32 t2, .slice ta Z0.length tc, .slice tb Z1.length td] 36)) (w.heap.size) [.float .f32 n0, .float .f32 n1, .float .f32 n2, .slice a0 zs0.length c0, .slice a1 zs1.length c1]) := Lib.hid (HA_9.out.alloc _)
    clear HA_9
    have BQ_6 : Hid (Below w4.heap.size w4 (w7.alloc (.cells #[.float .f32 t0, .float .f32 t1, .float .f32 t2, .slice ta Z0.length tc, .slice tb Z1.length td] 36))) := Lib.hid (BQ_5.out.alloc BQ_5.out.size _)
    clear BQ_5
    have BS_5 : Hid (Bx (w7.alloc (.cells #[.float .f32 t0, .float .f32 t1, .float .f32 t2, .slice ta Z0.length tc, .slice tb Z1.length td] 36)) (w4.heap.size) [.float .f32 s0, .float .f32 s1, .float .f32 s2, .slice sa Z0.length sc, .slice sb Z1.length sd]) := Lib.hid (BS_4.out.alloc _)
    clear BS_4
    have FX0_4 : Hid (FRow (w7.alloc (.cells #[.float .f32 t0, .float .f32 t1, .float .f32 t2, .slice ta Z0.length tc, .slice tb Z1.length td] 36)) (w4.heap.size + 1) (midx) (.slice x0 zs0.length d0) zs0) := Lib.hid (FX0_3.out.alloc _)
    clear FX0_3
    have FX1_4 : Hid (FRow (w7.alloc (.cells #[.float .f32 t0, .float .f32 t1, .float .f32 t2, .slice ta Z0.length tc, .slice tb Z1.length td] 36)) (midx) (w5.heap.size) (.slice x1 zs1.length d1) zs1) := Lib.hid (FX1_3.out.alloc _)
    clear FX1_3
    have BX_3 : Hid (Bx (w7.alloc (.cells #[.float .f32 t0, .float .f32 t1, .float .f32 t2, .slice ta Z0.length tc, .slice tb Z1.length td] 36)) (w5.heap.size) [.float .f32 n0, .float .f32 n1, .float .f32 n2, .slice x0 zs0.length d0, .slice x1 zs1.length d1]) := Lib.hid (BX_2.out.alloc _)
    clear BX_2
    have FX2_2 : Hid (FRow (w7.alloc (.cells #[.float .f32 t0, .float .f32 t1, .float .f32 t2, .slice ta Z0.length tc, .slice tb Z1.length td] 36)) (w5.heap.size + 1) (w6.heap.size) (.slice x2 zs2.length d2) zs2) := Lib.hid (FX2_1.out.alloc _)
    clear FX2_1
    have FG0_1 : Hid (FRow (w7.alloc (.cells #[.float .f32 t0, .float .f32 t1, .float .f32 t2, .slice ta Z0.length tc, .slice tb Z1.length td] 36)) (lo) (mid') (.slice ta Z0.length tc) Z0) := Lib.hid (FG0_0.out.alloc _)
    clear FG0_0
    have FG1_1 : Hid (FRow (w7.alloc (.cells #[.float .f32 t0, .float .f32 t1, .float .f32 t2, .slice ta Z0.length tc, .slice tb Z1.length td] 36)) (mid') (hi) (.slice tb Z1.length td) Z1) := Lib.hid (FG1_0.out.alloc _)
    clear FG1_0
    have FG2_1 : Hid (FRow (w7.alloc (.cells #[.float .f32 t0, .float .f32 t1, .float .f32 t2, .slice ta Z0.length tc, .slice tb Z1.length td] 36)) (lo2) (hi2) (.slice tx Z2.length ty) Z2) := Lib.hid (FG2_0.out.alloc _)
    clear FG2_0
    have BG_0 : Hid (Bx (w7.alloc (.cells #[.float .f32 t0, .float .f32 t1, .float .f32 t2, .slice ta Z0.length tc, .slice tb Z1.length td] 36)) (w7.heap.size) [.float .f32 t0, .float .f32 t1, .float .f32 t2, .slice ta Z0.length tc, .slice tb Z1.length td]) := Lib.hid (Bx.new w7 [.float .f32 t0, .float .f32 t1, .float .f32 t2, .slice ta Z0.length tc, .slice tb Z1.length td] 36)
    have cHA0 := HA_10.out.c 0 rfl
    have cHA1 := HA_10.out.c 1 rfl
    have cHA2 := HA_10.out.c 2 rfl
    have cHA3 := HA_10.out.c 3 rfl
    have cHA4 := HA_10.out.c 4 rfl
    have cBS0 := BS_5.out.c 0 rfl
    have cBS1 := BS_5.out.c 1 rfl
    have cBS2 := BS_5.out.c 2 rfl
    have cBS3 := BS_5.out.c 3 rfl
    have cBS4 := BS_5.out.c 4 rfl
    have cBX0 := BX_3.out.c 0 rfl
    have cBX1 := BX_3.out.c 1 rfl
    have cBX2 := BX_3.out.c 2 rfl
    have cBX3 := BX_3.out.c 3 rfl
    have cBX4 := BX_3.out.c 4 rfl
    have cBG0 := BG_0.out.c 0 rfl
    have cBG1 := BG_0.out.c 1 rfl
    have cBG2 := BG_0.out.c 2 rfl
    have cBG3 := BG_0.out.c 3 rfl
    have cBG4 := BG_0.out.c 4 rfl
    go_wp2_with fail
    refine (eqCanal_any ta tb sa sb tc td sc sd Z0 Z1 _ ti0 si0 ti1 si1 ti2 si2 FG0_1.out.row (RS0.out.below BQ_6.out (Nat.le_refl _)) tl0 FG1_1.out.row (RS1.out.below BQ_6.out (Nat.le_refl _)) tl1).mono ?_
    rintro e w8 ⟨rfl, hb⟩
    clear cHA0 cHA1 cHA2 cHA3 cHA4 cBS0 cBS1 cBS2 cBS3 cBS4 cBX0 cBX1 cBX2 cBX3 cBX4 cBG0 cBG1 cBG2 cBG3 cBG4
    have z8 : w7.heap.size + 1 ≤ w8.heap.size := (by have := hb.size; (try simp at this); omega)
    have BB_12 : Hid (Below w.heap.size w w8) := Lib.hid (BB_11.out.trans (hb.mono BB_11.out.size))
    clear BB_11
    have HA_11 : Hid (Bx w8 (w.heap.size) [.float .f32 n0, .float .f32 n1, .float .f32 n2, .slice a0 zs0.length c0, .slice a1 zs1.length c1]) := Lib.hid (HA_10.out.below hb HA_10.out.1)
    clear HA_10
    have BQ_7 : Hid (Below w4.heap.size w4 w8) := Lib.hid (BQ_6.out.trans (hb.mono BQ_6.out.size))
    clear BQ_6
    have BS_6 : Hid (Bx w8 (w4.heap.size) [.float .f32 s0, .float .f32 s1, .float .f32 s2, .slice sa Z0.length sc, .slice sb Z1.length sd]) := Lib.hid (BS_5.out.below hb BS_5.out.1)
    clear BS_5
    have FX0_5 : Hid (FRow w8 (w4.heap.size + 1) (midx) (.slice x0 zs0.length d0) zs0) := Lib.hid (FX0_4.out.below hb FX0_4.out.2.2)
    clear FX0_4
    have FX1_5 : Hid (FRow w8 (midx) (w5.heap.size) (.slice x1 zs1.length d1) zs1) := Lib.hid (FX1_4.out.below hb FX1_4.out.2.2)
    clear FX1_4
    have BX_4 : Hid (Bx w8 (w5.heap.size) [.float .f32 n0, .float .f32 n1, .float .f32 n2, .slice x0 zs0.length d0, .slice x1 zs1.length d1]) := Lib.hid (BX_3.out.below hb BX_3.out.1)
    clear BX_3
    have FX2_3 : Hid (FRow w8 (w5.heap.size + 1) (w6.heap.size) (.slice x2 zs2.length d2) zs2) := Lib.hid (FX2_2.out.below hb FX2_2.out.2.2)
    clear FX2_2
    have FG0_2 : Hid (FRow w8 (lo) (mid') (.slice ta Z0.length tc) Z0) := Lib.hid (FG0_1.out.below hb FG0_1.out.2.2)
    clear FG0_1
    have FG1_2 : Hid (FRow w8 (mid') (hi) (.slice tb Z1.length td) Z1) := Lib.hid (FG1_1.out.below hb FG1_1.out.2.2)
    clear FG1_1
    have FG2_2 : Hid (FRow w8 (lo2) (hi2) (.slice tx Z2.length ty) Z2) := Lib.hid (FG2_1.out.below hb FG2_1.out.2.2)
    clear FG2_1
    have BG_1 : Hid (Bx w8 (w7.heap.size) [.float .f32 t0, .float .f32 t1, .float .f32 t2, .slice ta Z0.length tc, .slice tb Z1.length td]) := Lib.hid (BG_0.out.below hb BG_0.out.1)
    clear BG_0
    clear hb
    have cHA0 := HA_11.out.c 0 rfl
    have cHA1 := HA_11.out.c 1 rfl
    have cHA2 := HA_11.out.c 2 rfl
    have cHA3 := HA_11.out.c 3 rfl
    have cHA4 := HA_11.out.c 4 rfl
    have cBS0 := BS_6.out.c 0 rfl
    have cBS1 := BS_6.out.c 1 rfl
    have cBS2 := BS_6.out.c 2 rfl
    have cBS3 := BS_6.out.c 3 rfl
    have cBS4 := BS_6.out.c 4 rfl
    have cBX0 := BX_4.out.c 0 rfl
    have cBX1 := BX_4.out.c 1 rfl
    have cBX2 := BX_4.out.c 2 rfl
    have cBX3 := BX_4.out.c 3 rfl
    have cBX4 := BX_4.out.c 4 rfl
    have cBG0 := BG_1.out.c 0 rfl
    have cBG1 := BG_1.out.c 1 rfl
    have cBG2 := BG_1.out.c 2 rfl
    have cBG3 := BG_1.out.c 3 rfl
    have cBG4 := BG_1.out.c 4 rfl
    go_wp2_with fail
    refine (eqF_b tx sx ty sy Z2 _ FG2_2.out.row (RS2.out.below BQ_7.out (Nat.le_refl _)) tl2).mono ?_
    rintro e w9 ⟨rfl, hb⟩
    clear cHA0 cHA1 cHA2 cHA3 cHA4 cBS0 cBS1 cBS2 cBS3 cBS4 cBX0 cBX1 cBX2 cBX3 cBX4 cBG0 cBG1 cBG2 cBG3 cBG4
    have z9 : w8.heap.size + 0 ≤ w9.heap.size := (by have := hb.size; (try simp at this); omega)
    have BB_13 : Hid (Below w.heap.size w w9) := Lib.hid (BB_12.out.trans (hb.mono BB_12.out.size))
    clear BB_12
    have HA_12 : Hid (Bx w9 (w.heap.size) [.float .f32 n0, .float .f32 n1, .float .f32 n2, .slice a0 zs0.length c0, .slice a1 zs1.length c1]) := Lib.hid (HA_11.out.below hb HA_11.out.1)
    clear HA_11
    have BQ_8 : Hid (Below w4.heap.size w4 w9) := Lib.hid (BQ_7.out.trans (hb.mono BQ_7.out.size))
    clear BQ_7
    have BS_7 : Hid (Bx w9 (w4.heap.size) [.float .f32 s0, .float .f32 s1, .float .f32 s2, .slice sa Z0.length sc, .slice sb Z1.length sd]) := Lib.hid (BS_6.out.below hb BS_6.out.1)
    clear BS_6
    have FX0_6 : Hid (FRow w9 (w4.heap.size + 1) (midx) (.slice x0 zs0.length d0) zs0) := Lib.hid (FX0_5.out.below hb FX0_5.out.2.2)
    clear FX0_5
    have FX1_6 : Hid (FRow w9 (midx) (w5.heap.size) (.slice x1 zs1.length d1) zs1) := Lib.hid (FX1_5.out.below hb FX1_5.out.2.2)
    clear FX1_5
    have BX_5 : Hid (Bx w9 (w5.heap.size) [.float .f32 n0, .float .f32 n1, .float .f32 n2, .slice x0 zs0.length d0, .slice x1 zs1.length d1]) := Lib.hid (BX_4.out.below hb BX_4.out.1)
    clear BX_4
    have FX2_4 : Hid (FRow w9 (w5.heap.size + 1) (w6.heap.size) (.slice x2 zs2.length d2) zs2) := Lib.hid (FX2_3.out.below hb FX2_3.out.2.2)
    clear FX2_3
    have FG0_3 : Hid (FRow w9 (lo) (mid') (.slice ta Z0.length tc) Z0) := Lib.hid (FG0_2.out.below hb FG0_2.out.2.2)
    clear FG0_2
    have FG1_3 : Hid (FRow w9 (mid') (hi) (.slice tb Z1.length td) Z1) := Lib.hid (FG1_2.out.below hb FG1_2.out.2.2)
    clear FG1_2
    have FG2_3 : Hid (FRow w9 (lo2) (hi2) (.slice tx Z2.length ty) Z2) := Lib.hid (FG2_2.out.below hb FG2_2.out.2.2)
    clear FG2_2
    have BG_2 : Hid (Bx w9 (w7.heap.size) [.float .f32 t0, .float .f32 t1, .float .f32 t2, .slice ta Z0.length tc, .slice tb Z1.length td]) := Lib.hid (BG_1.out.below hb BG_1.out.1)
    clear BG_1
    clear hb
    have cHA0 := HA_12.out.c 0 rfl
    have cHA1 := HA_12.out.c 1 rfl
    have cHA2 := HA_12.out.c 2 rfl
    have cHA3 := HA_12.out.c 3 rfl
    have cHA4 := HA_12.out.c 4 rfl
    have cBS0 := BS_7.out.c 0 rfl
    have cBS1 := BS_7.out.c 1 rfl
    have cBS2 := BS_7.out.c 2 rfl
    have cBS3 := BS_7.out.c 3 rfl
    have cBS4 := BS_7.out.c 4 rfl
    have cBX0 := BX_5.out.c 0 rfl
    have cBX1 := BX_5.out.c 1 rfl
    have cBX2 := BX_5.out.c 2 rfl
    have cBX3 := BX_5.out.c 3 rfl
    have cBX4 := BX_5.out.c 4 rfl
    have cBG0 := BG_2.out.c 0 rfl
    have cBG1 := BG_2.out.c 1 rfl
    have cBG2 := BG_2.out.c 2 rfl
    have cBG3 := BG_2.out.c 3 rfl
    have cBG4 := BG_2.out.c 4 rfl
    go_wp2_with fail
    clear cHA0 cHA1 cHA2 cHA3 cHA4 cBS0 cBS1 cBS2 cBS3 cBS4 cBX0 cBX1 cBX2 cBX3 cBX4 cBG0 cBG1 cBG2 cBG3 cBG4
    refine wp_region_inv (id := 13) (runCanalInv w9 _ _ _ _ _ _ _ _ _ _ _ _ _ _ _ _ _ _ _ _ _ _ _ _ _ _ _ _ _ _ _ _ _ _ _ _ _ _ _ _ _ _ _ _ _ _ _ _ _ _ _ _ _ _ _ _ _ _ _ _ _ _ _ _ _ _ _ _ _ _ _ _ _ _ _ _ _ _ _ _ _ _ _ _ _ _ _ _ _ _ _ _ _ _ _ _ _ _ _ _ _ _ _ _ _ _ _ _ _ _ _ _ _ _ _ _ _ _ _ _ _ _ _ _ _ _ _ _ _ _ _ _ _ _ _ _ _ _ _ _ _ _ _ _ _ _ _ _ _ _ _ _ _ _ n0 n1 n2 x0 x1 a0 a1 d0 d1 c0 c1 zs0 zs1) (by kernel_rfl) (by kernel_rfl) ⟨⟨_, _, _, _, _, rfl, runCanal_gs, runCanal_gs, runCanal_gs, runCanal_gs, runCanal_gs, (by first | exact beld (Below.refl _ _) 1 | exact beld (beld (Below.refl _ _) _) 1)⟩⟩ ?_ ?_
    rotate_left
    · skip
      refine runCanal_sc 1 rfl ?_ ?_
      · intro d a w9 hsz hcl hinv hd hdep
        obtain ⟨⟨u67, u68, u69, u70, u71, rfl, f0, f1, f2, f3, f4, hbel⟩⟩ := hinv
        have bx := BX_5.out.below hbel BX_5.out.1
        have k0_ := bx.c 0 rfl
        have k1_ := bx.c 1 rfl
        have k2_ := bx.c 2 rfl
        have k3_ := bx.c 3 rfl
        have k4_ := bx.c 4 rfl
        go_wp2_with fail
        exact ⟨⟨(.agg #[.float .f32 n0, .float .f32 n1, .float .f32 n2, .slice x0 zs0.length d0, .slice x1 zs1.length d1]), u68, u69, u70, u71, rfl, (Gd.new rfl), (f1.keep (i := 0) (by decide)), (f2.keep (i := 0) (by decide)), (f3.keep (i := 0) (by decide)), (f4.keep (i := 0) (by decide)), hbel⟩⟩
      refine runCanal_sc 2 rfl ?_ ?_
      · intro d a w9 hsz hcl hinv hd hdep
        obtain ⟨⟨u67, u68, u69, u70, u71, rfl, f0, f1, f2, f3, f4, hbel⟩⟩ := hinv
        have bx := HA_12.out.below hbel HA_12.out.1
        have k0_ := bx.c 0 rfl
        have k1_ := bx.c 1 rfl
        have k2_ := bx.c 2 rfl
        have k3_ := bx.c 3 rfl
        have k4_ := bx.c 4 rfl
        go_wp2_with fail
        exact ⟨⟨u67, (.agg #[.float .f32 n0, .float .f32 n1, .float .f32 n2, .slice a0 zs0.length c0, .slice a1 zs1.length c1]), u69, u70, u71, rfl, (f0.keep (i := 1) (by decide)), (Gd.new rfl), (f2.keep (i := 1) (by decide)), (f3.keep (i := 1) (by decide)), (f4.keep (i := 1) (by decide)), hbel⟩⟩
      refine runCanal_sc 3 rfl ?_ ?_
      · intro d a w9 hsz hcl hinv hd hdep
        obtain ⟨⟨u67, u68, u69, u70, u71, rfl, f0, f1, f2, f3, f4, hbel⟩⟩ := hinv
        have e1 := f1 (hdep.get 1 rfl)
        subst e1
        have n3 := hcl.not hd 3 _ rfl rfl
        have n4 := hcl.not n3 4 _ rfl rfl
        go_wp2_with fail
        refine (toCanal_any n0 n1 n2 a0 a1 c0 c1 zs0 zs1 _ ((H0.out.below BB_13.out (Nat.le_refl _)).below hbel (Nat.le_refl _)) hl0 ((H1.out.below BB_13.out (Nat.le_refl _)).below hbel (Nat.le_refl _)) hl1).mono ?_
        rintro e wc ⟨g0, q0, g1, q1, mq, rfl, hb, hf0, hf1, hm1q, hm2q⟩
        have Hf0 := Lib.hid hf0.row
        have Hf1 := Lib.hid hf1.row
        have Hb := Lib.hid hb
        clear hf0 hf1 hb
        go_wp2_with fail
        exact ⟨⟨u67, (.agg #[.float .f32 n0, .float .f32 n1, .float .f32 n2, .slice a0 zs0.length c0, .slice a1 zs1.length c1]), (.agg #[.float .f32 n0, .float .f32 n1, .float .f32 n2, .slice g0 zs0.length q0, .slice g1 zs1.length q1]), u70, u71, rfl, (f0.keep (i := 2) (by decide)), Gd.new rfl, Gd.new ⟨g0, g1, q0, q1, rfl, Hf0.out, Hf1.out⟩, runCanal_gu (i := 2) n3 (by decide), runCanal_gu (i := 2) n4 (by decide), hbel.trans (Hb.out.mono hbel.size)⟩⟩
      refine runCanal_sc 4 rfl ?_ ?_
      · intro d a w9 hsz hcl hinv hd hdep
        obtain ⟨⟨u67, u68, u69, u70, u71, rfl, f0, f1, f2, f3, f4, hbel⟩⟩ := hinv
        have e0 := f0 (hdep.get 0 rfl)
        subst e0
        obtain ⟨g0, g1, q0, q1, e2, hf0, hf1⟩ := f2 (hdep.get 2 rfl)
        subst e2
        have Hf0 := Lib.hid hf0
        have Hf1 := Lib.hid hf1
        clear hf0 hf1
        have n4 := hcl.not hd 4 _ rfl rfl
        go_wp2_with fail
        refine (eqCanal_any x0 x1 g0 g1 d0 d1 q0 q1 zs0 zs1 _ (Is32.c hn0) (Is32.c hn0) (Is32.c hn1) (Is32.c hn1) (Is32.c hn2) (Is32.c hn2) (FX0_6.out.row.below hbel (Nat.le_refl _)) Hf0.out hl0 (FX1_6.out.row.below hbel (Nat.le_refl _)) Hf1.out hl1).mono ?_
        rintro e wc ⟨rfl, hb⟩
        have Hb := Lib.hid hb
        clear hb
        go_wp2_with fail
        exact ⟨⟨(.agg #[.float .f32 n0, .float .f32 n1, .float .f32 n2, .slice x0 zs0.length d0, .slice x1 zs1.length d1]), u68, (.agg #[.float .f32 n0, .float .f32 n1, .float .f32 n2, .slice g0 zs0.length q0, .slice g1 zs1.length q1]), (.bool true), u71, rfl, Gd.new rfl, (f1.keep (i := 3) (by decide)), Gd.new ⟨g0, g1, q0, q1, rfl, Hf0.out.below Hb.out (Nat.le_refl _), Hf1.out.below Hb.out (Nat.le_refl _)⟩, Gd.new rfl, runCanal_gu (i := 3) n4 (by decide), hbel.trans (Hb.out.mono hbel.size)⟩⟩
      refine runCanal_sc 5 rfl ?_ trivial
      · intro d a w9 hsz hcl hinv hd hdep
        obtain ⟨⟨u67, u68, u69, u70, u71, rfl, f0, f1, f2, f3, f4, hbel⟩⟩ := hinv
        have e3 := f3 (hdep.get 3 rfl)
        subst e3
        go_wp2_with fail
        exact ⟨⟨u67, u68, u69, (.bool true), (.bool false), rfl, (f0.keep (i := 4) (by decide)), (f1.keep (i := 4) (by decide)), (f2.keep (i := 4) (by decide)), Gd.new rfl, Gd.new rfl, hbel⟩⟩
    intro d a w10 hinv hall
    obtain ⟨⟨u67, u68, u69, u70, u71, rfl, f0, f1, f2, f3, f4, hbel⟩⟩ := hinv
    have e4 := f4 (hall 4 (by decide))
    subst e4
    clear f0 f1 f2 f3 f4
    have hb := hbel
    clear hbel
    have z10 : w9.heap.size ≤ w10.heap.size := hb.size
    have BB_14 : Hid (Below w.heap.size w w10) := Lib.hid (BB_13.out.trans (hb.mono BB_13.out.size))
    clear BB_13
    have HA_13 : Hid (Bx w10 (w.heap.size) [.float .f32 n0, .float .f32 n1, .float .f32 n2, .slice a0 zs0.length c0, .slice a1 zs1.length c1]) := Lib.hid (HA_12.out.below hb HA_12.out.1)
    clear HA_12
    have BQ_9 : Hid (Below w4.heap.size w4 w10) := Lib.hid (BQ_8.out.trans (hb.mono BQ_8.out.size))
    clear BQ_8
    have BS_8 : Hid (Bx w10 (w4.heap.size) [.float .f32 s0, .float .f32 s1, .float .f32 s2, .slice sa Z0.length sc, .slice sb Z1.length sd]) := Lib.hid (BS_7.out.below hb BS_7.out.1)
    clear BS_7
    have FX0_7 : Hid (FRow w10 (w4.heap.size + 1) (midx) (.slice x0 zs0.length d0) zs0) := Lib.hid (FX0_6.out.below hb FX0_6.out.2.2)
    clear FX0_6
    have FX1_7 : Hid (FRow w10 (midx) (w5.heap.size) (.slice x1 zs1.length d1) zs1) := Lib.hid (FX1_6.out.below hb FX1_6.out.2.2)
    clear FX1_6
    have BX_6 : Hid (Bx w10 (w5.heap.size) [.float .f32 n0, .float .f32 n1, .float .f32 n2, .slice x0 zs0.length d0, .slice x1 zs1.length d1]) := Lib.hid (BX_5.out.below hb BX_5.out.1)
    clear BX_5
    have FX2_5 : Hid (FRow w10 (w5.heap.size + 1) (w6.heap.size) (.slice x2 zs2.length d2) zs2) := Lib.hid (FX2_4.out.below hb FX2_4.out.2.2)
    clear FX2_4
    have FG0_4 : Hid (FRow w10 (lo) (mid') (.slice ta Z0.length tc) Z0) := Lib.hid (FG0_3.out.below hb FG0_3.out.2.2)
    clear FG0_3
    have FG1_4 : Hid (FRow w10 (mid') (hi) (.slice tb Z1.length td) Z1) := Lib.hid (FG1_3.out.below hb FG1_3.out.2.2)
    clear FG1_3
    have FG2_4 : Hid (FRow w10 (lo2) (hi2) (.slice tx Z2.length ty) Z2) := Lib.hid (FG2_3.out.below hb FG2_3.out.2.2)
    clear FG2_3
    have BG_3 : Hid (Bx w10 (w7.heap.size) [.float .f32 t0, .float .f32 t1, .float .f32 t2, .slice ta Z0.length tc, .slice tb Z1.length td]) := Lib.hid (BG_2.out.below hb BG_2.out.1)
    clear BG_2
    clear hb
    have cHA0 := HA_13.out.c 0 rfl
    have cHA1 := HA_13.out.c 1 rfl
    have cHA2 := HA_13.out.c 2 rfl
    have cHA3 := HA_13.out.c 3 rfl
    have cHA4 := HA_13.out.c 4 rfl
    have cBS0 := BS_8.out.c 0 rfl
    have cBS1 := BS_8.out.c 1 rfl
    have cBS2 := BS_8.out.c 2 rfl
    have cBS3 := BS_8.out.c 3 rfl
    have cBS4 := BS_8.out.c 4 rfl
    have cBX0 := BX_6.out.c 0 rfl
    have cBX1 := BX_6.out.c 1 rfl
    have cBX2 := BX_6.out.c 2 rfl
    have cBX3 := BX_6.out.c 3 rfl
    have cBX4 := BX_6.out.c 4 rfl
    have cBG0 := BG_3.out.c 0 rfl
    have cBG1 := BG_3.out.c 1 rfl
    have cBG2 := BG_3.out.c 2 rfl
    have cBG3 := BG_3.out.c 3 rfl
    have cBG4 := BG_3.out.c 4 rfl
    go_wp2_with fail
    refine (copyF_any a2 c2 zs2 _ (H2.out.below BB_14.out (Nat.le_refl _)) hl2).mono ?_
    rintro e w11 ⟨q2, r2, rfl, hb, hf2⟩
    clear cHA0 cHA1 cHA2 cHA3 cHA4 cBS0 cBS1 cBS2 cBS3 cBS4 cBX0 cBX1 cBX2 cBX3 cBX4 cBG0 cBG1 cBG2 cBG3 cBG4
    have z11 : w10.heap.size + 0 ≤ w11.heap.size := (by have := hb.size; (try simp at this); omega)
    have BB_15 : Hid (Below w.heap.size w w11) := Lib.hid (BB_14.out.trans (hb.mono BB_14.out.size))
    clear BB_14
    have HA_14 : Hid (Bx w11 (w.heap.size) [.float .f32 n0, .float .f32 n1, .float .f32 n2, .slice a0 zs0.length c0, .slice a1 zs1.length c1]) := Lib.hid (HA_13.out.below hb HA_13.out.1)
    clear HA_13
    have BQ_10 : Hid (Below w4.heap.size w4 w11) := Lib.hid (BQ_9.out.trans (hb.mono BQ_9.out.size))
    clear BQ_9
    have BS_9 : Hid (Bx w11 (w4.heap.size) [.float .f32 s0, .float .f32 s1, .float .f32 s2, .slice sa Z0.length sc, .slice sb Z1.length sd]) := Lib.hid (BS_8.out.below hb BS_8.out.1)
    clear BS_8
    have FX0_8 : Hid (FRow w11 (w4.heap.size + 1) (midx) (.slice x0 zs0.length d0) zs0) := Lib.hid (FX0_7.out.below hb FX0_7.out.2.2)
    clear FX0_7
    have FX1_8 : Hid (FRow w11 (midx) (w5.heap.size) (.slice x1 zs1.length d1) zs1) := Lib.hid (FX1_7.out.below hb FX1_7.out.2.2)
    clear FX1_7
    have BX_7 : Hid (Bx w11 (w5.heap.size) [.float .f32 n0, .float .f32 n1, .float .f32 n2, .slice x0 zs0.length d0, .slice x1 zs1.length d1]) := Lib.hid (BX_6.out.below hb BX_6.out.1)
    clear BX_6
    have FX2_6 : Hid (FRow w11 (w5.heap.size + 1) (w6.heap.size) (.slice x2 zs2.length d2) zs2) := Lib.hid (FX2_5.out.below hb FX2_5.out.2.2)
    clear FX2_5
    have FG0_5 : Hid (FRow w11 (lo) (mid') (.slice ta Z0.length tc) Z0) := Lib.hid (FG0_4.out.below hb FG0_4.out.2.2)
    clear FG0_4
    have FG1_5 : Hid (FRow w11 (mid') (hi) (.slice tb Z1.length td) Z1) := Lib.hid (FG1_4.out.below hb FG1_4.out.2.2)
    clear FG1_4
    have FG2_5 : Hid (FRow w11 (lo2) (hi2) (.slice tx Z2.length ty) Z2) := Lib.hid (FG2_4.out.below hb FG2_4.out.2.2)
    clear FG2_4
    have BG_4 : Hid (Bx w11 (w7.heap.size) [.float .f32 t0, .float .f32 t1, .float .f32 t2, .slice ta Z0.length tc, .slice tb Z1.length td]) := Lib.hid (BG_3.out.below hb BG_3.out.1)
    clear BG_3
    clear hb
    have FQ2 := Lib.hid hf2.row
    clear hf2
    have cHA0 := HA_14.out.c 0 rfl
    have cHA1 := HA_14.out.c 1 rfl
    have cHA2 := HA_14.out.c 2 rfl
    have cHA3 := HA_14.out.c 3 rfl
    have cHA4 := HA_14.out.c 4 rfl
    have cBS0 := BS_9.out.c 0 rfl
    have cBS1 := BS_9.out.c 1 rfl
    have cBS2 := BS_9.out.c 2 rfl
    have cBS3 := BS_9.out.c 3 rfl
    have cBS4 := BS_9.out.c 4 rfl
    have cBX0 := BX_7.out.c 0 rfl
    have cBX1 := BX_7.out.c 1 rfl
    have cBX2 := BX_7.out.c 2 rfl
    have cBX3 := BX_7.out.c 3 rfl
    have cBX4 := BX_7.out.c 4 rfl
    have cBG0 := BG_4.out.c 0 rfl
    have cBG1 := BG_4.out.c 1 rfl
    have cBG2 := BG_4.out.c 2 rfl
    have cBG3 := BG_4.out.c 3 rfl
    have cBG4 := BG_4.out.c 4 rfl
    go_wp2_with fail
    refine (eqF_b x2 q2 d2 r2 zs2 _ FX2_6.out.row FQ2.out hl2).mono ?_
    rintro e w12 ⟨rfl, hb⟩
    clear cHA0 cHA1 cHA2 cHA3 cHA4 cBS0 cBS1 cBS2 cBS3 cBS4 cBX0 cBX1 cBX2 cBX3 cBX4 cBG0 cBG1 cBG2 cBG3 cBG4
    have z12 : w11.heap.size + 0 ≤ w12.heap.size := (by have := hb.size; (try simp at this); omega)
    have BB_16 : Hid (Below w.heap.size w w12) := Lib.hid (BB_15.out.trans (hb.mono BB_15.out.size))
    clear BB_15
    have HA_15 : Hid (Bx w12 (w.heap.size) [.float .f32 n0, .float .f32 n1, .float .f32 n2, .slice a0 zs0.length c0, .slice a1 zs1.length c1]) := Lib.hid (HA_14.out.below hb HA_14.out.1)
    clear HA_14
    have BQ_11 : Hid (Below w4.heap.size w4 w12) := Lib.hid (BQ_10.out.trans (hb.mono BQ_10.out.size))
    clear BQ_10
    have BS_10 : Hid (Bx w12 (w4.heap.size) [.float .f32 s0, .float .f32 s1, .float .f32 s2, .slice sa Z0.length sc, .slice sb Z1.length sd]) := Lib.hid (BS_9.out.below hb BS_9.out.1)
    clear BS_9
    have FX0_9 : Hid (FRow w12 (w4.heap.size + 1) (midx) (.slice x0 zs0.length d0) zs0) := Lib.hid (FX0_8.out.below hb FX0_8.out.2.2)
    clear FX0_8
    have FX1_9 : Hid (FRow w12 (midx) (w5.heap.size) (.slice x1 zs1.length d1) zs1) := Lib.hid (FX1_8.out.below hb FX1_8.out.2.2)
    clear FX1_8
    have BX_8 : Hid (Bx w12 (w5.heap.size) [.float .f32 n0, .float .f32 n1, .float .f32 n2, .slice x0 zs0.length d0, .slice x1 zs1.length d1]) := Lib.hid (BX_7.out.below hb BX_7.out.1)
    clear BX_7
    have FX2_7 : Hid (FRow w12 (w5.heap.size + 1) (w6.heap.size) (.slice x2 zs2.length d2) zs2) := Lib.hid (FX2_6.out.below hb FX2_6.out.2.2)
    clear FX2_6
    have FG0_6 : Hid (FRow w12 (lo) (mid') (.slice ta Z0.length tc) Z0) := Lib.hid (FG0_5.out.below hb FG0_5.out.2.2)
    clear FG0_5
    have FG1_6 : Hid (FRow w12 (mid') (hi) (.slice tb Z1.length td) Z1) := Lib.hid (FG1_5.out.below hb FG1_5.out.2.2)
    clear FG1_5
    have FG2_6 : Hid (FRow w12 (lo2) (hi2) (.slice tx Z2.length ty) Z2) := Lib.hid (FG2_5.out.below hb FG2_5.out.2.2)
    clear FG2_5
    have BG_5 : Hid (Bx w12 (w7.heap.size) [.float .f32 t0, .float .f32 t1, .float .f32 t2, .slice ta Z0.length tc, .slice tb Z1.length td]) := Lib.hid (BG_4.out.below hb BG_4.out.1)
    clear BG_4
    clear FQ2
    clear hb
    have fx0 := FX0_9.out
    have fx1 := FX1_9.out
    clear FX0_9 FX1_9
    have cHA0 := HA_15.out.c 0 rfl
    have cHA1 := HA_15.out.c 1 rfl
    have cHA2 := HA_15.out.c 2 rfl
    have cHA3 := HA_15.out.c 3 rfl
    have cHA4 := HA_15.out.c 4 rfl
    have cBS0 := BS_10.out.c 0 rfl
    have cBS1 := BS_10.out.c 1 rfl
    have cBS2 := BS_10.out.c 2 rfl
    have cBS3 := BS_10.out.c 3 rfl
    have cBS4 := BS_10.out.c 4 rfl
    have cBX0 := BX_8.out.c 0 rfl
    have cBX1 := BX_8.out.c 1 rfl
    have cBX2 := BX_8.out.c 2 rfl
    have cBX3 := BX_8.out.c 3 rfl
    have cBX4 := BX_8.out.c 4 rfl
    have cBG0 := BG_5.out.c 0 rfl
    have cBG1 := BG_5.out.c 1 rfl
    have cBG2 := BG_5.out.c 2 rfl
    have cBG3 := BG_5.out.c 3 rfl
    have cBG4 := BG_5.out.c 4 rfl
    go_wp2_with fail
    refine (markCanal_any (w4.heap.size + 1) midx w5.heap.size 1 n0 n1 n2 x0 x1 d0 d1 zs0 zs1 _ fx0 fx1 hx1 hx2 hl0 hl1 (by decide)).mono ?_
    rintro e w13 ⟨rfl, hf0, hf1, hk⟩
    clear cHA0 cHA1 cHA2 cHA3 cHA4 cBS0 cBS1 cBS2 cBS3 cBS4 cBX0 cBX1 cBX2 cBX3 cBX4 cBG0 cBG1 cBG2 cBG3 cBG4
    have z13 : w12.heap.size + 0 ≤ w13.heap.size := (by have := hk.size; (try simp at this); omega)
    have BB_17 : Hid (Below w.heap.size w w13) := Lib.hid (BB_16.out.trans (hk.below (by omega) (by omega)))
    clear BB_16
    have HA_16 : Hid (Bx w13 (w.heap.size) [.float .f32 n0, .float .f32 n1, .float .f32 n2, .slice a0 zs0.length c0, .slice a1 zs1.length c1]) := Lib.hid (HA_15.out.kept hk (by first | exact .inl (by omega) | exact .inr (by omega) | omega))
    clear HA_15
    have BQ_12 : Hid (Below w4.heap.size w4 w13) := Lib.hid (BQ_11.out.trans (hk.below (by omega) (by omega)))
    clear BQ_11
    have BS_11 : Hid (Bx w13 (w4.heap.size) [.float .f32 s0, .float .f32 s1, .float .f32 s2, .slice sa Z0.length sc, .slice sb Z1.length sd]) := Lib.hid (BS_10.out.kept hk (by first | exact .inl (by omega) | exact .inr (by omega) | omega))
    clear BS_10
    have BX_9 : Hid (Bx w13 (w5.heap.size) [.float .f32 n0, .float .f32 n1, .float .f32 n2, .slice x0 zs0.length d0, .slice x1 zs1.length d1]) := Lib.hid (BX_8.out.kept hk (by first | exact .inl (by omega) | exact .inr (by omega) | omega))
    clear BX_8
    have FX2_8 : Hid (FRow w13 (w5.heap.size + 1) (w6.heap.size) (.slice x2 zs2.length d2) zs2) := Lib.hid (FX2_7.out.kept hk (by first | exact .inl (by omega) | exact .inr (by omega) | omega))
    clear FX2_7
    have FG0_7 : Hid (FRow w13 (lo) (mid') (.slice ta Z0.length tc) Z0) := Lib.hid (FG0_6.out.kept hk (by first | exact .inl (by omega) | exact .inr (by omega) | omega))
    clear FG0_6
    have FG1_7 : Hid (FRow w13 (mid') (hi) (.slice tb Z1.length td) Z1) := Lib.hid (FG1_6.out.kept hk (by first | exact .inl (by omega) | exact .inr (by omega) | omega))
    clear FG1_6
    have FG2_7 : Hid (FRow w13 (lo2) (hi2) (.slice tx Z2.length ty) Z2) := Lib.hid (FG2_6.out.kept hk (by first | exact .inl (by omega) | exact .inr (by omega) | omega))
    clear FG2_6
    have BG_6 : Hid (Bx w13 (w7.heap.size) [.float .f32 t0, .float .f32 t1, .float .f32 t2, .slice ta Z0.length tc, .slice tb Z1.length td]) := Lib.hid (BG_5.out.kept hk (by first | exact .inl (by omega) | exact .inr (by omega) | omega))
    clear BG_5
    clear hf0 hf1 fx0 fx1
    clear hk
    have fx2 := FX2_8.out
    clear FX2_8
    have cHA0 := HA_16.out.c 0 rfl
    have cHA1 := HA_16.out.c 1 rfl
    have cHA2 := HA_16.out.c 2 rfl
    have cHA3 := HA_16.out.c 3 rfl
    have cHA4 := HA_16.out.c 4 rfl
    have cBS0 := BS_11.out.c 0 rfl
    have cBS1 := BS_11.out.c 1 rfl
    have cBS2 := BS_11.out.c 2 rfl
    have cBS3 := BS_11.out.c 3 rfl
    have cBS4 := BS_11.out.c 4 rfl
    have cBX0 := BX_9.out.c 0 rfl
    have cBX1 := BX_9.out.c 1 rfl
    have cBX2 := BX_9.out.c 2 rfl
    have cBX3 := BX_9.out.c 3 rfl
    have cBX4 := BX_9.out.c 4 rfl
    have cBG0 := BG_6.out.c 0 rfl
    have cBG1 := BG_6.out.c 1 rfl
    have cBG2 := BG_6.out.c 2 rfl
    have cBG3 := BG_6.out.c 3 rfl
    have cBG4 := BG_6.out.c 4 rfl
    go_wp2_with fail
    refine (markF_any (w5.heap.size + 1) w6.heap.size (1 + zs0.length + zs1.length) x2 d2 zs2 _ fx2 hl2 (by omega)).mono ?_
    rintro e w14 ⟨rfl, hf0, hk⟩
    clear cHA0 cHA1 cHA2 cHA3 cHA4 cBS0 cBS1 cBS2 cBS3 cBS4 cBX0 cBX1 cBX2 cBX3 cBX4 cBG0 cBG1 cBG2 cBG3 cBG4
    have z14 : w13.heap.size + 0 ≤ w14.heap.size := (by have := hk.size; (try simp at this); omega)
    have BB_18 : Hid (Below w.heap.size w w14) := Lib.hid (BB_17.out.trans (hk.below (by omega) (by omega)))
    clear BB_17
    have HA_17 : Hid (Bx w14 (w.heap.size) [.float .f32 n0, .float .f32 n1, .float .f32 n2, .slice a0 zs0.length c0, .slice a1 zs1.length c1]) := Lib.hid (HA_16.out.kept hk (by first | exact .inl (by omega) | exact .inr (by omega) | omega))
    clear HA_16
    have BQ_13 : Hid (Below w4.heap.size w4 w14) := Lib.hid (BQ_12.out.trans (hk.below (by omega) (by omega)))
    clear BQ_12
    have BS_12 : Hid (Bx w14 (w4.heap.size) [.float .f32 s0, .float .f32 s1, .float .f32 s2, .slice sa Z0.length sc, .slice sb Z1.length sd]) := Lib.hid (BS_11.out.kept hk (by first | exact .inl (by omega) | exact .inr (by omega) | omega))
    clear BS_11
    have BX_10 : Hid (Bx w14 (w5.heap.size) [.float .f32 n0, .float .f32 n1, .float .f32 n2, .slice x0 zs0.length d0, .slice x1 zs1.length d1]) := Lib.hid (BX_9.out.kept hk (by first | exact .inl (by omega) | exact .inr (by omega) | omega))
    clear BX_9
    have FG0_8 : Hid (FRow w14 (lo) (mid') (.slice ta Z0.length tc) Z0) := Lib.hid (FG0_7.out.kept hk (by first | exact .inl (by omega) | exact .inr (by omega) | omega))
    clear FG0_7
    have FG1_8 : Hid (FRow w14 (mid') (hi) (.slice tb Z1.length td) Z1) := Lib.hid (FG1_7.out.kept hk (by first | exact .inl (by omega) | exact .inr (by omega) | omega))
    clear FG1_7
    have FG2_8 : Hid (FRow w14 (lo2) (hi2) (.slice tx Z2.length ty) Z2) := Lib.hid (FG2_7.out.kept hk (by first | exact .inl (by omega) | exact .inr (by omega) | omega))
    clear FG2_7
    have BG_7 : Hid (Bx w14 (w7.heap.size) [.float .f32 t0, .float .f32 t1, .float .f32 t2, .slice ta Z0.length tc, .slice tb Z1.length td]) := Lib.hid (BG_6.out.kept hk (by first | exact .inl (by omega) | exact .inr (by omega) | omega))
    clear BG_6
    clear hf0 fx2
    clear hk
    have hcx : ¬ ((1 + zs0.length + zs1.length + zs2.length : Nat) : Int) < 0 := by omega
    have cHA0 := HA_17.out.c 0 rfl
    have cHA1 := HA_17.out.c 1 rfl
    have cHA2 := HA_17.out.c 2 rfl
    have cHA3 := HA_17.out.c 3 rfl
    have cHA4 := HA_17.out.c 4 rfl
    have cBS0 := BS_12.out.c 0 rfl
    have cBS1 := BS_12.out.c 1 rfl
    have cBS2 := BS_12.out.c 2 rfl
    have cBS3 := BS_12.out.c 3 rfl
    have cBS4 := BS_12.out.c 4 rfl
    have cBX0 := BX_10.out.c 0 rfl
    have cBX1 := BX_10.out.c 1 rfl
    have cBX2 := BX_10.out.c 2 rfl
    have cBX3 := BX_10.out.c 3 rfl
    have cBX4 := BX_10.out.c 4 rfl
    have cBG0 := BG_7.out.c 0 rfl
    have cBG1 := BG_7.out.c 1 rfl
    have cBG2 := BG_7.out.c 2 rfl
    have cBG3 := BG_7.out.c 3 rfl
    have cBG4 := BG_7.out.c 4 rfl
    go_wp2_with fail
    refine (eqCanal_any ta tb sa sb tc td sc sd Z0 Z1 _ ti0 si0 ti1 si1 ti2 si2 FG0_8.out.row (RS0.out.below BQ_13.out (Nat.le_refl _)) tl0 FG1_8.out.row (RS1.out.below BQ_13.out (Nat.le_refl _)) tl1).mono ?_
    rintro e w15 ⟨rfl, hb⟩
    clear cHA0 cHA1 cHA2 cHA3 cHA4 cBS0 cBS1 cBS2 cBS3 cBS4 cBX0 cBX1 cBX2 cBX3 cBX4 cBG0 cBG1 cBG2 cBG3 cBG4
    have z15 : w14.heap.size + 0 ≤ w15.heap.size := (by have := hb.size; (try simp at this); omega)
    have BB_19 : Hid (Below w.heap.size w w15) := Lib.hid (BB_18.out.trans (hb.mono BB_18.out.size))
    clear BB_18
    have HA_18 : Hid (Bx w15 (w.heap.size) [.float .f32 n0, .float .f32 n1, .float .f32 n2, .slice a0 zs0.length c0, .slice a1 zs1.length c1]) := Lib.hid (HA_17.out.below hb HA_17.out.1)
    clear HA_17
    have BQ_14 : Hid (Below w4.heap.size w4 w15) := Lib.hid (BQ_13.out.trans (hb.mono BQ_13.out.size))
    clear BQ_13
    have BS_13 : Hid (Bx w15 (w4.heap.size) [.float .f32 s0, .float .f32 s1, .float .f32 s2, .slice sa Z0.length sc, .slice sb Z1.length sd]) := Lib.hid (BS_12.out.below hb BS_12.out.1)
    clear BS_12
    have BX_11 : Hid (Bx w15 (w5.heap.size) [.float .f32 n0, .float .f32 n1, .float .f32 n2, .slice x0 zs0.length d0, .slice x1 zs1.length d1]) := Lib.hid (BX_10.out.below hb BX_10.out.1)
    clear BX_10
    have FG0_9 : Hid (FRow w15 (lo) (mid') (.slice ta Z0.length tc) Z0) := Lib.hid (FG0_8.out.below hb FG0_8.out.2.2)
    clear FG0_8
    have FG1_9 : Hid (FRow w15 (mid') (hi) (.slice tb Z1.length td) Z1) := Lib.hid (FG1_8.out.below hb FG1_8.out.2.2)
    clear FG1_8
    have FG2_9 : Hid (FRow w15 (lo2) (hi2) (.slice tx Z2.length ty) Z2) := Lib.hid (FG2_8.out.below hb FG2_8.out.2.2)
    clear FG2_8
    have BG_8 : Hid (Bx w15 (w7.heap.size) [.float .f32 t0, .float .f32 t1, .float .f32 t2, .slice ta Z0.length tc, .slice tb Z1.length td]) := Lib.hid (BG_7.out.below hb BG_7.out.1)
    clear BG_7
    clear hb
    have cHA0 := HA_18.out.c 0 rfl
    have cHA1 := HA_18.out.c 1 rfl
    have cHA2 := HA_18.out.c 2 rfl
    have cHA3 := HA_18.out.c 3 rfl
    have cHA4 := HA_18.out.c 4 rfl
    have cBS0 := BS_13.out.c 0 rfl
    have cBS1 := BS_13.out.c 1 rfl
    have cBS2 := BS_13.out.c 2 rfl
    have cBS3 := BS_13.out.c 3 rfl
    have cBS4 := BS_13.out.c 4 rfl
    have cBX0 := BX_11.out.c 0 rfl
    have cBX1 := BX_11.out.c 1 rfl
    have cBX2 := BX_11.out.c 2 rfl
    have cBX3 := BX_11.out.c 3 rfl
    have cBX4 := BX_11.out.c 4 rfl
    have cBG0 := BG_8.out.c 0 rfl
    have cBG1 := BG_8.out.c 1 rfl
    have cBG2 := BG_8.out.c 2 rfl
    have cBG3 := BG_8.out.c 3 rfl
    have cBG4 := BG_8.out.c 4 rfl
    go_wp2_with fail
    refine (eqF_b tx sx ty sy Z2 _ FG2_9.out.row (RS2.out.below BQ_14.out (Nat.le_refl _)) tl2).mono ?_
    rintro e w16 ⟨rfl, hb⟩
    clear cHA0 cHA1 cHA2 cHA3 cHA4 cBS0 cBS1 cBS2 cBS3 cBS4 cBX0 cBX1 cBX2 cBX3 cBX4 cBG0 cBG1 cBG2 cBG3 cBG4
    have z16 : w15.heap.size + 0 ≤ w16.heap.size := (by have := hb.size; (try simp at this); omega)
    have BB_20 : Hid (Below w.heap.size w w16) := Lib.hid (BB_19.out.trans (hb.mono BB_19.out.size))
    clear BB_19
    have HA_19 : Hid (Bx w16 (w.heap.size) [.float .f32 n0, .float .f32 n1, .float .f32 n2, .slice a0 zs0.length c0, .slice a1 zs1.length c1]) := Lib.hid (HA_18.out.below hb HA_18.out.1)
    clear HA_18
    have BQ_15 : Hid (Below w4.heap.size w4 w16) := Lib.hid (BQ_14.out.trans (hb.mono BQ_14.out.size))
    clear BQ_14
    have BS_14 : Hid (Bx w16 (w4.heap.size) [.float .f32 s0, .float .f32 s1, .float .f32 s2, .slice sa Z0.length sc, .slice sb Z1.length sd]) := Lib.hid (BS_13.out.below hb BS_13.out.1)
    clear BS_13
    have BX_12 : Hid (Bx w16 (w5.heap.size) [.float .f32 n0, .float .f32 n1, .float .f32 n2, .slice x0 zs0.length d0, .slice x1 zs1.length d1]) := Lib.hid (BX_11.out.below hb BX_11.out.1)
    clear BX_11
    have FG0_10 : Hid (FRow w16 (lo) (mid') (.slice ta Z0.length tc) Z0) := Lib.hid (FG0_9.out.below hb FG0_9.out.2.2)
    clear FG0_9
    have FG1_10 : Hid (FRow w16 (mid') (hi) (.slice tb Z1.length td) Z1) := Lib.hid (FG1_9.out.below hb FG1_9.out.2.2)
    clear FG1_9
    have FG2_10 : Hid (FRow w16 (lo2) (hi2) (.slice tx Z2.length ty) Z2) := Lib.hid (FG2_9.out.below hb FG2_9.out.2.2)
    clear FG2_9
    have BG_9 : Hid (Bx w16 (w7.heap.size) [.float .f32 t0, .float .f32 t1, .float .f32 t2, .slice ta Z0.length tc, .slice tb Z1.length td]) := Lib.hid (BG_8.out.below hb BG_8.out.1)
    clear BG_8
    clear hb
    have fg0 := FG0_10.out
    have fg1 := FG1_10.out
    clear FG0_10 FG1_10
    have cHA0 := HA_19.out.c 0 rfl
    have cHA1 := HA_19.out.c 1 rfl
    have cHA2 := HA_19.out.c 2 rfl
    have cHA3 := HA_19.out.c 3 rfl
    have cHA4 := HA_19.out.c 4 rfl
    have cBS0 := BS_14.out.c 0 rfl
    have cBS1 := BS_14.out.c 1 rfl
    have cBS2 := BS_14.out.c 2 rfl
    have cBS3 := BS_14.out.c 3 rfl
    have cBS4 := BS_14.out.c 4 rfl
    have cBX0 := BX_12.out.c 0 rfl
    have cBX1 := BX_12.out.c 1 rfl
    have cBX2 := BX_12.out.c 2 rfl
    have cBX3 := BX_12.out.c 3 rfl
    have cBX4 := BX_12.out.c 4 rfl
    have cBG0 := BG_9.out.c 0 rfl
    have cBG1 := BG_9.out.c 1 rfl
    have cBG2 := BG_9.out.c 2 rfl
    have cBG3 := BG_9.out.c 3 rfl
    have cBG4 := BG_9.out.c 4 rfl
    go_wp2_with fail
    refine (markCanal_any lo mid' hi 1 t0 t1 t2 ta tb tc td Z0 Z1 _ fg0 fg1 hl_2 hl_3 tl0 tl1 (by decide)).mono ?_
    rintro e w17 ⟨rfl, hf0, hf1, hk⟩
    clear cHA0 cHA1 cHA2 cHA3 cHA4 cBS0 cBS1 cBS2 cBS3 cBS4 cBX0 cBX1 cBX2 cBX3 cBX4 cBG0 cBG1 cBG2 cBG3 cBG4
    have z17 : w16.heap.size + 0 ≤ w17.heap.size := (by have := hk.size; (try simp at this); omega)
    have BB_21 : Hid (Below w.heap.size w w17) := Lib.hid (BB_20.out.trans (hk.below (by omega) (by omega)))
    clear BB_20
    have HA_20 : Hid (Bx w17 (w.heap.size) [.float .f32 n0, .float .f32 n1, .float .f32 n2, .slice a0 zs0.length c0, .slice a1 zs1.length c1]) := Lib.hid (HA_19.out.kept hk (by first | exact .inl (by omega) | exact .inr (by omega) | omega))
    clear HA_19
    have BQ_16 : Hid (Below w4.heap.size w4 w17) := Lib.hid (BQ_15.out.trans (hk.below (by omega) (by omega)))
    clear BQ_15
    have BS_15 : Hid (Bx w17 (w4.heap.size) [.float .f32 s0, .float .f32 s1, .float .f32 s2, .slice sa Z0.length sc, .slice sb Z1.length sd]) := Lib.hid (BS_14.out.kept hk (by first | exact .inl (by omega) | exact .inr (by omega) | omega))
    clear BS_14
    have BX_13 : Hid (Bx w17 (w5.heap.size) [.float .f32 n0, .float .f32 n1, .float .f32 n2, .slice x0 zs0.length d0, .slice x1 zs1.length d1]) := Lib.hid (BX_12.out.kept hk (by first | exact .inl (by omega) | exact .inr (by omega) | omega))
    clear BX_12
    have FG2_11 : Hid (FRow w17 (lo2) (hi2) (.slice tx Z2.length ty) Z2) := Lib.hid (FG2_10.out.kept hk (by first | exact .inl (by omega) | exact .inr (by omega) | omega))
    clear FG2_10
    have BG_10 : Hid (Bx w17 (w7.heap.size) [.float .f32 t0, .float .f32 t1, .float .f32 t2, .slice ta Z0.length tc, .slice tb Z1.length td]) := Lib.hid (BG_9.out.kept hk (by first | exact .inl (by omega) | exact .inr (by omega) | omega))
    clear BG_9
    clear fg0 fg1
    clear hk
    have FM0_0 : Hid (FRow w17 (lo) (mid') (.slice ta Z0.length tc) (marks 1 Z0.length)) := Lib.hid (hf0)
    have FM1_0 : Hid (FRow w17 (mid') (hi) (.slice tb Z1.length td) (marks (1 + Z0.length) Z1.length)) := Lib.hid (hf1)
    clear hf0 hf1
    have fg2 := FG2_11.out
    clear FG2_11
    have cHA0 := HA_20.out.c 0 rfl
    have cHA1 := HA_20.out.c 1 rfl
    have cHA2 := HA_20.out.c 2 rfl
    have cHA3 := HA_20.out.c 3 rfl
    have cHA4 := HA_20.out.c 4 rfl
    have cBS0 := BS_15.out.c 0 rfl
    have cBS1 := BS_15.out.c 1 rfl
    have cBS2 := BS_15.out.c 2 rfl
    have cBS3 := BS_15.out.c 3 rfl
    have cBS4 := BS_15.out.c 4 rfl
    have cBX0 := BX_13.out.c 0 rfl
    have cBX1 := BX_13.out.c 1 rfl
    have cBX2 := BX_13.out.c 2 rfl
    have cBX3 := BX_13.out.c 3 rfl
    have cBX4 := BX_13.out.c 4 rfl
    have cBG0 := BG_10.out.c 0 rfl
    have cBG1 := BG_10.out.c 1 rfl
    have cBG2 := BG_10.out.c 2 rfl
    have cBG3 := BG_10.out.c 3 rfl
    have cBG4 := BG_10.out.c 4 rfl
    go_wp2_with fail
    refine (markF_any lo2 hi2 (1 + Z0.length + Z1.length) tx ty Z2 _ fg2 tl2 (by omega)).mono ?_
    rintro e w18 ⟨rfl, hf2, hk⟩
    clear cHA0 cHA1 cHA2 cHA3 cHA4 cBS0 cBS1 cBS2 cBS3 cBS4 cBX0 cBX1 cBX2 cBX3 cBX4 cBG0 cBG1 cBG2 cBG3 cBG4
    have z18 : w17.heap.size + 0 ≤ w18.heap.size := (by have := hk.size; (try simp at this); omega)
    have BB_22 : Hid (Below w.heap.size w w18) := Lib.hid (BB_21.out.trans (hk.below (by omega) (by omega)))
    clear BB_21
    have HA_21 : Hid (Bx w18 (w.heap.size) [.float .f32 n0, .float .f32 n1, .float .f32 n2, .slice a0 zs0.length c0, .slice a1 zs1.length c1]) := Lib.hid (HA_20.out.kept hk (by first | exact .inl (by omega) | exact .inr (by omega) | omega))
    clear HA_20
    have BQ_17 : Hid (Below w4.heap.size w4 w18) := Lib.hid (BQ_16.out.trans (hk.below (by omega) (by omega)))
    clear BQ_16
    have BS_16 : Hid (Bx w18 (w4.heap.size) [.float .f32 s0, .float .f32 s1, .float .f32 s2, .slice sa Z0.length sc, .slice sb Z1.length sd]) := Lib.hid (BS_15.out.kept hk (by first | exact .inl (by omega) | exact .inr (by omega) | omega))
    clear BS_15
    have BX_14 : Hid (Bx w18 (w5.heap.size) [.float .f32 n0, .float .f32 n1, .float .f32 n2, .slice x0 zs0.length d0, .slice x1 zs1.length d1]) := Lib.hid (BX_13.out.kept hk (by first | exact .inl (by omega) | exact .inr (by omega) | omega))
    clear BX_13
    have BG_11 : Hid (Bx w18 (w7.heap.size) [.float .f32 t0, .float .f32 t1, .float .f32 t2, .slice ta Z0.length tc, .slice tb Z1.length td]) := Lib.hid (BG_10.out.kept hk (by first | exact .inl (by omega) | exact .inr (by omega) | omega))
    clear BG_10
    have FM0_1 : Hid (FRow w18 (lo) (mid') (.slice ta Z0.length tc) (marks 1 Z0.length)) := Lib.hid (FM0_0.out.kept hk (by first | exact .inl (by omega) | exact .inr (by omega) | omega))
    clear FM0_0
    have FM1_1 : Hid (FRow w18 (mid') (hi) (.slice tb Z1.length td) (marks (1 + Z0.length) Z1.length)) := Lib.hid (FM1_0.out.kept hk (by first | exact .inl (by omega) | exact .inr (by omega) | omega))
    clear FM1_0
    clear fg2
    clear hk
    have FM2_0 : Hid (FRow w18 (lo2) (hi2) (.slice tx Z2.length ty) (marks (1 + Z0.length + Z1.length) Z2.length)) := Lib.hid (hf2)
    clear hf2
    have hcn : ¬ ((1 + Z0.length + Z1.length : Nat) : Int) < 0 := by omega
    have hcn2 : ¬ ((1 + Z0.length + Z1.length + Z2.length : Nat) : Int) < 0 := by omega
    have cHA0 := HA_21.out.c 0 rfl
    have cHA1 := HA_21.out.c 1 rfl
    have cHA2 := HA_21.out.c 2 rfl
    have cHA3 := HA_21.out.c 3 rfl
    have cHA4 := HA_21.out.c 4 rfl
    have cBS0 := BS_16.out.c 0 rfl
    have cBS1 := BS_16.out.c 1 rfl
    have cBS2 := BS_16.out.c 2 rfl
    have cBS3 := BS_16.out.c 3 rfl
    have cBS4 := BS_16.out.c 4 rfl
    have cBX0 := BX_14.out.c 0 rfl
    have cBX1 := BX_14.out.c 1 rfl
    have cBX2 := BX_14.out.c 2 rfl
    have cBX3 := BX_14.out.c 3 rfl
    have cBX4 := BX_14.out.c 4 rfl
    have cBG0 := BG_11.out.c 0 rfl
    have cBG1 := BG_11.out.c 1 rfl
    have cBG2 := BG_11.out.c 2 rfl
    have cBG3 := BG_11.out.c 3 rfl
    have cBG4 := BG_11.out.c 4 rfl
    go_wp2_with fail
    refine (heldCanal_any lo mid' hi 1 Z0.length Z1.length t0 t1 t2 ta tb tc td _ FM0_1.out FM1_1.out tl0 tl1 (by decide)).mono ?_
    rintro e w19 ⟨rfl, hb⟩
    clear cHA0 cHA1 cHA2 cHA3 cHA4 cBS0 cBS1 cBS2 cBS3 cBS4 cBX0 cBX1 cBX2 cBX3 cBX4 cBG0 cBG1 cBG2 cBG3 cBG4
    have z19 : w18.heap.size + 0 ≤ w19.heap.size := (by have := hb.size; (try simp at this); omega)
    have BB_23 : Hid (Below w.heap.size w w19) := Lib.hid (BB_22.out.trans (hb.mono BB_22.out.size))
    clear BB_22
    have HA_22 : Hid (Bx w19 (w.heap.size) [.float .f32 n0, .float .f32 n1, .float .f32 n2, .slice a0 zs0.length c0, .slice a1 zs1.length c1]) := Lib.hid (HA_21.out.below hb HA_21.out.1)
    clear HA_21
    have BQ_18 : Hid (Below w4.heap.size w4 w19) := Lib.hid (BQ_17.out.trans (hb.mono BQ_17.out.size))
    clear BQ_17
    have BS_17 : Hid (Bx w19 (w4.heap.size) [.float .f32 s0, .float .f32 s1, .float .f32 s2, .slice sa Z0.length sc, .slice sb Z1.length sd]) := Lib.hid (BS_16.out.below hb BS_16.out.1)
    clear BS_16
    have BX_15 : Hid (Bx w19 (w5.heap.size) [.float .f32 n0, .float .f32 n1, .float .f32 n2, .slice x0 zs0.length d0, .slice x1 zs1.length d1]) := Lib.hid (BX_14.out.below hb BX_14.out.1)
    clear BX_14
    have BG_12 : Hid (Bx w19 (w7.heap.size) [.float .f32 t0, .float .f32 t1, .float .f32 t2, .slice ta Z0.length tc, .slice tb Z1.length td]) := Lib.hid (BG_11.out.below hb BG_11.out.1)
    clear BG_11
    have FM0_2 : Hid (FRow w19 (lo) (mid') (.slice ta Z0.length tc) (marks 1 Z0.length)) := Lib.hid (FM0_1.out.below hb FM0_1.out.2.2)
    clear FM0_1
    have FM1_2 : Hid (FRow w19 (mid') (hi) (.slice tb Z1.length td) (marks (1 + Z0.length) Z1.length)) := Lib.hid (FM1_1.out.below hb FM1_1.out.2.2)
    clear FM1_1
    have FM2_1 : Hid (FRow w19 (lo2) (hi2) (.slice tx Z2.length ty) (marks (1 + Z0.length + Z1.length) Z2.length)) := Lib.hid (FM2_0.out.below hb FM2_0.out.2.2)
    clear FM2_0
    clear hb
    have cHA0 := HA_22.out.c 0 rfl
    have cHA1 := HA_22.out.c 1 rfl
    have cHA2 := HA_22.out.c 2 rfl
    have cHA3 := HA_22.out.c 3 rfl
    have cHA4 := HA_22.out.c 4 rfl
    have cBS0 := BS_17.out.c 0 rfl
    have cBS1 := BS_17.out.c 1 rfl
    have cBS2 := BS_17.out.c 2 rfl
    have cBS3 := BS_17.out.c 3 rfl
    have cBS4 := BS_17.out.c 4 rfl
    have cBX0 := BX_15.out.c 0 rfl
    have cBX1 := BX_15.out.c 1 rfl
    have cBX2 := BX_15.out.c 2 rfl
    have cBX3 := BX_15.out.c 3 rfl
    have cBX4 := BX_15.out.c 4 rfl
    have cBG0 := BG_12.out.c 0 rfl
    have cBG1 := BG_12.out.c 1 rfl
    have cBG2 := BG_12.out.c 2 rfl
    have cBG3 := BG_12.out.c 3 rfl
    have cBG4 := BG_12.out.c 4 rfl
    go_wp2_with fail
    refine (heldF_any lo2 hi2 (1 + Z0.length + Z1.length) Z2.length tx ty _ FM2_1.out tl2 (by omega)).mono ?_
    rintro e w' ⟨rfl, rfl⟩
    clear cHA0 cHA1 cHA2 cHA3 cHA4 cBS0 cBS1 cBS2 cBS3 cBS4 cBX0 cBX1 cBX2 cBX3 cBX4 cBG0 cBG1 cBG2 cBG3 cBG4
    have cHA0 := HA_22.out.c 0 rfl
    have cHA1 := HA_22.out.c 1 rfl
    have cHA2 := HA_22.out.c 2 rfl
    have cHA3 := HA_22.out.c 3 rfl
    have cHA4 := HA_22.out.c 4 rfl
    have cBS0 := BS_17.out.c 0 rfl
    have cBS1 := BS_17.out.c 1 rfl
    have cBS2 := BS_17.out.c 2 rfl
    have cBS3 := BS_17.out.c 3 rfl
    have cBS4 := BS_17.out.c 4 rfl
    have cBX0 := BX_15.out.c 0 rfl
    have cBX1 := BX_15.out.c 1 rfl
    have cBX2 := BX_15.out.c 2 rfl
    have cBX3 := BX_15.out.c 3 rfl
    have cBX4 := BX_15.out.c 4 rfl
    have cBG0 := BG_12.out.c 0 rfl
    have cBG1 := BG_12.out.c 1 rfl
    have cBG2 := BG_12.out.c 2 rfl
    have cBG3 := BG_12.out.c 3 rfl
    have cBG4 := BG_12.out.c 4 rfl
    go_wp2_with fail
    refine (toCanal_any n0 n1 n2 a0 a1 c0 c1 zs0 zs1 _ (H0.out.below BB_23.out (Nat.le_refl _)) hl0 (H1.out.below BB_23.out (Nat.le_refl _)) hl1).mono ?_
    rintro e w20 ⟨e0, k0, e1, k1, midh, rfl, hb, hf0, hf1, hm1, hm2⟩
    clear cHA0 cHA1 cHA2 cHA3 cHA4 cBS0 cBS1 cBS2 cBS3 cBS4 cBX0 cBX1 cBX2 cBX3 cBX4 cBG0 cBG1 cBG2 cBG3 cBG4
    have z20 : w19.heap.size + 0 ≤ w20.heap.size := (by have := hb.size; (try simp at this); omega)
    have BB_24 : Hid (Below w.heap.size w w20) := Lib.hid (BB_23.out.trans (hb.mono BB_23.out.size))
    clear BB_23
    have HA_23 : Hid (Bx w20 (w.heap.size) [.float .f32 n0, .float .f32 n1, .float .f32 n2, .slice a0 zs0.length c0, .slice a1 zs1.length c1]) := Lib.hid (HA_22.out.below hb HA_22.out.1)
    clear HA_22
    have BQ_19 : Hid (Below w4.heap.size w4 w20) := Lib.hid (BQ_18.out.trans (hb.mono BQ_18.out.size))
    clear BQ_18
    have BS_18 : Hid (Bx w20 (w4.heap.size) [.float .f32 s0, .float .f32 s1, .float .f32 s2, .slice sa Z0.length sc, .slice sb Z1.length sd]) := Lib.hid (BS_17.out.below hb BS_17.out.1)
    clear BS_17
    have BX_16 : Hid (Bx w20 (w5.heap.size) [.float .f32 n0, .float .f32 n1, .float .f32 n2, .slice x0 zs0.length d0, .slice x1 zs1.length d1]) := Lib.hid (BX_15.out.below hb BX_15.out.1)
    clear BX_15
    have BG_13 : Hid (Bx w20 (w7.heap.size) [.float .f32 t0, .float .f32 t1, .float .f32 t2, .slice ta Z0.length tc, .slice tb Z1.length td]) := Lib.hid (BG_12.out.below hb BG_12.out.1)
    clear BG_12
    have FM0_3 : Hid (FRow w20 (lo) (mid') (.slice ta Z0.length tc) (marks 1 Z0.length)) := Lib.hid (FM0_2.out.below hb FM0_2.out.2.2)
    clear FM0_2
    have FM1_3 : Hid (FRow w20 (mid') (hi) (.slice tb Z1.length td) (marks (1 + Z0.length) Z1.length)) := Lib.hid (FM1_2.out.below hb FM1_2.out.2.2)
    clear FM1_2
    have FM2_2 : Hid (FRow w20 (lo2) (hi2) (.slice tx Z2.length ty) (marks (1 + Z0.length + Z1.length) Z2.length)) := Lib.hid (FM2_1.out.below hb FM2_1.out.2.2)
    clear FM2_1
    clear hb
    have FE0_0 : Hid (FRow w20 (0) (midh) (.slice e0 zs0.length k0) zs0) := Lib.hid (hf0.mono (Nat.zero_le _) (Nat.le_refl _) hf0.2.2)
    have FE1_0 : Hid (FRow w20 (0) (w20.heap.size) (.slice e1 zs1.length k1) zs1) := Lib.hid (hf1.mono (Nat.zero_le _) (Nat.le_refl _) hf1.2.2)
    clear hf0 hf1 hm1 hm2
    have cHA0 := HA_23.out.c 0 rfl
    have cHA1 := HA_23.out.c 1 rfl
    have cHA2 := HA_23.out.c 2 rfl
    have cHA3 := HA_23.out.c 3 rfl
    have cHA4 := HA_23.out.c 4 rfl
    have cBS0 := BS_18.out.c 0 rfl
    have cBS1 := BS_18.out.c 1 rfl
    have cBS2 := BS_18.out.c 2 rfl
    have cBS3 := BS_18.out.c 3 rfl
    have cBS4 := BS_18.out.c 4 rfl
    have cBX0 := BX_16.out.c 0 rfl
    have cBX1 := BX_16.out.c 1 rfl
    have cBX2 := BX_16.out.c 2 rfl
    have cBX3 := BX_16.out.c 3 rfl
    have cBX4 := BX_16.out.c 4 rfl
    have cBG0 := BG_13.out.c 0 rfl
    have cBG1 := BG_13.out.c 1 rfl
    have cBG2 := BG_13.out.c 2 rfl
    have cBG3 := BG_13.out.c 3 rfl
    have cBG4 := BG_13.out.c 4 rfl
    go_wp2_with fail
    refine (copyF_any a2 c2 zs2 _ (H2.out.below BB_24.out (Nat.le_refl _)) hl2).mono ?_
    rintro e w21 ⟨e2, k2, rfl, hb, hf2⟩
    clear cHA0 cHA1 cHA2 cHA3 cHA4 cBS0 cBS1 cBS2 cBS3 cBS4 cBX0 cBX1 cBX2 cBX3 cBX4 cBG0 cBG1 cBG2 cBG3 cBG4
    have z21 : w20.heap.size + 0 ≤ w21.heap.size := (by have := hb.size; (try simp at this); omega)
    have BB_25 : Hid (Below w.heap.size w w21) := Lib.hid (BB_24.out.trans (hb.mono BB_24.out.size))
    clear BB_24
    have HA_24 : Hid (Bx w21 (w.heap.size) [.float .f32 n0, .float .f32 n1, .float .f32 n2, .slice a0 zs0.length c0, .slice a1 zs1.length c1]) := Lib.hid (HA_23.out.below hb HA_23.out.1)
    clear HA_23
    have BQ_20 : Hid (Below w4.heap.size w4 w21) := Lib.hid (BQ_19.out.trans (hb.mono BQ_19.out.size))
    clear BQ_19
    have BS_19 : Hid (Bx w21 (w4.heap.size) [.float .f32 s0, .float .f32 s1, .float .f32 s2, .slice sa Z0.length sc, .slice sb Z1.length sd]) := Lib.hid (BS_18.out.below hb BS_18.out.1)
    clear BS_18
    have BX_17 : Hid (Bx w21 (w5.heap.size) [.float .f32 n0, .float .f32 n1, .float .f32 n2, .slice x0 zs0.length d0, .slice x1 zs1.length d1]) := Lib.hid (BX_16.out.below hb BX_16.out.1)
    clear BX_16
    have BG_14 : Hid (Bx w21 (w7.heap.size) [.float .f32 t0, .float .f32 t1, .float .f32 t2, .slice ta Z0.length tc, .slice tb Z1.length td]) := Lib.hid (BG_13.out.below hb BG_13.out.1)
    clear BG_13
    have FM0_4 : Hid (FRow w21 (lo) (mid') (.slice ta Z0.length tc) (marks 1 Z0.length)) := Lib.hid (FM0_3.out.below hb FM0_3.out.2.2)
    clear FM0_3
    have FM1_4 : Hid (FRow w21 (mid') (hi) (.slice tb Z1.length td) (marks (1 + Z0.length) Z1.length)) := Lib.hid (FM1_3.out.below hb FM1_3.out.2.2)
    clear FM1_3
    have FM2_3 : Hid (FRow w21 (lo2) (hi2) (.slice tx Z2.length ty) (marks (1 + Z0.length + Z1.length) Z2.length)) := Lib.hid (FM2_2.out.below hb FM2_2.out.2.2)
    clear FM2_2
    have FE0_1 : Hid (FRow w21 (0) (midh) (.slice e0 zs0.length k0) zs0) := Lib.hid (FE0_0.out.below hb FE0_0.out.2.2)
    clear FE0_0
    have FE1_1 : Hid (FRow w21 (0) (w20.heap.size) (.slice e1 zs1.length k1) zs1) := Lib.hid (FE1_0.out.below hb FE1_0.out.2.2)
    clear FE1_0
    clear hb
    have FE2 := Lib.hid hf2.row
    clear hf2
    have cHA0 := HA_24.out.c 0 rfl
    have cHA1 := HA_24.out.c 1 rfl
    have cHA2 := HA_24.out.c 2 rfl
    have cHA3 := HA_24.out.c 3 rfl
    have cHA4 := HA_24.out.c 4 rfl
    have cBS0 := BS_19.out.c 0 rfl
    have cBS1 := BS_19.out.c 1 rfl
    have cBS2 := BS_19.out.c 2 rfl
    have cBS3 := BS_19.out.c 3 rfl
    have cBS4 := BS_19.out.c 4 rfl
    have cBX0 := BX_17.out.c 0 rfl
    have cBX1 := BX_17.out.c 1 rfl
    have cBX2 := BX_17.out.c 2 rfl
    have cBX3 := BX_17.out.c 3 rfl
    have cBX4 := BX_17.out.c 4 rfl
    have cBG0 := BG_14.out.c 0 rfl
    have cBG1 := BG_14.out.c 1 rfl
    have cBG2 := BG_14.out.c 2 rfl
    have cBG3 := BG_14.out.c 3 rfl
    have cBG4 := BG_14.out.c 4 rfl
    go_wp2_with fail
    refine (HI.out e0 e1 e2 k0 k1 k2 _ FE0_1.out.row FE1_1.out.row FE2.out).mono ?_
    rintro e w22 ⟨u0, u1, u2, ua, uc, ub, ud, ux, uy, lo', mid'', hi', lo2', hi2', rfl, ⟨ui0, ui1, ui2⟩, fr0, fr1, fr2, hord', ul0, ul1, ul2, hb⟩
    clear cHA0 cHA1 cHA2 cHA3 cHA4 cBS0 cBS1 cBS2 cBS3 cBS4 cBX0 cBX1 cBX2 cBX3 cBX4 cBG0 cBG1 cBG2 cBG3 cBG4
    have z22 : w21.heap.size + 0 ≤ w22.heap.size := (by have := hb.size; (try simp at this); omega)
    have BB_26 : Hid (Below w.heap.size w w22) := Lib.hid (BB_25.out.trans (hb.mono BB_25.out.size))
    clear BB_25
    have HA_25 : Hid (Bx w22 (w.heap.size) [.float .f32 n0, .float .f32 n1, .float .f32 n2, .slice a0 zs0.length c0, .slice a1 zs1.length c1]) := Lib.hid (HA_24.out.below hb HA_24.out.1)
    clear HA_24
    have BQ_21 : Hid (Below w4.heap.size w4 w22) := Lib.hid (BQ_20.out.trans (hb.mono BQ_20.out.size))
    clear BQ_20
    have BS_20 : Hid (Bx w22 (w4.heap.size) [.float .f32 s0, .float .f32 s1, .float .f32 s2, .slice sa Z0.length sc, .slice sb Z1.length sd]) := Lib.hid (BS_19.out.below hb BS_19.out.1)
    clear BS_19
    have BX_18 : Hid (Bx w22 (w5.heap.size) [.float .f32 n0, .float .f32 n1, .float .f32 n2, .slice x0 zs0.length d0, .slice x1 zs1.length d1]) := Lib.hid (BX_17.out.below hb BX_17.out.1)
    clear BX_17
    have BG_15 : Hid (Bx w22 (w7.heap.size) [.float .f32 t0, .float .f32 t1, .float .f32 t2, .slice ta Z0.length tc, .slice tb Z1.length td]) := Lib.hid (BG_14.out.below hb BG_14.out.1)
    clear BG_14
    have FM0_5 : Hid (FRow w22 (lo) (mid') (.slice ta Z0.length tc) (marks 1 Z0.length)) := Lib.hid (FM0_4.out.below hb FM0_4.out.2.2)
    clear FM0_4
    have FM1_5 : Hid (FRow w22 (mid') (hi) (.slice tb Z1.length td) (marks (1 + Z0.length) Z1.length)) := Lib.hid (FM1_4.out.below hb FM1_4.out.2.2)
    clear FM1_4
    have FM2_4 : Hid (FRow w22 (lo2) (hi2) (.slice tx Z2.length ty) (marks (1 + Z0.length + Z1.length) Z2.length)) := Lib.hid (FM2_3.out.below hb FM2_3.out.2.2)
    clear FM2_3
    have FE0_2 : Hid (FRow w22 (0) (midh) (.slice e0 zs0.length k0) zs0) := Lib.hid (FE0_1.out.below hb FE0_1.out.2.2)
    clear FE0_1
    have FE1_2 : Hid (FRow w22 (0) (w20.heap.size) (.slice e1 zs1.length k1) zs1) := Lib.hid (FE1_1.out.below hb FE1_1.out.2.2)
    clear FE1_1
    simp only at ui0 ui1 ui2 fr0 fr1 fr2 ul0 ul1 ul2 ⊢
    clear FE2 hord'
    clear hb
    clear FE0_2 FE1_2
    have FU0_0 : Hid (FRow w22 (lo') (mid'') (.slice ua Z0.length uc) Z0) := Lib.hid (fr0)
    have FU1_0 : Hid (FRow w22 (mid'') (hi') (.slice ub Z1.length ud) Z1) := Lib.hid (fr1)
    have FU2_0 : Hid (FRow w22 (lo2') (hi2') (.slice ux Z2.length uy) Z2) := Lib.hid (fr2)
    clear fr0 fr1 fr2
    have BB_27 : Hid (Below w.heap.size w (w22.alloc (.cells #[.float .f32 u0, .float .f32 u1, .float .f32 u2, .slice ua Z0.length uc, .slice ub Z1.length ud] 36))) := Lib.hid (BB_26.out.alloc BB_26.out.size _)
    clear BB_26
    have HA_26 : Hid (Bx (w22.alloc (.cells #[.float .f32 u0, .float .f32 u1, .float .f32 u2, .slice ua Z0.length uc, .slice ub Z1.length ud] 36)) (w.heap.size) [.float .f32 n0, .float .f32 n1, .float .f32 n2, .slice a0 zs0.length c0, .slice a1 zs1.length c1]) := Lib.hid (HA_25.out.alloc _)
    clear HA_25
    have BQ_22 : Hid (Below w4.heap.size w4 (w22.alloc (.cells #[.float .f32 u0, .float .f32 u1, .float .f32 u2, .slice ua Z0.length uc, .slice ub Z1.length ud] 36))) := Lib.hid (BQ_21.out.alloc BQ_21.out.size _)
    clear BQ_21
    have BS_21 : Hid (Bx (w22.alloc (.cells #[.float .f32 u0, .float .f32 u1, .float .f32 u2, .slice ua Z0.length uc, .slice ub Z1.length ud] 36)) (w4.heap.size) [.float .f32 s0, .float .f32 s1, .float .f32 s2, .slice sa Z0.length sc, .slice sb Z1.length sd]) := Lib.hid (BS_20.out.alloc _)
    clear BS_20
    have BX_19 : Hid (Bx (w22.alloc (.cells #[.float .f32 u0, .float .f32 u1, .float .f32 u2, .slice ua Z0.length uc, .slice ub Z1.length ud] 36)) (w5.heap.size) [.float .f32 n0, .float .f32 n1, .float .f32 n2, .slice x0 zs0.length d0, .slice x1 zs1.length d1]) := Lib.hid (BX_18.out.alloc _)
    clear BX_18
    have BG_16 : Hid (Bx (w22.alloc (.cells #[.float .f32 u0, .float .f32 u1, .float .f32 u2, .slice ua Z0.length uc, .slice ub Z1.length ud] 36)) (w7.heap.size) [.float .f32 t0, .float .f32 t1, .float .f32 t2, .slice ta Z0.length tc, .slice tb Z1.length td]) := Lib.hid (BG_15.out.alloc _)
    clear BG_15
    have FM0_6 : Hid (FRow (w22.alloc (.cells #[.float .f32 u0, .float .f32 u1, .float .f32 u2, .slice ua Z0.length uc, .slice ub Z1.length ud] 36)) (lo) (mid') (.slice ta Z0.length tc) (marks 1 Z0.length)) := Lib.hid (FM0_5.out.alloc _)
    clear FM0_5
    have FM1_6 : Hid (FRow (w22.alloc (.cells #[.float .f32 u0, .float .f32 u1, .float .f32 u2, .slice ua Z0.length uc, .slice ub Z1.length ud] 36)) (mid') (hi) (.slice tb Z1.length td) (marks (1 + Z0.length) Z1.length)) := Lib.hid (FM1_5.out.alloc _)
    clear FM1_5
    have FM2_5 : Hid (FRow (w22.alloc (.cells #[.float .f32 u0, .float .f32 u1, .float .f32 u2, .slice ua Z0.length uc, .slice ub Z1.length ud] 36)) (lo2) (hi2) (.slice tx Z2.length ty) (marks (1 + Z0.length + Z1.length) Z2.length)) := Lib.hid (FM2_4.out.alloc _)
    clear FM2_4
    have FU0_1 : Hid (FRow (w22.alloc (.cells #[.float .f32 u0, .float .f32 u1, .float .f32 u2, .slice ua Z0.length uc, .slice ub Z1.length ud] 36)) (lo') (mid'') (.slice ua Z0.length uc) Z0) := Lib.hid (FU0_0.out.alloc _)
    clear FU0_0
    have FU1_1 : Hid (FRow (w22.alloc (.cells #[.float .f32 u0, .float .f32 u1, .float .f32 u2, .slice ua Z0.length uc, .slice ub Z1.length ud] 36)) (mid'') (hi') (.slice ub Z1.length ud) Z1) := Lib.hid (FU1_0.out.alloc _)
    clear FU1_0
    have FU2_1 : Hid (FRow (w22.alloc (.cells #[.float .f32 u0, .float .f32 u1, .float .f32 u2, .slice ua Z0.length uc, .slice ub Z1.length ud] 36)) (lo2') (hi2') (.slice ux Z2.length uy) Z2) := Lib.hid (FU2_0.out.alloc _)
    clear FU2_0
    have BH_0 : Hid (Bx (w22.alloc (.cells #[.float .f32 u0, .float .f32 u1, .float .f32 u2, .slice ua Z0.length uc, .slice ub Z1.length ud] 36)) (w22.heap.size) [.float .f32 u0, .float .f32 u1, .float .f32 u2, .slice ua Z0.length uc, .slice ub Z1.length ud]) := Lib.hid (Bx.new w22 [.float .f32 u0, .float .f32 u1, .float .f32 u2, .slice ua Z0.length uc, .slice ub Z1.length ud] 36)
    have cHA0 := HA_26.out.c 0 rfl
    have cHA1 := HA_26.out.c 1 rfl
    have cHA2 := HA_26.out.c 2 rfl
    have cHA3 := HA_26.out.c 3 rfl
    have cHA4 := HA_26.out.c 4 rfl
    have cBS0 := BS_21.out.c 0 rfl
    have cBS1 := BS_21.out.c 1 rfl
    have cBS2 := BS_21.out.c 2 rfl
    have cBS3 := BS_21.out.c 3 rfl
    have cBS4 := BS_21.out.c 4 rfl
    have cBX0 := BX_19.out.c 0 rfl
    have cBX1 := BX_19.out.c 1 rfl
    have cBX2 := BX_19.out.c 2 rfl
    have cBX3 := BX_19.out.c 3 rfl
    have cBX4 := BX_19.out.c 4 rfl
    have cBG0 := BG_16.out.c 0 rfl
    have cBG1 := BG_16.out.c 1 rfl
    have cBG2 := BG_16.out.c 2 rfl
    have cBG3 := BG_16.out.c 3 rfl
    have cBG4 := BG_16.out.c 4 rfl
    have cBH0 := BH_0.out.c 0 rfl
    have cBH1 := BH_0.out.c 1 rfl
    have cBH2 := BH_0.out.c 2 rfl
    have cBH3 := BH_0.out.c 3 rfl
    have cBH4 := BH_0.out.c 4 rfl
    go_wp2_with fail
    refine (eqCanal_any ua ub sa sb uc ud sc sd Z0 Z1 _ ui0 si0 ui1 si1 ui2 si2 FU0_1.out.row (RS0.out.below BQ_22.out (Nat.le_refl _)) tl0 FU1_1.out.row (RS1.out.below BQ_22.out (Nat.le_refl _)) tl1).mono ?_
    rintro e w23 ⟨rfl, hb⟩
    clear cHA0 cHA1 cHA2 cHA3 cHA4 cBS0 cBS1 cBS2 cBS3 cBS4 cBX0 cBX1 cBX2 cBX3 cBX4 cBG0 cBG1 cBG2 cBG3 cBG4 cBH0 cBH1 cBH2 cBH3 cBH4
    have z23 : w22.heap.size + 1 ≤ w23.heap.size := (by have := hb.size; (try simp at this); omega)
    have BB_28 : Hid (Below w.heap.size w w23) := Lib.hid (BB_27.out.trans (hb.mono BB_27.out.size))
    clear BB_27
    have HA_27 : Hid (Bx w23 (w.heap.size) [.float .f32 n0, .float .f32 n1, .float .f32 n2, .slice a0 zs0.length c0, .slice a1 zs1.length c1]) := Lib.hid (HA_26.out.below hb HA_26.out.1)
    clear HA_26
    have BQ_23 : Hid (Below w4.heap.size w4 w23) := Lib.hid (BQ_22.out.trans (hb.mono BQ_22.out.size))
    clear BQ_22
    have BS_22 : Hid (Bx w23 (w4.heap.size) [.float .f32 s0, .float .f32 s1, .float .f32 s2, .slice sa Z0.length sc, .slice sb Z1.length sd]) := Lib.hid (BS_21.out.below hb BS_21.out.1)
    clear BS_21
    have BX_20 : Hid (Bx w23 (w5.heap.size) [.float .f32 n0, .float .f32 n1, .float .f32 n2, .slice x0 zs0.length d0, .slice x1 zs1.length d1]) := Lib.hid (BX_19.out.below hb BX_19.out.1)
    clear BX_19
    have BG_17 : Hid (Bx w23 (w7.heap.size) [.float .f32 t0, .float .f32 t1, .float .f32 t2, .slice ta Z0.length tc, .slice tb Z1.length td]) := Lib.hid (BG_16.out.below hb BG_16.out.1)
    clear BG_16
    have FM0_7 : Hid (FRow w23 (lo) (mid') (.slice ta Z0.length tc) (marks 1 Z0.length)) := Lib.hid (FM0_6.out.below hb FM0_6.out.2.2)
    clear FM0_6
    have FM1_7 : Hid (FRow w23 (mid') (hi) (.slice tb Z1.length td) (marks (1 + Z0.length) Z1.length)) := Lib.hid (FM1_6.out.below hb FM1_6.out.2.2)
    clear FM1_6
    have FM2_6 : Hid (FRow w23 (lo2) (hi2) (.slice tx Z2.length ty) (marks (1 + Z0.length + Z1.length) Z2.length)) := Lib.hid (FM2_5.out.below hb FM2_5.out.2.2)
    clear FM2_5
    have FU0_2 : Hid (FRow w23 (lo') (mid'') (.slice ua Z0.length uc) Z0) := Lib.hid (FU0_1.out.below hb FU0_1.out.2.2)
    clear FU0_1
    have FU1_2 : Hid (FRow w23 (mid'') (hi') (.slice ub Z1.length ud) Z1) := Lib.hid (FU1_1.out.below hb FU1_1.out.2.2)
    clear FU1_1
    have FU2_2 : Hid (FRow w23 (lo2') (hi2') (.slice ux Z2.length uy) Z2) := Lib.hid (FU2_1.out.below hb FU2_1.out.2.2)
    clear FU2_1
    have BH_1 : Hid (Bx w23 (w22.heap.size) [.float .f32 u0, .float .f32 u1, .float .f32 u2, .slice ua Z0.length uc, .slice ub Z1.length ud]) := Lib.hid (BH_0.out.below hb BH_0.out.1)
    clear BH_0
    clear hb
    have cHA0 := HA_27.out.c 0 rfl
    have cHA1 := HA_27.out.c 1 rfl
    have cHA2 := HA_27.out.c 2 rfl
    have cHA3 := HA_27.out.c 3 rfl
    have cHA4 := HA_27.out.c 4 rfl
    have cBS0 := BS_22.out.c 0 rfl
    have cBS1 := BS_22.out.c 1 rfl
    have cBS2 := BS_22.out.c 2 rfl
    have cBS3 := BS_22.out.c 3 rfl
    have cBS4 := BS_22.out.c 4 rfl
    have cBX0 := BX_20.out.c 0 rfl
    have cBX1 := BX_20.out.c 1 rfl
    have cBX2 := BX_20.out.c 2 rfl
    have cBX3 := BX_20.out.c 3 rfl
    have cBX4 := BX_20.out.c 4 rfl
    have cBG0 := BG_17.out.c 0 rfl
    have cBG1 := BG_17.out.c 1 rfl
    have cBG2 := BG_17.out.c 2 rfl
    have cBG3 := BG_17.out.c 3 rfl
    have cBG4 := BG_17.out.c 4 rfl
    have cBH0 := BH_1.out.c 0 rfl
    have cBH1 := BH_1.out.c 1 rfl
    have cBH2 := BH_1.out.c 2 rfl
    have cBH3 := BH_1.out.c 3 rfl
    have cBH4 := BH_1.out.c 4 rfl
    go_wp2_with fail
    refine (eqF_b ux sx uy sy Z2 _ FU2_2.out.row (RS2.out.below BQ_23.out (Nat.le_refl _)) tl2).mono ?_
    rintro e w24 ⟨rfl, hb⟩
    clear cHA0 cHA1 cHA2 cHA3 cHA4 cBS0 cBS1 cBS2 cBS3 cBS4 cBX0 cBX1 cBX2 cBX3 cBX4 cBG0 cBG1 cBG2 cBG3 cBG4 cBH0 cBH1 cBH2 cBH3 cBH4
    have z24 : w23.heap.size + 0 ≤ w24.heap.size := (by have := hb.size; (try simp at this); omega)
    have BB_29 : Hid (Below w.heap.size w w24) := Lib.hid (BB_28.out.trans (hb.mono BB_28.out.size))
    clear BB_28
    have HA_28 : Hid (Bx w24 (w.heap.size) [.float .f32 n0, .float .f32 n1, .float .f32 n2, .slice a0 zs0.length c0, .slice a1 zs1.length c1]) := Lib.hid (HA_27.out.below hb HA_27.out.1)
    clear HA_27
    have BQ_24 : Hid (Below w4.heap.size w4 w24) := Lib.hid (BQ_23.out.trans (hb.mono BQ_23.out.size))
    clear BQ_23
    have BS_23 : Hid (Bx w24 (w4.heap.size) [.float .f32 s0, .float .f32 s1, .float .f32 s2, .slice sa Z0.length sc, .slice sb Z1.length sd]) := Lib.hid (BS_22.out.below hb BS_22.out.1)
    clear BS_22
    have BX_21 : Hid (Bx w24 (w5.heap.size) [.float .f32 n0, .float .f32 n1, .float .f32 n2, .slice x0 zs0.length d0, .slice x1 zs1.length d1]) := Lib.hid (BX_20.out.below hb BX_20.out.1)
    clear BX_20
    have BG_18 : Hid (Bx w24 (w7.heap.size) [.float .f32 t0, .float .f32 t1, .float .f32 t2, .slice ta Z0.length tc, .slice tb Z1.length td]) := Lib.hid (BG_17.out.below hb BG_17.out.1)
    clear BG_17
    have FM0_8 : Hid (FRow w24 (lo) (mid') (.slice ta Z0.length tc) (marks 1 Z0.length)) := Lib.hid (FM0_7.out.below hb FM0_7.out.2.2)
    clear FM0_7
    have FM1_8 : Hid (FRow w24 (mid') (hi) (.slice tb Z1.length td) (marks (1 + Z0.length) Z1.length)) := Lib.hid (FM1_7.out.below hb FM1_7.out.2.2)
    clear FM1_7
    have FM2_7 : Hid (FRow w24 (lo2) (hi2) (.slice tx Z2.length ty) (marks (1 + Z0.length + Z1.length) Z2.length)) := Lib.hid (FM2_6.out.below hb FM2_6.out.2.2)
    clear FM2_6
    have FU0_3 : Hid (FRow w24 (lo') (mid'') (.slice ua Z0.length uc) Z0) := Lib.hid (FU0_2.out.below hb FU0_2.out.2.2)
    clear FU0_2
    have FU1_3 : Hid (FRow w24 (mid'') (hi') (.slice ub Z1.length ud) Z1) := Lib.hid (FU1_2.out.below hb FU1_2.out.2.2)
    clear FU1_2
    have FU2_3 : Hid (FRow w24 (lo2') (hi2') (.slice ux Z2.length uy) Z2) := Lib.hid (FU2_2.out.below hb FU2_2.out.2.2)
    clear FU2_2
    have BH_2 : Hid (Bx w24 (w22.heap.size) [.float .f32 u0, .float .f32 u1, .float .f32 u2, .slice ua Z0.length uc, .slice ub Z1.length ud]) := Lib.hid (BH_1.out.below hb BH_1.out.1)
    clear BH_1
    clear hb
    have cHA0 := HA_28.out.c 0 rfl
    have cHA1 := HA_28.out.c 1 rfl
    have cHA2 := HA_28.out.c 2 rfl
    have cHA3 := HA_28.out.c 3 rfl
    have cHA4 := HA_28.out.c 4 rfl
    have cBS0 := BS_23.out.c 0 rfl
    have cBS1 := BS_23.out.c 1 rfl
    have cBS2 := BS_23.out.c 2 rfl
    have cBS3 := BS_23.out.c 3 rfl
    have cBS4 := BS_23.out.c 4 rfl
    have cBX0 := BX_21.out.c 0 rfl
    have cBX1 := BX_21.out.c 1 rfl
    have cBX2 := BX_21.out.c 2 rfl
    have cBX3 := BX_21.out.c 3 rfl
    have cBX4 := BX_21.out.c 4 rfl
    have cBG0 := BG_18.out.c 0 rfl
    have cBG1 := BG_18.out.c 1 rfl
    have cBG2 := BG_18.out.c 2 rfl
    have cBG3 := BG_18.out.c 3 rfl
    have cBG4 := BG_18.out.c 4 rfl
    have cBH0 := BH_2.out.c 0 rfl
    have cBH1 := BH_2.out.c 1 rfl
    have cBH2 := BH_2.out.c 2 rfl
    have cBH3 := BH_2.out.c 3 rfl
    have cBH4 := BH_2.out.c 4 rfl
    go_wp2_with fail
    refine (heldCanal_any lo mid' hi 1 Z0.length Z1.length t0 t1 t2 ta tb tc td _ FM0_8.out FM1_8.out tl0 tl1 (by decide)).mono ?_
    rintro e w25 ⟨rfl, hb⟩
    clear cHA0 cHA1 cHA2 cHA3 cHA4 cBS0 cBS1 cBS2 cBS3 cBS4 cBX0 cBX1 cBX2 cBX3 cBX4 cBG0 cBG1 cBG2 cBG3 cBG4 cBH0 cBH1 cBH2 cBH3 cBH4
    have z25 : w24.heap.size + 0 ≤ w25.heap.size := (by have := hb.size; (try simp at this); omega)
    have BB_30 : Hid (Below w.heap.size w w25) := Lib.hid (BB_29.out.trans (hb.mono BB_29.out.size))
    clear BB_29
    have HA_29 : Hid (Bx w25 (w.heap.size) [.float .f32 n0, .float .f32 n1, .float .f32 n2, .slice a0 zs0.length c0, .slice a1 zs1.length c1]) := Lib.hid (HA_28.out.below hb HA_28.out.1)
    clear HA_28
    have BQ_25 : Hid (Below w4.heap.size w4 w25) := Lib.hid (BQ_24.out.trans (hb.mono BQ_24.out.size))
    clear BQ_24
    have BS_24 : Hid (Bx w25 (w4.heap.size) [.float .f32 s0, .float .f32 s1, .float .f32 s2, .slice sa Z0.length sc, .slice sb Z1.length sd]) := Lib.hid (BS_23.out.below hb BS_23.out.1)
    clear BS_23
    have BX_22 : Hid (Bx w25 (w5.heap.size) [.float .f32 n0, .float .f32 n1, .float .f32 n2, .slice x0 zs0.length d0, .slice x1 zs1.length d1]) := Lib.hid (BX_21.out.below hb BX_21.out.1)
    clear BX_21
    have BG_19 : Hid (Bx w25 (w7.heap.size) [.float .f32 t0, .float .f32 t1, .float .f32 t2, .slice ta Z0.length tc, .slice tb Z1.length td]) := Lib.hid (BG_18.out.below hb BG_18.out.1)
    clear BG_18
    have FM0_9 : Hid (FRow w25 (lo) (mid') (.slice ta Z0.length tc) (marks 1 Z0.length)) := Lib.hid (FM0_8.out.below hb FM0_8.out.2.2)
    clear FM0_8
    have FM1_9 : Hid (FRow w25 (mid') (hi) (.slice tb Z1.length td) (marks (1 + Z0.length) Z1.length)) := Lib.hid (FM1_8.out.below hb FM1_8.out.2.2)
    clear FM1_8
    have FM2_8 : Hid (FRow w25 (lo2) (hi2) (.slice tx Z2.length ty) (marks (1 + Z0.length + Z1.length) Z2.length)) := Lib.hid (FM2_7.out.below hb FM2_7.out.2.2)
    clear FM2_7
    have FU0_4 : Hid (FRow w25 (lo') (mid'') (.slice ua Z0.length uc) Z0) := Lib.hid (FU0_3.out.below hb FU0_3.out.2.2)
    clear FU0_3
    have FU1_4 : Hid (FRow w25 (mid'') (hi') (.slice ub Z1.length ud) Z1) := Lib.hid (FU1_3.out.below hb FU1_3.out.2.2)
    clear FU1_3
    have FU2_4 : Hid (FRow w25 (lo2') (hi2') (.slice ux Z2.length uy) Z2) := Lib.hid (FU2_3.out.below hb FU2_3.out.2.2)
    clear FU2_3
    have BH_3 : Hid (Bx w25 (w22.heap.size) [.float .f32 u0, .float .f32 u1, .float .f32 u2, .slice ua Z0.length uc, .slice ub Z1.length ud]) := Lib.hid (BH_2.out.below hb BH_2.out.1)
    clear BH_2
    clear hb
    have cHA0 := HA_29.out.c 0 rfl
    have cHA1 := HA_29.out.c 1 rfl
    have cHA2 := HA_29.out.c 2 rfl
    have cHA3 := HA_29.out.c 3 rfl
    have cHA4 := HA_29.out.c 4 rfl
    have cBS0 := BS_24.out.c 0 rfl
    have cBS1 := BS_24.out.c 1 rfl
    have cBS2 := BS_24.out.c 2 rfl
    have cBS3 := BS_24.out.c 3 rfl
    have cBS4 := BS_24.out.c 4 rfl
    have cBX0 := BX_22.out.c 0 rfl
    have cBX1 := BX_22.out.c 1 rfl
    have cBX2 := BX_22.out.c 2 rfl
    have cBX3 := BX_22.out.c 3 rfl
    have cBX4 := BX_22.out.c 4 rfl
    have cBG0 := BG_19.out.c 0 rfl
    have cBG1 := BG_19.out.c 1 rfl
    have cBG2 := BG_19.out.c 2 rfl
    have cBG3 := BG_19.out.c 3 rfl
    have cBG4 := BG_19.out.c 4 rfl
    have cBH0 := BH_3.out.c 0 rfl
    have cBH1 := BH_3.out.c 1 rfl
    have cBH2 := BH_3.out.c 2 rfl
    have cBH3 := BH_3.out.c 3 rfl
    have cBH4 := BH_3.out.c 4 rfl
    go_wp2_with fail
    refine (heldF_any lo2 hi2 (1 + Z0.length + Z1.length) Z2.length tx ty _ FM2_8.out tl2 (by omega)).mono ?_
    rintro e w' ⟨rfl, rfl⟩
    clear cHA0 cHA1 cHA2 cHA3 cHA4 cBS0 cBS1 cBS2 cBS3 cBS4 cBX0 cBX1 cBX2 cBX3 cBX4 cBG0 cBG1 cBG2 cBG3 cBG4 cBH0 cBH1 cBH2 cBH3 cBH4
    go_wp2_with fail
    go_ret
    exact ⟨rfl, BB_30.out⟩

set_option maxHeartbeats 1000000 in
theorem walk_FnExactRunCanal (n0 n1 n2 : Nat) (a0 a1 : Option Addr) (l0 l1 c0 c1 : Nat) (zs0 zs1 : List Nat) (a2 : Option Addr) (l2 c2 : Nat) (zs2 : List Nat) (t : Nat) (w : World) (hn0 : n0 < 4294967296) (hn1 : n1 < 4294967296) (hn2 : n2 < 4294967296) (h0 : IsRowF .f32 w a0 l0 c0 zs0) (h1 : IsRowF .f32 w a1 l1 c1 zs1) (h2 : IsRowF .f32 w a2 l2 c2 zs2) (ht : t < 4294967296) :
    Calls Try.prog 7 #[.agg #[.float .f32 n0, .float .f32 n1, .float .f32 n2, .slice a0 l0 c0, .slice a1 l1 c1], .slice a2 l2 c2, .float .f32 t] w fun e w' => e = .returned (.bool true) ∧ Below w.heap.size w w' := by
  obtain ⟨rfl, hcap0, hmax0, hr0, hz0⟩ := h0
  obtain ⟨rfl, hcap1, hmax1, hr1, hz1⟩ := h1
  obtain ⟨rfl, hcap2, hmax2, hr2, hz2⟩ := h2
  unfold maxLen at hmax0 hmax1 hmax2
  by_cases hl2 : zs2.length ≤ 1048576
  rotate_left
  · have hsl : (1048576 : Int) < (zs2.length : Int) := by omega
    clear hr0 hz0 hr1 hz1 hr2 hz2
    go_enter Try.func7, Try.ntmps7
    go_wp2_with fail
    go_ret
    exact ⟨rfl, by first | exact bel1 _ _ | exact Below.refl _ _⟩
  by_cases hsum : zs0.length + zs1.length ≤ 1048576
  · exact runCanalLaw_fits n0 n1 n2 a0 a1 c0 c1 zs0 zs1 a2 c2 zs2 t w hn0 hn1 hn2 hr0 hz0 hr1 hz1 hr2 hz2 ht hsum hl2
  · have HSz := Lib.hid (szCanal_not n0 n1 n2 a0 a1 zs0.length zs1.length c0 c1 1048576 (by omega) (by omega) (by omega) (by omega) (by omega) (w.alloc (.cells #[.float .f32 n0, .float .f32 n1, .float .f32 n2, .slice a0 zs0.length c0, .slice a1 zs1.length c1] 42)))
    have Hsum := Lib.hid hsum
    have hsl : ¬ (1048576 : Int) < (zs2.length : Int) := by omega
    clear hr0 hz0 hr1 hz1 hr2 hz2 hsum
    go_enter Try.func7, Try.ntmps7
    go_wp2_with fail
    refine HSz.out.mono ?_
    rintro e w1 ⟨rfl, hb⟩
    have HB1 : Hid (Below w.heap.size w w1) := Lib.hid ((bel1 w _).trans (hb.mono (by simp)))
    clear hb
    go_wp2_with fail
    go_ret
    exact ⟨rfl, HB1.out⟩
end Go.Proofs.Ytgnkpppbhibfoaa
