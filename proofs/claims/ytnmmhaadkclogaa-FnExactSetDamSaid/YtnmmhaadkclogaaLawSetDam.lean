/- The walk of the law on SetDam. -/
import Derived.Test.YtnmmhaadkclogaaSetDamS
import Derived.Test.YtnmmhaadkclogaaSetDamI
import Derived.Test.YtnmmhaadkclogaaRivO
import Derived.Test.YtnmmhaadkclogaaRegMk
namespace Go.Proofs.Ytnmmhaadkclogaa
open Go.RowKit
set_option linter.unusedVariables false
set_option linter.unusedSimpArgs false
set_option maxRecDepth 100000
attribute [local irreducible] wpV wpList Code.wp

structure setDamS5S (w0 : World) (t0_ t1_ t2_ t3_ t4_ t5_ t6_ t7_ t10_ t11_ t12_ t13_ t14_ t15_ t16_ t17_ t18_ t19_ t20_ t21_ t22_ t32_ t33_ t34_ t35_ t36_ t37_ t38_ t39_ t40_ t41_ t42_ t43_ t44_ t45_ t46_ t47_ t48_ t49_ t50_ t51_ t52_ t53_ t54_ t55_ t56_ t57_ t58_ t59_ t60_ t61_ t62_ t63_ t64_ t65_ t66_ t67_ t68_ t69_ t70_ t71_ t72_ t73_ t74_ t75_ t76_ t77_ t78_ t79_ t80_ t81_ t82_ t83_ t84_ t85_ t86_ t87_ t88_ t89_ t90_ t91_ t92_ t93_ t94_ t95_ t96_ t97_ t98_ t99_ t100_ t101_ t102_ t103_ t104_ t105_ t106_ t107_ t108_ : Value) (i s d9 l9 q : Int) (a0 a1 a2 : Option Addr) (c0 c1 c2 n : Nat) (D M V : List Int) (B : Bool) (rn : Nat) (rD rM rV : List Int) (d : Array Bool) (a : Act) (w9 : World) where
  u8 : Value
  u9 : Value
  u23 : Value
  u24 : Value
  u25 : Value
  u26 : Value
  u27 : Value
  u28 : Value
  u29 : Value
  u30 : Value
  u31 : Value
  x1a0 : Option Addr
  x1a1 : Option Addr
  x1a2 : Option Addr
  x1c0 : Nat
  x1c1 : Nat
  x1c2 : Nat
  lo : Nat
  hi : Nat
  L : Lay
  ta0 : Option Addr
  ta1 : Option Addr
  ta2 : Option Addr
  tc0 : Nat
  tc1 : Nat
  tc2 : Nat
  p : Nat
  ea : a = ⟨#[t0_, t1_, t2_, t3_, t4_, t5_, t6_, t7_, u8, u9, t10_, t11_, t12_, t13_, t14_, t15_, t16_, t17_, t18_, t19_, t20_, t21_, t22_, u23, u24, u25, u26, u27, u28, u29, u30, u31, t32_, t33_, t34_, t35_, t36_, t37_, t38_, t39_, t40_, t41_, t42_, t43_, t44_, t45_, t46_, t47_, t48_, t49_, t50_, t51_, t52_, t53_, t54_, t55_, t56_, t57_, t58_, t59_, t60_, t61_, t62_, t63_, t64_, t65_, t66_, t67_, t68_, t69_, t70_, t71_, t72_, t73_, t74_, t75_, t76_, t77_, t78_, t79_, t80_, t81_, t82_, t83_, t84_, t85_, t86_, t87_, t88_, t89_, t90_, t91_, t92_, t93_, t94_, t95_, t96_, t97_, t98_, t99_, t100_, t101_, t102_, t103_, t104_, t105_, t106_, t107_, t108_], []⟩
  f0 : Gd d 0 (u24 = .agg #[.slice a0 D.length c0, .slice a1 n c1, .slice a2 V.length c2])
  f1 : Gd d 1 (u25 = .agg #[.slice x1a0 D.length x1c0, .slice x1a1 n x1c1, .slice x1a2 V.length x1c2])
  f2 : Gd d 2 (u26 = .int .i64 i)
  f3 : Gd d 3 (u27 = .agg #[.int .i64 s, .int .i64 d9, .int .i64 l9, .int .i64 q])
  f4 : Gd d 4 (u28 = .agg #[.int .i64 s, .int .i64 d9, .int .i64 l9, .int .i64 q])
  f5 : Gd d 5 (u29 = .tuple #[.agg #[.slice ta0 rD.length tc0, .slice ta1 rn tc1, .slice ta2 rV.length tc2], .bool B])
  f6 : Gd d 6 (u23 = .tuple #[.agg #[.slice ta0 rD.length tc0, .slice ta1 rn tc1, .slice ta2 rV.length tc2], .bool B])
  f7 : Gd d 7 (u30 = .agg #[.slice ta0 rD.length tc0, .slice ta1 rn tc1, .slice ta2 rV.length tc2])
  f8 : Gd d 8 (u31 = .bool B)
  f9 : Gd d 9 (u8 = .pointer (some ⟨p, 0, none⟩))
  f11 : Gd d 11 (u9 = .bool B)
  r1 : Gd d 1 (Ng d 5 (RowC w9 x1a0 (ic D) ∧ RowC w9 x1a1 (ic M) ∧ RowC w9 x1a2 (ic V)))
  rf : Gd d 5 (RivAt w9 lo hi L ta0 ta1 ta2 tc0 tc1 tc2 rn rD rM rV ∧ w0.heap.size ≤ lo)
  s8 : Gd d 9 (p < w9.heap.size ∧ w0.heap.size ≤ p)
  n8 : Gd d 5 (Gd d 9 (p < lo ∨ hi ≤ p))
  b8 : Gd d 9 (Ng d 10 (Bw w9 p [.slice none 0 0, .slice none 0 0, .slice none 0 0]))
  b9 : Gd d 10 (Bw w9 p [.slice ta0 rD.length tc0, .slice ta1 rn tc1, .slice ta2 rV.length tc2])
  hbel : Below w0.heap.size w0 w9
def setDamS5 (w0 : World) (t0_ t1_ t2_ t3_ t4_ t5_ t6_ t7_ t10_ t11_ t12_ t13_ t14_ t15_ t16_ t17_ t18_ t19_ t20_ t21_ t22_ t32_ t33_ t34_ t35_ t36_ t37_ t38_ t39_ t40_ t41_ t42_ t43_ t44_ t45_ t46_ t47_ t48_ t49_ t50_ t51_ t52_ t53_ t54_ t55_ t56_ t57_ t58_ t59_ t60_ t61_ t62_ t63_ t64_ t65_ t66_ t67_ t68_ t69_ t70_ t71_ t72_ t73_ t74_ t75_ t76_ t77_ t78_ t79_ t80_ t81_ t82_ t83_ t84_ t85_ t86_ t87_ t88_ t89_ t90_ t91_ t92_ t93_ t94_ t95_ t96_ t97_ t98_ t99_ t100_ t101_ t102_ t103_ t104_ t105_ t106_ t107_ t108_ : Value) (i s d9 l9 q : Int) (a0 a1 a2 : Option Addr) (c0 c1 c2 n : Nat) (D M V : List Int) (B : Bool) (rn : Nat) (rD rM rV : List Int) (d : Array Bool) (a : Act) (w9 : World) : Prop := Nonempty (setDamS5S w0 t0_ t1_ t2_ t3_ t4_ t5_ t6_ t7_ t10_ t11_ t12_ t13_ t14_ t15_ t16_ t17_ t18_ t19_ t20_ t21_ t22_ t32_ t33_ t34_ t35_ t36_ t37_ t38_ t39_ t40_ t41_ t42_ t43_ t44_ t45_ t46_ t47_ t48_ t49_ t50_ t51_ t52_ t53_ t54_ t55_ t56_ t57_ t58_ t59_ t60_ t61_ t62_ t63_ t64_ t65_ t66_ t67_ t68_ t69_ t70_ t71_ t72_ t73_ t74_ t75_ t76_ t77_ t78_ t79_ t80_ t81_ t82_ t83_ t84_ t85_ t86_ t87_ t88_ t89_ t90_ t91_ t92_ t93_ t94_ t95_ t96_ t97_ t98_ t99_ t100_ t101_ t102_ t103_ t104_ t105_ t106_ t107_ t108_ i s d9 l9 q a0 a1 a2 c0 c1 c2 n D M V B rn rD rM rV d a w9)

structure setDamS7S (w0 : World) (t0_ t1_ t2_ t3_ t4_ t5_ t6_ t7_ t8_ t9_ t10_ t13_ t14_ t15_ t16_ t17_ t18_ t19_ t20_ t21_ t22_ t23_ t24_ t25_ t26_ t27_ t28_ t29_ t30_ t31_ t32_ t33_ t42_ t43_ t44_ t45_ t46_ t47_ t48_ t49_ t50_ t51_ t52_ t53_ t54_ t55_ t56_ t57_ t58_ t59_ t60_ t61_ t62_ t63_ t64_ t65_ t66_ t67_ t68_ t69_ t70_ t71_ t72_ t73_ t74_ t75_ t76_ t77_ t78_ t79_ t80_ t81_ t82_ t83_ t84_ t85_ t86_ t87_ t88_ t89_ t90_ t91_ t92_ t93_ t94_ t95_ t96_ t97_ t98_ t99_ t100_ t101_ t102_ t103_ t104_ t105_ t106_ t107_ t108_ : Value) (xa0 xa1 xa2 : Option Addr) (xc0 xc1 xc2 : Nat) (i s d9 l9 q : Int) (a0 a1 a2 : Option Addr) (c0 c1 c2 n : Nat) (D M V : List Int) (B : Bool) (rn : Nat) (rD rM rV : List Int) (d : Array Bool) (a : Act) (w9 : World) where
  u11 : Value
  u12 : Value
  u34 : Value
  u35 : Value
  u36 : Value
  u37 : Value
  u38 : Value
  u39 : Value
  u40 : Value
  u41 : Value
  lo : Nat
  hi : Nat
  L : Lay
  ta0 : Option Addr
  ta1 : Option Addr
  ta2 : Option Addr
  tc0 : Nat
  tc1 : Nat
  tc2 : Nat
  p : Nat
  ea : a = ⟨#[t0_, t1_, t2_, t3_, t4_, t5_, t6_, t7_, t8_, t9_, t10_, u11, u12, t13_, t14_, t15_, t16_, t17_, t18_, t19_, t20_, t21_, t22_, t23_, t24_, t25_, t26_, t27_, t28_, t29_, t30_, t31_, t32_, t33_, u34, u35, u36, u37, u38, u39, u40, u41, t42_, t43_, t44_, t45_, t46_, t47_, t48_, t49_, t50_, t51_, t52_, t53_, t54_, t55_, t56_, t57_, t58_, t59_, t60_, t61_, t62_, t63_, t64_, t65_, t66_, t67_, t68_, t69_, t70_, t71_, t72_, t73_, t74_, t75_, t76_, t77_, t78_, t79_, t80_, t81_, t82_, t83_, t84_, t85_, t86_, t87_, t88_, t89_, t90_, t91_, t92_, t93_, t94_, t95_, t96_, t97_, t98_, t99_, t100_, t101_, t102_, t103_, t104_, t105_, t106_, t107_, t108_], []⟩
  f0 : Gd d 0 (u35 = .agg #[.slice xa0 D.length xc0, .slice xa1 n xc1, .slice xa2 V.length xc2])
  f1 : Gd d 1 (u36 = .int .i64 i)
  f2 : Gd d 2 (u37 = .agg #[.int .i64 s, .int .i64 d9, .int .i64 l9, .int .i64 q])
  f3 : Gd d 3 (u38 = .agg #[.int .i64 s, .int .i64 d9, .int .i64 l9, .int .i64 q])
  f4 : Gd d 4 (u39 = .tuple #[.agg #[.slice ta0 rD.length tc0, .slice ta1 rn tc1, .slice ta2 rV.length tc2], .bool B])
  f5 : Gd d 5 (u34 = .tuple #[.agg #[.slice ta0 rD.length tc0, .slice ta1 rn tc1, .slice ta2 rV.length tc2], .bool B])
  f6 : Gd d 6 (u40 = .agg #[.slice ta0 rD.length tc0, .slice ta1 rn tc1, .slice ta2 rV.length tc2])
  f7 : Gd d 7 (u41 = .bool B)
  f8 : Gd d 8 (u11 = .pointer (some ⟨p, 0, none⟩))
  f10 : Gd d 10 (u12 = .bool B)
  rf : Gd d 4 (RivAt w9 lo hi L ta0 ta1 ta2 tc0 tc1 tc2 rn rD rM rV ∧ w0.heap.size ≤ lo)
  s8 : Gd d 8 (p < w9.heap.size ∧ w0.heap.size ≤ p)
  n8 : Gd d 4 (Gd d 8 (p < lo ∨ hi ≤ p))
  b8 : Gd d 8 (Ng d 9 (Bw w9 p [.slice none 0 0, .slice none 0 0, .slice none 0 0]))
  b9 : Gd d 9 (Bw w9 p [.slice ta0 rD.length tc0, .slice ta1 rn tc1, .slice ta2 rV.length tc2])
  hbel : Below w0.heap.size w0 w9
def setDamS7 (w0 : World) (t0_ t1_ t2_ t3_ t4_ t5_ t6_ t7_ t8_ t9_ t10_ t13_ t14_ t15_ t16_ t17_ t18_ t19_ t20_ t21_ t22_ t23_ t24_ t25_ t26_ t27_ t28_ t29_ t30_ t31_ t32_ t33_ t42_ t43_ t44_ t45_ t46_ t47_ t48_ t49_ t50_ t51_ t52_ t53_ t54_ t55_ t56_ t57_ t58_ t59_ t60_ t61_ t62_ t63_ t64_ t65_ t66_ t67_ t68_ t69_ t70_ t71_ t72_ t73_ t74_ t75_ t76_ t77_ t78_ t79_ t80_ t81_ t82_ t83_ t84_ t85_ t86_ t87_ t88_ t89_ t90_ t91_ t92_ t93_ t94_ t95_ t96_ t97_ t98_ t99_ t100_ t101_ t102_ t103_ t104_ t105_ t106_ t107_ t108_ : Value) (xa0 xa1 xa2 : Option Addr) (xc0 xc1 xc2 : Nat) (i s d9 l9 q : Int) (a0 a1 a2 : Option Addr) (c0 c1 c2 n : Nat) (D M V : List Int) (B : Bool) (rn : Nat) (rD rM rV : List Int) (d : Array Bool) (a : Act) (w9 : World) : Prop := Nonempty (setDamS7S w0 t0_ t1_ t2_ t3_ t4_ t5_ t6_ t7_ t8_ t9_ t10_ t13_ t14_ t15_ t16_ t17_ t18_ t19_ t20_ t21_ t22_ t23_ t24_ t25_ t26_ t27_ t28_ t29_ t30_ t31_ t32_ t33_ t42_ t43_ t44_ t45_ t46_ t47_ t48_ t49_ t50_ t51_ t52_ t53_ t54_ t55_ t56_ t57_ t58_ t59_ t60_ t61_ t62_ t63_ t64_ t65_ t66_ t67_ t68_ t69_ t70_ t71_ t72_ t73_ t74_ t75_ t76_ t77_ t78_ t79_ t80_ t81_ t82_ t83_ t84_ t85_ t86_ t87_ t88_ t89_ t90_ t91_ t92_ t93_ t94_ t95_ t96_ t97_ t98_ t99_ t100_ t101_ t102_ t103_ t104_ t105_ t106_ t107_ t108_ xa0 xa1 xa2 xc0 xc1 xc2 i s d9 l9 q a0 a1 a2 c0 c1 c2 n D M V B rn rD rM rV d a w9)

structure setDamS24S (w0 : World) (t0_ t1_ t2_ t3_ t4_ t5_ t6_ t7_ t8_ t9_ t10_ t11_ t12_ t13_ t14_ t15_ t18_ t19_ t20_ t21_ t22_ t23_ t24_ t25_ t26_ t27_ t28_ t29_ t30_ t31_ t32_ t33_ t34_ t35_ t36_ t37_ t38_ t39_ t40_ t41_ t42_ t43_ t44_ t45_ t46_ t47_ t48_ t49_ t50_ t51_ t52_ t53_ t54_ t55_ t56_ t57_ t58_ t59_ t60_ t61_ t62_ t63_ t64_ t65_ t66_ t67_ t68_ t69_ t70_ t71_ t72_ t73_ t74_ t75_ t76_ t77_ t78_ t79_ t80_ t81_ t82_ t92_ t93_ t94_ t95_ t96_ t97_ t98_ t99_ t100_ t101_ t102_ t103_ t104_ t105_ t106_ t107_ t108_ : Value) (i s d9 l9 q : Int) (a0 a1 a2 : Option Addr) (c0 c1 c2 n : Nat) (D M V : List Int) (B : Bool) (rn : Nat) (rD rM rV : List Int) (d : Array Bool) (a : Act) (w9 : World) where
  u16 : Value
  u17 : Value
  u83 : Value
  u84 : Value
  u85 : Value
  u86 : Value
  u87 : Value
  u88 : Value
  u89 : Value
  u90 : Value
  u91 : Value
  x1a0 : Option Addr
  x1a1 : Option Addr
  x1a2 : Option Addr
  x1c0 : Nat
  x1c1 : Nat
  x1c2 : Nat
  lo : Nat
  hi : Nat
  L : Lay
  ta0 : Option Addr
  ta1 : Option Addr
  ta2 : Option Addr
  tc0 : Nat
  tc1 : Nat
  tc2 : Nat
  p : Nat
  ea : a = ⟨#[t0_, t1_, t2_, t3_, t4_, t5_, t6_, t7_, t8_, t9_, t10_, t11_, t12_, t13_, t14_, t15_, u16, u17, t18_, t19_, t20_, t21_, t22_, t23_, t24_, t25_, t26_, t27_, t28_, t29_, t30_, t31_, t32_, t33_, t34_, t35_, t36_, t37_, t38_, t39_, t40_, t41_, t42_, t43_, t44_, t45_, t46_, t47_, t48_, t49_, t50_, t51_, t52_, t53_, t54_, t55_, t56_, t57_, t58_, t59_, t60_, t61_, t62_, t63_, t64_, t65_, t66_, t67_, t68_, t69_, t70_, t71_, t72_, t73_, t74_, t75_, t76_, t77_, t78_, t79_, t80_, t81_, t82_, u83, u84, u85, u86, u87, u88, u89, u90, u91, t92_, t93_, t94_, t95_, t96_, t97_, t98_, t99_, t100_, t101_, t102_, t103_, t104_, t105_, t106_, t107_, t108_], []⟩
  f0 : Gd d 0 (u84 = .agg #[.slice a0 D.length c0, .slice a1 n c1, .slice a2 V.length c2])
  f1 : Gd d 1 (u85 = .agg #[.slice x1a0 D.length x1c0, .slice x1a1 n x1c1, .slice x1a2 V.length x1c2])
  f2 : Gd d 2 (u86 = .int .i64 i)
  f3 : Gd d 3 (u87 = .agg #[.int .i64 s, .int .i64 d9, .int .i64 l9, .int .i64 q])
  f4 : Gd d 4 (u88 = .agg #[.int .i64 s, .int .i64 d9, .int .i64 l9, .int .i64 q])
  f5 : Gd d 5 (u89 = .tuple #[.agg #[.slice ta0 rD.length tc0, .slice ta1 rn tc1, .slice ta2 rV.length tc2], .bool B])
  f6 : Gd d 6 (u83 = .tuple #[.agg #[.slice ta0 rD.length tc0, .slice ta1 rn tc1, .slice ta2 rV.length tc2], .bool B])
  f7 : Gd d 7 (u90 = .agg #[.slice ta0 rD.length tc0, .slice ta1 rn tc1, .slice ta2 rV.length tc2])
  f8 : Gd d 8 (u91 = .bool B)
  f9 : Gd d 9 (u16 = .pointer (some ⟨p, 0, none⟩))
  f11 : Gd d 11 (u17 = .bool B)
  r1 : Gd d 1 (Ng d 5 (RowC w9 x1a0 (ic D) ∧ RowC w9 x1a1 (ic M) ∧ RowC w9 x1a2 (ic V)))
  rf : Gd d 5 (RivAt w9 lo hi L ta0 ta1 ta2 tc0 tc1 tc2 rn rD rM rV ∧ w0.heap.size ≤ lo)
  s8 : Gd d 9 (p < w9.heap.size ∧ w0.heap.size ≤ p)
  n8 : Gd d 5 (Gd d 9 (p < lo ∨ hi ≤ p))
  b8 : Gd d 9 (Ng d 10 (Bw w9 p [.slice none 0 0, .slice none 0 0, .slice none 0 0]))
  b9 : Gd d 10 (Bw w9 p [.slice ta0 rD.length tc0, .slice ta1 rn tc1, .slice ta2 rV.length tc2])
  hbel : Below w0.heap.size w0 w9
def setDamS24 (w0 : World) (t0_ t1_ t2_ t3_ t4_ t5_ t6_ t7_ t8_ t9_ t10_ t11_ t12_ t13_ t14_ t15_ t18_ t19_ t20_ t21_ t22_ t23_ t24_ t25_ t26_ t27_ t28_ t29_ t30_ t31_ t32_ t33_ t34_ t35_ t36_ t37_ t38_ t39_ t40_ t41_ t42_ t43_ t44_ t45_ t46_ t47_ t48_ t49_ t50_ t51_ t52_ t53_ t54_ t55_ t56_ t57_ t58_ t59_ t60_ t61_ t62_ t63_ t64_ t65_ t66_ t67_ t68_ t69_ t70_ t71_ t72_ t73_ t74_ t75_ t76_ t77_ t78_ t79_ t80_ t81_ t82_ t92_ t93_ t94_ t95_ t96_ t97_ t98_ t99_ t100_ t101_ t102_ t103_ t104_ t105_ t106_ t107_ t108_ : Value) (i s d9 l9 q : Int) (a0 a1 a2 : Option Addr) (c0 c1 c2 n : Nat) (D M V : List Int) (B : Bool) (rn : Nat) (rD rM rV : List Int) (d : Array Bool) (a : Act) (w9 : World) : Prop := Nonempty (setDamS24S w0 t0_ t1_ t2_ t3_ t4_ t5_ t6_ t7_ t8_ t9_ t10_ t11_ t12_ t13_ t14_ t15_ t18_ t19_ t20_ t21_ t22_ t23_ t24_ t25_ t26_ t27_ t28_ t29_ t30_ t31_ t32_ t33_ t34_ t35_ t36_ t37_ t38_ t39_ t40_ t41_ t42_ t43_ t44_ t45_ t46_ t47_ t48_ t49_ t50_ t51_ t52_ t53_ t54_ t55_ t56_ t57_ t58_ t59_ t60_ t61_ t62_ t63_ t64_ t65_ t66_ t67_ t68_ t69_ t70_ t71_ t72_ t73_ t74_ t75_ t76_ t77_ t78_ t79_ t80_ t81_ t82_ t92_ t93_ t94_ t95_ t96_ t97_ t98_ t99_ t100_ t101_ t102_ t103_ t104_ t105_ t106_ t107_ t108_ i s d9 l9 q a0 a1 a2 c0 c1 c2 n D M V B rn rD rM rV d a w9)

set_option maxHeartbeats 32000000 in
theorem setDamLaw_fits (a0 a1 a2 : Option Addr) (c0 c1 c2 n : Nat) (D M V : List Int) (i s d9 l9 q : Int) (w : World) (ha0 : RowC w a0 (ic D)) (ha1 : RowC w a1 (ic M)) (ha2 : RowC w a2 (ic V)) (hM : M.length = n * 4) (hwi : (Lit.int .i64 i).wf = true) (h1 : (D.length : Int) + (n : Int) + (V.length : Int) ≤ 1048576) :
    Calls Try.prog 4 #[.agg #[.slice a0 D.length c0, .slice a1 n c1, .slice a2 V.length c2], .int .i64 i, .agg #[.int .i64 s, .int .i64 d9, .int .i64 l9, .int .i64 q]] w fun e w' => e = .returned (.bool true) ∧ Below w.heap.size w w' := by
  have hlD : D.length ≤ 1048576 := by omega
  have hln : n ≤ 1048576 := by omega
  have hlV : V.length ≤ 1048576 := by omega
  have g1 : ¬ (1048576 : Int) - (D.length : Int) - (n : Int) - (V.length : Int) < 0 := by omega
  have HM := Lib.hid hM
  clear hM
  have hlim := setDR_len D M V n i s d9 l9 q
  obtain ⟨⟨rn, rD, rM, rV, B⟩, hR⟩ : ∃ R, setDR D M V n i s d9 l9 q = R := ⟨_, rfl⟩
  rw [hR] at hlim
  simp only at hlim
  have HS : Hid (∀ (b0 b1 b2 : Option Addr) (d0 d1 d2 : Nat) (W : World), RowC W b0 (ic D) → RowC W b1 (ic M) → RowC W b2 (ic V) → Calls Try.prog 20 #[.agg #[.slice b0 D.length d0, .slice b1 n d1, .slice b2 V.length d2], .int .i64 i, .agg #[.int .i64 s, .int .i64 d9, .int .i64 l9, .int .i64 q]] W (RivP ⟨rn, rD, rM, rV, B⟩ W)) := Lib.hid fun b0 b1 b2 d0 d1 d2 W k0 k1 k2 => by
    have h9 := setDam_s b0 b1 b2 D.length n V.length d0 d1 d2 D M V i s d9 l9 q W hwi k0 k1 k2 rfl HM.out rfl ⟨hlD, hln, hlV⟩
    rw [hR] at h9
    exact h9
  have HI : Hid (∀ (b0 b1 b2 : Option Addr) (d0 d1 d2 : Nat) (W : World), RowC W b0 (ic D) → RowC W b1 (ic M) → RowC W b2 (ic V) → Calls Try.prog 22 #[.agg #[.slice b0 D.length d0, .slice b1 n d1, .slice b2 V.length d2], .int .i64 i, .agg #[.int .i64 s, .int .i64 d9, .int .i64 l9, .int .i64 q]] W (RivP ⟨rn, rD, rM, rV, B⟩ W)) := Lib.hid fun b0 b1 b2 d0 d1 d2 W k0 k1 k2 => by
    have h9 := setDam_i b0 b1 b2 D.length n V.length d0 d1 d2 D M V i s d9 l9 q W hwi k0 k1 k2 rfl HM.out rfl ⟨hlD, hln, hlV⟩
    rw [hR] at h9
    exact h9
  clear hR hwi
  have HA0 := Lib.hid ha0
  have HA1 := Lib.hid ha1
  have HA2 := Lib.hid ha2
  clear ha0 ha1 ha2
  obtain ⟨w1, hW1⟩ : ∃ W, (w.alloc (.cells #[.slice a0 D.length c0, .slice a1 n c1, .slice a2 V.length c2] 25)).alloc (.cells #[.int .i64 s, .int .i64 d9, .int .i64 l9, .int .i64 q] 35) = W := ⟨_, rfl⟩
  have Bel_0 : Hid (Below w.heap.size w w1) := Lib.hid (by rw [← hW1]; exact below2 w _ _)
  have BA_0 : Hid (Bx w1 (w.heap.size) [.slice a0 D.length c0, .slice a1 n c1, .slice a2 V.length c2]) := Lib.hid (by rw [← hW1]; exact (Bx.new w [.slice a0 D.length c0, .slice a1 n c1, .slice a2 V.length c2] _).alloc _)
  have BD_0 : Hid (Bx w1 ((w.heap.size + 1)) [.int .i64 s, .int .i64 d9, .int .i64 l9, .int .i64 q]) := Lib.hid (by rw [← hW1]; exact Bx.new1G w _ [.int .i64 s, .int .i64 d9, .int .i64 l9, .int .i64 q] _)
  have z1 : w.heap.size + 2 ≤ w1.heap.size := by rw [← hW1]; simp
  have HW1 := Lib.hid hW1
  clear hW1
  go_enter Try.func4, Try.ntmps4
  go_upto_region 1 with fail
  rw [HW1.out]
  clear HW1
  have cBA0 := BA_0.out.c 0 rfl
  have cBA1 := BA_0.out.c 1 rfl
  have cBA2 := BA_0.out.c 2 rfl
  have cBD0 := BD_0.out.c 0 rfl
  have cBD1 := BD_0.out.c 1 rfl
  have cBD2 := BD_0.out.c 2 rfl
  have cBD3 := BD_0.out.c 3 rfl
  go_wp2_with fail
  refine (szRiver_fits a0 a1 a2 D.length n V.length c0 c1 c2 1048576 (by omega) (by omega) _).mono ?_
  rintro e w2 ⟨rfl, hb⟩
  clear cBA0 cBA1 cBA2 cBD0 cBD1 cBD2 cBD3
  have z2 : w1.heap.size + 0 ≤ w2.heap.size := (by have := hb.size; (try simp at this); omega)
  have Bel_1 : Hid (Below w.heap.size w w2) := Lib.hid (Bel_0.out.trans (hb.mono Bel_0.out.size))
  clear Bel_0
  have BA_1 : Hid (Bx w2 (w.heap.size) [.slice a0 D.length c0, .slice a1 n c1, .slice a2 V.length c2]) := Lib.hid (BA_0.out.below hb BA_0.out.1)
  clear BA_0
  have BD_1 : Hid (Bx w2 ((w.heap.size + 1)) [.int .i64 s, .int .i64 d9, .int .i64 l9, .int .i64 q]) := Lib.hid (BD_0.out.below hb BD_0.out.1)
  clear BD_0
  clear hb
  have cBA0 := BA_1.out.c 0 rfl
  have cBA1 := BA_1.out.c 1 rfl
  have cBA2 := BA_1.out.c 2 rfl
  have cBD0 := BD_1.out.c 0 rfl
  have cBD1 := BD_1.out.c 1 rfl
  have cBD2 := BD_1.out.c 2 rfl
  have cBD3 := BD_1.out.c 3 rfl
  go_wp2_with fail
  clear cBA0 cBA1 cBA2 cBD0 cBD1 cBD2 cBD3
  refine wp_region_inv (id := 5) (setDamS5 (w2) _ _ _ _ _ _ _ _ _ _ _ _ _ _ _ _ _ _ _ _ _ _ _ _ _ _ _ _ _ _ _ _ _ _ _ _ _ _ _ _ _ _ _ _ _ _ _ _ _ _ _ _ _ _ _ _ _ _ _ _ _ _ _ _ _ _ _ _ _ _ _ _ _ _ _ _ _ _ _ _ _ _ _ _ _ _ _ _ _ _ _ _ _ _ _ _ _ _ i s d9 l9 q a0 a1 a2 c0 c1 c2 n D M V B rn rD rM rV) (by kernel_rfl) (by kernel_rfl) ⟨⟨_, _, _, _, _, _, _, _, _, _, _, none, none, none, 0, 0, 0, 0, 0, ⟨0, 0, 0, 0, 0, 0⟩, none, none, none, 0, 0, 0, 0, rfl, .start, .start, .start, .start, .start, .start, .start, .start, .start, .start, .start, .start, .start, .start, .start, .start, .start, beld (Below.refl _ _) 1⟩⟩ ?hendt ?hstepst
  rotate_left
  case hstepst =>
    refine .cons 1 rfl ?_ ?_
    · intro d a w9 hsz hcl hinv hd hdep
      obtain ⟨⟨u8, u9, u23, u24, u25, u26, u27, u28, u29, u30, u31, x1a0, x1a1, x1a2, x1c0, x1c1, x1c2, lo, hi, L, ta0, ta1, ta2, tc0, tc1, tc2, p, rfl, f0, f1, f2, f3, f4, f5, f6, f7, f8, f9, f11, r1, rf, s8, n8, b8, b9, hbel⟩⟩ := hinv
      have bx := BA_1.out.below hbel BA_1.out.1
      have k0_ := bx.c 0 rfl
      have k1_ := bx.c 1 rfl
      have k2_ := bx.c 2 rfl
      go_wp2_with fail
      exact ⟨⟨u8, u9, u23, (.agg #[.slice a0 D.length c0, .slice a1 n c1, .slice a2 V.length c2]), u25, u26, u27, u28, u29, u30, u31, x1a0, x1a1, x1a2, x1c0, x1c1, x1c2, lo, hi, L, ta0, ta1, ta2, tc0, tc1, tc2, p, rfl, Gd.new (by first | rfl | simp), (f1.keep (i := 0) (by decide)), (f2.keep (i := 0) (by decide)), (f3.keep (i := 0) (by decide)), (f4.keep (i := 0) (by decide)), (f5.keep (i := 0) (by decide)), (f6.keep (i := 0) (by decide)), (f7.keep (i := 0) (by decide)), (f8.keep (i := 0) (by decide)), (f9.keep (i := 0) (by decide)), (f11.keep (i := 0) (by decide)), (Gd.keep (i := 0) (r1.imp fun h => Ng.keep (i := 0) h (by decide)) (by decide)), (rf.keep (i := 0) (by decide)), (s8.keep (i := 0) (by decide)), (Gd.keep (i := 0) (n8.imp fun h => Gd.keep (i := 0) h (by decide)) (by decide)), (Gd.keep (i := 0) (b8.imp fun h => Ng.keep (i := 0) h (by decide)) (by decide)), (b9.keep (i := 0) (by decide)), hbel⟩⟩
    refine .cons 2 rfl ?_ ?_
    · intro d a w9 hsz hcl hinv hd hdep
      obtain ⟨⟨u8, u9, u23, u24, u25, u26, u27, u28, u29, u30, u31, x1a0, x1a1, x1a2, x1c0, x1c1, x1c2, lo, hi, L, ta0, ta1, ta2, tc0, tc1, tc2, p, rfl, f0, f1, f2, f3, f4, f5, f6, f7, f8, f9, f11, r1, rf, s8, n8, b8, b9, hbel⟩⟩ := hinv
      have e0 := f0 (hdep.get 0 rfl)
      subst e0
      have q1 := hd
      have q5 := hcl.not q1 5 _ rfl rfl
      have q6 := hcl.not q5 6 _ rfl rfl
      have q7 := hcl.not q6 7 _ rfl rfl
      have q8 := hcl.not q6 8 _ rfl rfl
      have q10 := hcl.not q7 10 _ rfl rfl
      have q11 := hcl.not q8 11 _ rfl rfl
      go_wp2_with fail
      refine (toRiver_any a0 a1 a2 c0 c1 c2 n D M V _ (HA0.out.below (Bel_1.out.trans (hbel.mono Bel_1.out.size)) (Nat.le_refl _)) (HA1.out.below (Bel_1.out.trans (hbel.mono Bel_1.out.size)) (Nat.le_refl _)) (HA2.out.below (Bel_1.out.trans (hbel.mono Bel_1.out.size)) (Nat.le_refl _)) hlD hln hlV HM.out).mono ?_
      rintro e w8 ⟨ya0, yc0, ya1, yc1, ya2, yc2, yL, rfl, hb, hr⟩
      go_wp2_with fail
      exact ⟨⟨u8, u9, u23, (.agg #[.slice a0 D.length c0, .slice a1 n c1, .slice a2 V.length c2]), (.agg #[.slice ya0 D.length yc0, .slice ya1 n yc1, .slice ya2 V.length yc2]), u26, u27, u28, u29, u30, u31, ya0, ya1, ya2, yc0, yc1, yc2, lo, hi, L, ta0, ta1, ta2, tc0, tc1, tc2, p, rfl, Gd.new rfl, Gd.new rfl, (f2.keep (i := 1) (by decide)), (f3.keep (i := 1) (by decide)), (f4.keep (i := 1) (by decide)), (Gd.undone (i := 1) (q5) (by decide)), (Gd.undone (i := 1) (q6) (by decide)), (Gd.undone (i := 1) (q7) (by decide)), (Gd.undone (i := 1) (q8) (by decide)), (f9.keep (i := 1) (by decide)), (Gd.undone (i := 1) (q11) (by decide)), Gd.new (fun _ => ⟨hr.r0.row, hr.r1.row, hr.r2.row⟩), (Gd.undone (i := 1) (q5) (by decide)), (Gd.keep (i := 1) (fun h9 => ⟨Nat.lt_of_lt_of_le (s8 h9).1 hb.size, (s8 h9).2⟩) (by decide)), (Gd.undone (i := 1) (q5) (by decide)), (Gd.keep (i := 1) (fun h9 => Ng.keep (i := 1) (fun h8 => (b8 h9 h8).below hb (s8 h9).1) (by decide)) (by decide)), (Gd.undone (i := 1) (q10) (by decide)), (hbel.trans (hb.mono hbel.size))⟩⟩
    refine .cons 3 rfl ?_ ?_
    · intro d a w9 hsz hcl hinv hd hdep
      obtain ⟨⟨u8, u9, u23, u24, u25, u26, u27, u28, u29, u30, u31, x1a0, x1a1, x1a2, x1c0, x1c1, x1c2, lo, hi, L, ta0, ta1, ta2, tc0, tc1, tc2, p, rfl, f0, f1, f2, f3, f4, f5, f6, f7, f8, f9, f11, r1, rf, s8, n8, b8, b9, hbel⟩⟩ := hinv
      go_wp2_with fail
      exact ⟨⟨u8, u9, u23, u24, u25, (.int .i64 i), u27, u28, u29, u30, u31, x1a0, x1a1, x1a2, x1c0, x1c1, x1c2, lo, hi, L, ta0, ta1, ta2, tc0, tc1, tc2, p, rfl, (f0.keep (i := 2) (by decide)), (f1.keep (i := 2) (by decide)), Gd.new (by first | rfl | simp), (f3.keep (i := 2) (by decide)), (f4.keep (i := 2) (by decide)), (f5.keep (i := 2) (by decide)), (f6.keep (i := 2) (by decide)), (f7.keep (i := 2) (by decide)), (f8.keep (i := 2) (by decide)), (f9.keep (i := 2) (by decide)), (f11.keep (i := 2) (by decide)), (Gd.keep (i := 2) (r1.imp fun h => Ng.keep (i := 2) h (by decide)) (by decide)), (rf.keep (i := 2) (by decide)), (s8.keep (i := 2) (by decide)), (Gd.keep (i := 2) (n8.imp fun h => Gd.keep (i := 2) h (by decide)) (by decide)), (Gd.keep (i := 2) (b8.imp fun h => Ng.keep (i := 2) h (by decide)) (by decide)), (b9.keep (i := 2) (by decide)), hbel⟩⟩
    refine .cons 4 rfl ?_ ?_
    · intro d a w9 hsz hcl hinv hd hdep
      obtain ⟨⟨u8, u9, u23, u24, u25, u26, u27, u28, u29, u30, u31, x1a0, x1a1, x1a2, x1c0, x1c1, x1c2, lo, hi, L, ta0, ta1, ta2, tc0, tc1, tc2, p, rfl, f0, f1, f2, f3, f4, f5, f6, f7, f8, f9, f11, r1, rf, s8, n8, b8, b9, hbel⟩⟩ := hinv
      have bx := BD_1.out.below hbel BD_1.out.1
      have k0_ := bx.c 0 rfl
      have k1_ := bx.c 1 rfl
      have k2_ := bx.c 2 rfl
      have k3_ := bx.c 3 rfl
      go_wp2_with fail
      exact ⟨⟨u8, u9, u23, u24, u25, u26, (.agg #[.int .i64 s, .int .i64 d9, .int .i64 l9, .int .i64 q]), u28, u29, u30, u31, x1a0, x1a1, x1a2, x1c0, x1c1, x1c2, lo, hi, L, ta0, ta1, ta2, tc0, tc1, tc2, p, rfl, (f0.keep (i := 3) (by decide)), (f1.keep (i := 3) (by decide)), (f2.keep (i := 3) (by decide)), Gd.new (by first | rfl | simp), (f4.keep (i := 3) (by decide)), (f5.keep (i := 3) (by decide)), (f6.keep (i := 3) (by decide)), (f7.keep (i := 3) (by decide)), (f8.keep (i := 3) (by decide)), (f9.keep (i := 3) (by decide)), (f11.keep (i := 3) (by decide)), (Gd.keep (i := 3) (r1.imp fun h => Ng.keep (i := 3) h (by decide)) (by decide)), (rf.keep (i := 3) (by decide)), (s8.keep (i := 3) (by decide)), (Gd.keep (i := 3) (n8.imp fun h => Gd.keep (i := 3) h (by decide)) (by decide)), (Gd.keep (i := 3) (b8.imp fun h => Ng.keep (i := 3) h (by decide)) (by decide)), (b9.keep (i := 3) (by decide)), hbel⟩⟩
    refine .cons 5 rfl ?_ ?_
    · intro d a w9 hsz hcl hinv hd hdep
      obtain ⟨⟨u8, u9, u23, u24, u25, u26, u27, u28, u29, u30, u31, x1a0, x1a1, x1a2, x1c0, x1c1, x1c2, lo, hi, L, ta0, ta1, ta2, tc0, tc1, tc2, p, rfl, f0, f1, f2, f3, f4, f5, f6, f7, f8, f9, f11, r1, rf, s8, n8, b8, b9, hbel⟩⟩ := hinv
      have e3 := f3 (hdep.get 3 rfl)
      subst e3
      have q4 := hd
      have q5 := hcl.not q4 5 _ rfl rfl
      have q6 := hcl.not q5 6 _ rfl rfl
      have q7 := hcl.not q6 7 _ rfl rfl
      have q8 := hcl.not q6 8 _ rfl rfl
      have q10 := hcl.not q7 10 _ rfl rfl
      have q11 := hcl.not q8 11 _ rfl rfl
      go_wp2_with fail
      refine (toDam_any s d9 l9 q _).mono ?_
      rintro e w8 ⟨rfl, hb⟩
      go_wp2_with fail
      exact ⟨⟨u8, u9, u23, u24, u25, u26, (.agg #[.int .i64 s, .int .i64 d9, .int .i64 l9, .int .i64 q]), (.agg #[.int .i64 s, .int .i64 d9, .int .i64 l9, .int .i64 q]), u29, u30, u31, x1a0, x1a1, x1a2, x1c0, x1c1, x1c2, lo, hi, L, ta0, ta1, ta2, tc0, tc1, tc2, p, rfl, (f0.keep (i := 4) (by decide)), (f1.keep (i := 4) (by decide)), (f2.keep (i := 4) (by decide)), Gd.new rfl, Gd.new rfl, (Gd.undone (i := 4) (q5) (by decide)), (Gd.undone (i := 4) (q6) (by decide)), (Gd.undone (i := 4) (q7) (by decide)), (Gd.undone (i := 4) (q8) (by decide)), (f9.keep (i := 4) (by decide)), (Gd.undone (i := 4) (q11) (by decide)), (Gd.keep (i := 4) (fun h9 => Ng.keep (i := 4) (fun h8 => have h := r1 h9 h8; ⟨h.1.below hb (Nat.le_refl _), h.2.1.below hb (Nat.le_refl _), h.2.2.below hb (Nat.le_refl _)⟩) (by decide)) (by decide)), (Gd.undone (i := 4) (q5) (by decide)), (Gd.keep (i := 4) (fun h9 => ⟨Nat.lt_of_lt_of_le (s8 h9).1 hb.size, (s8 h9).2⟩) (by decide)), (Gd.undone (i := 4) (q5) (by decide)), (Gd.keep (i := 4) (fun h9 => Ng.keep (i := 4) (fun h8 => (b8 h9 h8).below hb (s8 h9).1) (by decide)) (by decide)), (Gd.undone (i := 4) (q10) (by decide)), (hbel.trans (hb.mono hbel.size))⟩⟩
    refine .cons 6 rfl ?_ ?_
    · intro d a w9 hsz hcl hinv hd hdep
      obtain ⟨⟨u8, u9, u23, u24, u25, u26, u27, u28, u29, u30, u31, x1a0, x1a1, x1a2, x1c0, x1c1, x1c2, lo, hi, L, ta0, ta1, ta2, tc0, tc1, tc2, p, rfl, f0, f1, f2, f3, f4, f5, f6, f7, f8, f9, f11, r1, rf, s8, n8, b8, b9, hbel⟩⟩ := hinv
      have e1 := f1 (hdep.get 1 rfl)
      subst e1
      have e2 := f2 (hdep.get 2 rfl)
      subst e2
      have e4 := f4 (hdep.get 4 rfl)
      subst e4
      have q5 := hd
      have q6 := hcl.not q5 6 _ rfl rfl
      have q7 := hcl.not q6 7 _ rfl rfl
      have q8 := hcl.not q6 8 _ rfl rfl
      have q10 := hcl.not q7 10 _ rfl rfl
      have q11 := hcl.not q8 11 _ rfl rfl
      have hr1 := r1 (hdep.get 1 rfl) hd
      go_wp2_with fail
      refine (HS.out x1a0 x1a1 x1a2 x1c0 x1c1 x1c2 _ hr1.1 hr1.2.1 hr1.2.2).mono ?_
      rintro e w8 ⟨lo8, hi8, L8, ya0, yc0, ya1, yc1, ya2, yc2, rfl, hb, hr, hlo⟩
      simp only at hr
      go_wp2_with fail
      exact ⟨⟨u8, u9, u23, u24, (.agg #[.slice x1a0 D.length x1c0, .slice x1a1 n x1c1, .slice x1a2 V.length x1c2]), (.int .i64 i), u27, (.agg #[.int .i64 s, .int .i64 d9, .int .i64 l9, .int .i64 q]), (.tuple #[.agg #[.slice ya0 rD.length yc0, .slice ya1 rn yc1, .slice ya2 rV.length yc2], .bool B]), u30, u31, x1a0, x1a1, x1a2, x1c0, x1c1, x1c2, lo8, hi8, L8, ya0, ya1, ya2, yc0, yc1, yc2, p, rfl, (f0.keep (i := 5) (by decide)), Gd.new rfl, Gd.new rfl, (f3.keep (i := 5) (by decide)), Gd.new rfl, Gd.new rfl, (Gd.undone (i := 5) (q6) (by decide)), (Gd.undone (i := 5) (q7) (by decide)), (Gd.undone (i := 5) (q8) (by decide)), (f9.keep (i := 5) (by decide)), (Gd.undone (i := 5) (q11) (by decide)), (Gd.keep (i := 5) (fun h9 => Ng.new (by rw [hsz]; exact (by decide : 5 < 12))) (by decide)), Gd.new ⟨hr, Nat.le_trans hbel.size hlo⟩, (Gd.keep (i := 5) (fun h9 => ⟨Nat.lt_of_lt_of_le (s8 h9).1 hb.size, (s8 h9).2⟩) (by decide)), (fun _ hj => .inl (by rw [set_ne (by decide)] at hj; have h7 := (s8 hj).1; omega)), (Gd.keep (i := 5) (fun h9 => Ng.keep (i := 5) (fun h8 => (b8 h9 h8).below hb (s8 h9).1) (by decide)) (by decide)), (Gd.undone (i := 5) (q10) (by decide)), (hbel.trans (hb.mono hbel.size))⟩⟩
    refine .cons 7 rfl ?_ ?_
    · intro d a w9 hsz hcl hinv hd hdep
      obtain ⟨⟨u8, u9, u23, u24, u25, u26, u27, u28, u29, u30, u31, x1a0, x1a1, x1a2, x1c0, x1c1, x1c2, lo, hi, L, ta0, ta1, ta2, tc0, tc1, tc2, p, rfl, f0, f1, f2, f3, f4, f5, f6, f7, f8, f9, f11, r1, rf, s8, n8, b8, b9, hbel⟩⟩ := hinv
      have e5 := f5 (hdep.get 5 rfl)
      subst e5
      go_wp2_with fail
      exact ⟨⟨u8, u9, (.tuple #[.agg #[.slice ta0 rD.length tc0, .slice ta1 rn tc1, .slice ta2 rV.length tc2], .bool B]), u24, u25, u26, u27, u28, (.tuple #[.agg #[.slice ta0 rD.length tc0, .slice ta1 rn tc1, .slice ta2 rV.length tc2], .bool B]), u30, u31, x1a0, x1a1, x1a2, x1c0, x1c1, x1c2, lo, hi, L, ta0, ta1, ta2, tc0, tc1, tc2, p, rfl, (f0.keep (i := 6) (by decide)), (f1.keep (i := 6) (by decide)), (f2.keep (i := 6) (by decide)), (f3.keep (i := 6) (by decide)), (f4.keep (i := 6) (by decide)), Gd.new rfl, Gd.new (by first | rfl | simp), (f7.keep (i := 6) (by decide)), (f8.keep (i := 6) (by decide)), (f9.keep (i := 6) (by decide)), (f11.keep (i := 6) (by decide)), (Gd.keep (i := 6) (r1.imp fun h => Ng.keep (i := 6) h (by decide)) (by decide)), (rf.keep (i := 6) (by decide)), (s8.keep (i := 6) (by decide)), (Gd.keep (i := 6) (n8.imp fun h => Gd.keep (i := 6) h (by decide)) (by decide)), (Gd.keep (i := 6) (b8.imp fun h => Ng.keep (i := 6) h (by decide)) (by decide)), (b9.keep (i := 6) (by decide)), hbel⟩⟩
    refine .cons 8 rfl ?_ ?_
    · intro d a w9 hsz hcl hinv hd hdep
      obtain ⟨⟨u8, u9, u23, u24, u25, u26, u27, u28, u29, u30, u31, x1a0, x1a1, x1a2, x1c0, x1c1, x1c2, lo, hi, L, ta0, ta1, ta2, tc0, tc1, tc2, p, rfl, f0, f1, f2, f3, f4, f5, f6, f7, f8, f9, f11, r1, rf, s8, n8, b8, b9, hbel⟩⟩ := hinv
      have e6 := f6 (hdep.get 6 rfl)
      subst e6
      go_wp2_with fail
      exact ⟨⟨u8, u9, (.tuple #[.agg #[.slice ta0 rD.length tc0, .slice ta1 rn tc1, .slice ta2 rV.length tc2], .bool B]), u24, u25, u26, u27, u28, u29, (.agg #[.slice ta0 rD.length tc0, .slice ta1 rn tc1, .slice ta2 rV.length tc2]), u31, x1a0, x1a1, x1a2, x1c0, x1c1, x1c2, lo, hi, L, ta0, ta1, ta2, tc0, tc1, tc2, p, rfl, (f0.keep (i := 7) (by decide)), (f1.keep (i := 7) (by decide)), (f2.keep (i := 7) (by decide)), (f3.keep (i := 7) (by decide)), (f4.keep (i := 7) (by decide)), (f5.keep (i := 7) (by decide)), Gd.new rfl, Gd.new (by first | rfl | simp), (f8.keep (i := 7) (by decide)), (f9.keep (i := 7) (by decide)), (f11.keep (i := 7) (by decide)), (Gd.keep (i := 7) (r1.imp fun h => Ng.keep (i := 7) h (by decide)) (by decide)), (rf.keep (i := 7) (by decide)), (s8.keep (i := 7) (by decide)), (Gd.keep (i := 7) (n8.imp fun h => Gd.keep (i := 7) h (by decide)) (by decide)), (Gd.keep (i := 7) (b8.imp fun h => Ng.keep (i := 7) h (by decide)) (by decide)), (b9.keep (i := 7) (by decide)), hbel⟩⟩
    refine .cons 9 rfl ?_ ?_
    · intro d a w9 hsz hcl hinv hd hdep
      obtain ⟨⟨u8, u9, u23, u24, u25, u26, u27, u28, u29, u30, u31, x1a0, x1a1, x1a2, x1c0, x1c1, x1c2, lo, hi, L, ta0, ta1, ta2, tc0, tc1, tc2, p, rfl, f0, f1, f2, f3, f4, f5, f6, f7, f8, f9, f11, r1, rf, s8, n8, b8, b9, hbel⟩⟩ := hinv
      have e6 := f6 (hdep.get 6 rfl)
      subst e6
      go_wp2_with fail
      exact ⟨⟨u8, u9, (.tuple #[.agg #[.slice ta0 rD.length tc0, .slice ta1 rn tc1, .slice ta2 rV.length tc2], .bool B]), u24, u25, u26, u27, u28, u29, u30, (.bool B), x1a0, x1a1, x1a2, x1c0, x1c1, x1c2, lo, hi, L, ta0, ta1, ta2, tc0, tc1, tc2, p, rfl, (f0.keep (i := 8) (by decide)), (f1.keep (i := 8) (by decide)), (f2.keep (i := 8) (by decide)), (f3.keep (i := 8) (by decide)), (f4.keep (i := 8) (by decide)), (f5.keep (i := 8) (by decide)), Gd.new rfl, (f7.keep (i := 8) (by decide)), Gd.new (by first | rfl | simp), (f9.keep (i := 8) (by decide)), (f11.keep (i := 8) (by decide)), (Gd.keep (i := 8) (r1.imp fun h => Ng.keep (i := 8) h (by decide)) (by decide)), (rf.keep (i := 8) (by decide)), (s8.keep (i := 8) (by decide)), (Gd.keep (i := 8) (n8.imp fun h => Gd.keep (i := 8) h (by decide)) (by decide)), (Gd.keep (i := 8) (b8.imp fun h => Ng.keep (i := 8) h (by decide)) (by decide)), (b9.keep (i := 8) (by decide)), hbel⟩⟩
    refine .cons 10 rfl ?_ ?_
    · intro d a w9 hsz hcl hinv hd hdep
      obtain ⟨⟨u8, u9, u23, u24, u25, u26, u27, u28, u29, u30, u31, x1a0, x1a1, x1a2, x1c0, x1c1, x1c2, lo, hi, L, ta0, ta1, ta2, tc0, tc1, tc2, p, rfl, f0, f1, f2, f3, f4, f5, f6, f7, f8, f9, f11, r1, rf, s8, n8, b8, b9, hbel⟩⟩ := hinv
      have q10 := hcl.not hd 10 _ rfl rfl
      go_wp2_with fail
      exact ⟨⟨(.pointer (some ⟨w9.heap.size, 0, none⟩)), u9, u23, u24, u25, u26, u27, u28, u29, u30, u31, x1a0, x1a1, x1a2, x1c0, x1c1, x1c2, lo, hi, L, ta0, ta1, ta2, tc0, tc1, tc2, w9.heap.size, rfl, (f0.keep (i := 9) (by decide)), (f1.keep (i := 9) (by decide)), (f2.keep (i := 9) (by decide)), (f3.keep (i := 9) (by decide)), (f4.keep (i := 9) (by decide)), (f5.keep (i := 9) (by decide)), (f6.keep (i := 9) (by decide)), (f7.keep (i := 9) (by decide)), (f8.keep (i := 9) (by decide)), Gd.new (by first | rfl | simp), (f11.keep (i := 9) (by decide)), (Gd.keep (i := 9) (fun h9 => Ng.keep (i := 9) (fun h8 => have h := r1 h9 h8; ⟨h.1.below (bel1 w9 _) (Nat.le_refl _), h.2.1.below (bel1 w9 _) (Nat.le_refl _), h.2.2.below (bel1 w9 _) (Nat.le_refl _)⟩) (by decide)) (by decide)), (Gd.keep (i := 9) (fun h9 => ⟨(rf h9).1.alloc _, (rf h9).2⟩) (by decide)), Gd.new ⟨by simp, hbel.size⟩, (fun hj _ => .inr (by rw [set_ne (by decide)] at hj; exact (rf hj).1.lh)), Gd.new (fun _ => Bw.new w9 [.slice none 0 0, .slice none 0 0, .slice none 0 0] _), (Gd.undone (i := 9) (q10) (by decide)), (hbel.alloc hbel.size _)⟩⟩
    refine .cons 11 rfl ?_ ?_
    · intro d a w9 hsz hcl hinv hd hdep
      obtain ⟨⟨u8, u9, u23, u24, u25, u26, u27, u28, u29, u30, u31, x1a0, x1a1, x1a2, x1c0, x1c1, x1c2, lo, hi, L, ta0, ta1, ta2, tc0, tc1, tc2, p, rfl, f0, f1, f2, f3, f4, f5, f6, f7, f8, f9, f11, r1, rf, s8, n8, b8, b9, hbel⟩⟩ := hinv
      have e9 := f9 (hdep.get 9 rfl)
      subst e9
      have e7 := f7 (hdep.get 7 rfl)
      subst e7
      have hal := hdep.get 9 rfl
      have hex := hdep.get 7 rfl
      have hmv := (hcl 7 _ rfl hex).get 6 rfl
      have hF := (hcl 6 _ rfl hmv).get 5 rfl
      have hbp := b8 hal hd
      have hc0 := hbp.c 0 rfl
      have hc1 := hbp.c 1 rfl
      have hc2 := hbp.c 2 rfl
      have hf0 := hbp.f 0 (by simp)
      have hf1 := hbp.f 1 (by simp)
      have hf2 := hbp.f 2 (by simp)
      have hp9 := s8 hal
      have hn9 := n8 hF hal
      go_wp2_with fail
      exact ⟨⟨(.pointer (some ⟨p, 0, none⟩)), u9, u23, u24, u25, u26, u27, u28, u29, (.agg #[.slice ta0 rD.length tc0, .slice ta1 rn tc1, .slice ta2 rV.length tc2]), u31, x1a0, x1a1, x1a2, x1c0, x1c1, x1c2, lo, hi, L, ta0, ta1, ta2, tc0, tc1, tc2, p, rfl, (f0.keep (i := 10) (by decide)), (f1.keep (i := 10) (by decide)), (f2.keep (i := 10) (by decide)), (f3.keep (i := 10) (by decide)), (f4.keep (i := 10) (by decide)), (f5.keep (i := 10) (by decide)), (f6.keep (i := 10) (by decide)), Gd.new rfl, (f8.keep (i := 10) (by decide)), Gd.new rfl, (f11.keep (i := 10) (by decide)), (Gd.keep (i := 10) (fun h9 => (fun h8 => by rw [set_ne (by decide), hF] at h8; cases h8)) (by decide)), (Gd.keep (i := 10) (fun h9 => ⟨((((rf h9).1.setFar hn9 (.slice ta0 rD.length tc0)).setFar hn9 (.slice ta1 rn tc1)).setFar hn9 (.slice ta2 rV.length tc2)), (rf h9).2⟩) (by decide)), (Gd.keep (i := 10) (fun h9 => ⟨by simp; exact (s8 h9).1, (s8 h9).2⟩) (by decide)), (Gd.keep (i := 10) (n8.imp fun h => Gd.keep (i := 10) h (by decide)) (by decide)), (Gd.keep (i := 10) (fun h9 => Ng.new (by rw [hsz]; exact (by decide : 10 < 12))) (by decide)), Gd.new (((hbp.put 0 (by simp) (.slice ta0 rD.length tc0)).put 1 (by simp) (.slice ta1 rn tc1)).put 2 (by simp) (.slice ta2 rV.length tc2)), (((hbel.setCell hp9.2 _).setCell hp9.2 _).setCell hp9.2 _)⟩⟩
    refine .cons 12 rfl ?_ trivial
    · intro d a w9 hsz hcl hinv hd hdep
      obtain ⟨⟨u8, u9, u23, u24, u25, u26, u27, u28, u29, u30, u31, x1a0, x1a1, x1a2, x1c0, x1c1, x1c2, lo, hi, L, ta0, ta1, ta2, tc0, tc1, tc2, p, rfl, f0, f1, f2, f3, f4, f5, f6, f7, f8, f9, f11, r1, rf, s8, n8, b8, b9, hbel⟩⟩ := hinv
      have e8 := f8 (hdep.get 8 rfl)
      subst e8
      go_wp2_with fail
      exact ⟨⟨u8, (.bool B), u23, u24, u25, u26, u27, u28, u29, u30, (.bool B), x1a0, x1a1, x1a2, x1c0, x1c1, x1c2, lo, hi, L, ta0, ta1, ta2, tc0, tc1, tc2, p, rfl, (f0.keep (i := 11) (by decide)), (f1.keep (i := 11) (by decide)), (f2.keep (i := 11) (by decide)), (f3.keep (i := 11) (by decide)), (f4.keep (i := 11) (by decide)), (f5.keep (i := 11) (by decide)), (f6.keep (i := 11) (by decide)), (f7.keep (i := 11) (by decide)), Gd.new rfl, (f9.keep (i := 11) (by decide)), Gd.new (by first | rfl | simp), (Gd.keep (i := 11) (r1.imp fun h => Ng.keep (i := 11) h (by decide)) (by decide)), (rf.keep (i := 11) (by decide)), (s8.keep (i := 11) (by decide)), (Gd.keep (i := 11) (n8.imp fun h => Gd.keep (i := 11) h (by decide)) (by decide)), (Gd.keep (i := 11) (b8.imp fun h => Ng.keep (i := 11) h (by decide)) (by decide)), (b9.keep (i := 11) (by decide)), hbel⟩⟩
  case hendt =>
  intro d a w3 hinv hall
  obtain ⟨⟨u8, u9, u23, u24, u25, u26, u27, u28, u29, u30, u31, t_x1a0, t_x1a1, t_x1a2, t_x1c0, t_x1c1, t_x1c2, lot, hit, Lt, ta0, ta1, ta2, tc0, tc1, tc2, pt, rfl, f0, f1, f2, f3, f4, f5, f6, f7, f8, f9, f11, r1, rf, s8, n8, b8, b9, hbel⟩⟩ := hinv
  have e0 := f0 (hall 0 (by decide))
  subst e0
  have e1 := f1 (hall 1 (by decide))
  subst e1
  have e2 := f2 (hall 2 (by decide))
  subst e2
  have e3 := f3 (hall 3 (by decide))
  subst e3
  have e4 := f4 (hall 4 (by decide))
  subst e4
  have e5 := f5 (hall 5 (by decide))
  subst e5
  have e6 := f6 (hall 6 (by decide))
  subst e6
  have e7 := f7 (hall 7 (by decide))
  subst e7
  have e8 := f8 (hall 8 (by decide))
  subst e8
  have e9 := f9 (hall 9 (by decide))
  subst e9
  have e11 := f11 (hall 11 (by decide))
  subst e11
  have hrf := rf (hall 5 (by decide))
  have hs8t := s8 (hall 9 (by decide))
  have hn8t := n8 (hall 5 (by decide)) (hall 9 (by decide))
  have hb9 := b9 (hall 10 (by decide))
  have hb := hbel
  clear f0 f1 f2 f3 f4 f5 f6 f7 f8 f9 f11 r1 rf s8 n8 b8 b9 hbel
  have z3 : w2.heap.size + 0 ≤ w3.heap.size := (by have := hb.size; (try simp at this); omega)
  have Bel_2 : Hid (Below w.heap.size w w3) := Lib.hid (Bel_1.out.trans (hb.mono Bel_1.out.size))
  clear Bel_1
  have BA_2 : Hid (Bx w3 (w.heap.size) [.slice a0 D.length c0, .slice a1 n c1, .slice a2 V.length c2]) := Lib.hid (BA_1.out.below hb BA_1.out.1)
  clear BA_1
  have BD_2 : Hid (Bx w3 ((w.heap.size + 1)) [.int .i64 s, .int .i64 d9, .int .i64 l9, .int .i64 q]) := Lib.hid (BD_1.out.below hb BD_1.out.1)
  clear BD_1
  have hlt : w2.heap.size + 0 ≤ lot := (by have h9 := hrf.2; (try simp at h9); omega)
  have hht : hit ≤ w3.heap.size := hrf.1.lh
  have hp1t := hs8t.1
  have hp2t : w2.heap.size + 0 ≤ pt := (by have h9 := hs8t.2; (try simp at h9); omega)
  have Rt_0 : Hid (RivAt w3 lot hit Lt ta0 ta1 ta2 tc0 tc1 tc2 rn rD rM rV) := Lib.hid (hrf.1)
  have BT_0 : Hid (Bx w3 (pt) [.slice ta0 rD.length tc0, .slice ta1 rn tc1, .slice ta2 rV.length tc2]) := Lib.hid (hb9.1)
  clear hb hrf hb9 hs8t
  have hrM : rM.length = rn * 4 := Rt_0.out.len
  have HRM := Lib.hid hrM
  clear hrM
  have cBA0 := BA_2.out.c 0 rfl
  have cBA1 := BA_2.out.c 1 rfl
  have cBA2 := BA_2.out.c 2 rfl
  have cBD0 := BD_2.out.c 0 rfl
  have cBD1 := BD_2.out.c 1 rfl
  have cBD2 := BD_2.out.c 2 rfl
  have cBD3 := BD_2.out.c 3 rfl
  have cBT0 := BT_0.out.c 0 rfl
  have cBT1 := BT_0.out.c 1 rfl
  have cBT2 := BT_0.out.c 2 rfl
  go_wp2_with fail
  refine (toRiver_any a0 a1 a2 c0 c1 c2 n D M V _ (HA0.out.below Bel_2.out (Nat.le_refl _)) (HA1.out.below Bel_2.out (Nat.le_refl _)) (HA2.out.below Bel_2.out (Nat.le_refl _)) hlD hln hlV HM.out).mono ?_
  rintro e w4 ⟨xa0, xc0, xa1, xc1, xa2, xc2, xL, rfl, hb, hrx⟩
  clear cBA0 cBA1 cBA2 cBD0 cBD1 cBD2 cBD3 cBT0 cBT1 cBT2
  have z4 : w3.heap.size + 0 ≤ w4.heap.size := (by have := hb.size; (try simp at this); omega)
  have Bel_3 : Hid (Below w.heap.size w w4) := Lib.hid (Bel_2.out.trans (hb.mono Bel_2.out.size))
  clear Bel_2
  have BA_3 : Hid (Bx w4 (w.heap.size) [.slice a0 D.length c0, .slice a1 n c1, .slice a2 V.length c2]) := Lib.hid (BA_2.out.below hb BA_2.out.1)
  clear BA_2
  have BD_3 : Hid (Bx w4 ((w.heap.size + 1)) [.int .i64 s, .int .i64 d9, .int .i64 l9, .int .i64 q]) := Lib.hid (BD_2.out.below hb BD_2.out.1)
  clear BD_2
  have Rt_1 : Hid (RivAt w4 lot hit Lt ta0 ta1 ta2 tc0 tc1 tc2 rn rD rM rV) := Lib.hid (Rt_0.out.below hb Rt_0.out.lh)
  clear Rt_0
  have BT_1 : Hid (Bx w4 (pt) [.slice ta0 rD.length tc0, .slice ta1 rn tc1, .slice ta2 rV.length tc2]) := Lib.hid (BT_0.out.below hb BT_0.out.1)
  clear BT_0
  clear hb
  have Qx_0 : Hid (RivAt w4 w3.heap.size w4.heap.size xL xa0 xa1 xa2 xc0 xc1 xc2 n D M V) := Lib.hid (hrx)
  clear hrx
  have Bel_4 : Hid (Below w.heap.size w (w4.alloc (.cells #[.slice xa0 D.length xc0, .slice xa1 n xc1, .slice xa2 V.length xc2] 30))) := Lib.hid (Bel_3.out.alloc Bel_3.out.size _)
  clear Bel_3
  have BA_4 : Hid (Bx (w4.alloc (.cells #[.slice xa0 D.length xc0, .slice xa1 n xc1, .slice xa2 V.length xc2] 30)) (w.heap.size) [.slice a0 D.length c0, .slice a1 n c1, .slice a2 V.length c2]) := Lib.hid (BA_3.out.alloc _)
  clear BA_3
  have BD_4 : Hid (Bx (w4.alloc (.cells #[.slice xa0 D.length xc0, .slice xa1 n xc1, .slice xa2 V.length xc2] 30)) ((w.heap.size + 1)) [.int .i64 s, .int .i64 d9, .int .i64 l9, .int .i64 q]) := Lib.hid (BD_3.out.alloc _)
  clear BD_3
  have Rt_2 : Hid (RivAt (w4.alloc (.cells #[.slice xa0 D.length xc0, .slice xa1 n xc1, .slice xa2 V.length xc2] 30)) lot hit Lt ta0 ta1 ta2 tc0 tc1 tc2 rn rD rM rV) := Lib.hid (Rt_1.out.alloc _)
  clear Rt_1
  have BT_2 : Hid (Bx (w4.alloc (.cells #[.slice xa0 D.length xc0, .slice xa1 n xc1, .slice xa2 V.length xc2] 30)) (pt) [.slice ta0 rD.length tc0, .slice ta1 rn tc1, .slice ta2 rV.length tc2]) := Lib.hid (BT_1.out.alloc _)
  clear BT_1
  have Qx_1 : Hid (RivAt (w4.alloc (.cells #[.slice xa0 D.length xc0, .slice xa1 n xc1, .slice xa2 V.length xc2] 30)) w3.heap.size w4.heap.size xL xa0 xa1 xa2 xc0 xc1 xc2 n D M V) := Lib.hid (Qx_0.out.alloc _)
  clear Qx_0
  have BX_0 : Hid (Bx (w4.alloc (.cells #[.slice xa0 D.length xc0, .slice xa1 n xc1, .slice xa2 V.length xc2] 30)) (w4.heap.size) [.slice xa0 D.length xc0, .slice xa1 n xc1, .slice xa2 V.length xc2]) := Lib.hid (Bx.new w4 [.slice xa0 D.length xc0, .slice xa1 n xc1, .slice xa2 V.length xc2] 30)
  have cBA0 := BA_4.out.c 0 rfl
  have cBA1 := BA_4.out.c 1 rfl
  have cBA2 := BA_4.out.c 2 rfl
  have cBD0 := BD_4.out.c 0 rfl
  have cBD1 := BD_4.out.c 1 rfl
  have cBD2 := BD_4.out.c 2 rfl
  have cBD3 := BD_4.out.c 3 rfl
  have cBT0 := BT_2.out.c 0 rfl
  have cBT1 := BT_2.out.c 1 rfl
  have cBT2 := BT_2.out.c 2 rfl
  have cBX0 := BX_0.out.c 0 rfl
  have cBX1 := BX_0.out.c 1 rfl
  have cBX2 := BX_0.out.c 2 rfl
  go_wp2_with fail
  clear cBA0 cBA1 cBA2 cBD0 cBD1 cBD2 cBD3 cBT0 cBT1 cBT2 cBX0 cBX1 cBX2
  refine wp_region_inv (id := 7) (setDamS7 ((w4.alloc (.cells #[.slice xa0 D.length xc0, .slice xa1 n xc1, .slice xa2 V.length xc2] 30))) _ _ _ _ _ _ _ _ _ _ _ _ _ _ _ _ _ _ _ _ _ _ _ _ _ _ _ _ _ _ _ _ _ _ _ _ _ _ _ _ _ _ _ _ _ _ _ _ _ _ _ _ _ _ _ _ _ _ _ _ _ _ _ _ _ _ _ _ _ _ _ _ _ _ _ _ _ _ _ _ _ _ _ _ _ _ _ _ _ _ _ _ _ _ _ _ _ _ _ xa0 xa1 xa2 xc0 xc1 xc2 i s d9 l9 q a0 a1 a2 c0 c1 c2 n D M V B rn rD rM rV) (by kernel_rfl) (by kernel_rfl) ⟨⟨_, _, _, _, _, _, _, _, _, _, 0, 0, ⟨0, 0, 0, 0, 0, 0⟩, none, none, none, 0, 0, 0, 0, rfl, .start, .start, .start, .start, .start, .start, .start, .start, .start, .start, .start, .start, .start, .start, .start, beld (Below.refl _ _) 1⟩⟩ ?hendg ?hstepsg
  rotate_left
  case hstepsg =>
    refine .cons 1 rfl ?_ ?_
    · intro d a w9 hsz hcl hinv hd hdep
      obtain ⟨⟨u11, u12, u34, u35, u36, u37, u38, u39, u40, u41, lo, hi, L, ta0, ta1, ta2, tc0, tc1, tc2, p, rfl, f0, f1, f2, f3, f4, f5, f6, f7, f8, f10, rf, s8, n8, b8, b9, hbel⟩⟩ := hinv
      have bx := BX_0.out.below hbel BX_0.out.1
      have k0_ := bx.c 0 rfl
      have k1_ := bx.c 1 rfl
      have k2_ := bx.c 2 rfl
      go_wp2_with fail
      exact ⟨⟨u11, u12, u34, (.agg #[.slice xa0 D.length xc0, .slice xa1 n xc1, .slice xa2 V.length xc2]), u36, u37, u38, u39, u40, u41, lo, hi, L, ta0, ta1, ta2, tc0, tc1, tc2, p, rfl, Gd.new (by first | rfl | simp), (f1.keep (i := 0) (by decide)), (f2.keep (i := 0) (by decide)), (f3.keep (i := 0) (by decide)), (f4.keep (i := 0) (by decide)), (f5.keep (i := 0) (by decide)), (f6.keep (i := 0) (by decide)), (f7.keep (i := 0) (by decide)), (f8.keep (i := 0) (by decide)), (f10.keep (i := 0) (by decide)), (rf.keep (i := 0) (by decide)), (s8.keep (i := 0) (by decide)), (Gd.keep (i := 0) (n8.imp fun h => Gd.keep (i := 0) h (by decide)) (by decide)), (Gd.keep (i := 0) (b8.imp fun h => Ng.keep (i := 0) h (by decide)) (by decide)), (b9.keep (i := 0) (by decide)), hbel⟩⟩
    refine .cons 2 rfl ?_ ?_
    · intro d a w9 hsz hcl hinv hd hdep
      obtain ⟨⟨u11, u12, u34, u35, u36, u37, u38, u39, u40, u41, lo, hi, L, ta0, ta1, ta2, tc0, tc1, tc2, p, rfl, f0, f1, f2, f3, f4, f5, f6, f7, f8, f10, rf, s8, n8, b8, b9, hbel⟩⟩ := hinv
      go_wp2_with fail
      exact ⟨⟨u11, u12, u34, u35, (.int .i64 i), u37, u38, u39, u40, u41, lo, hi, L, ta0, ta1, ta2, tc0, tc1, tc2, p, rfl, (f0.keep (i := 1) (by decide)), Gd.new (by first | rfl | simp), (f2.keep (i := 1) (by decide)), (f3.keep (i := 1) (by decide)), (f4.keep (i := 1) (by decide)), (f5.keep (i := 1) (by decide)), (f6.keep (i := 1) (by decide)), (f7.keep (i := 1) (by decide)), (f8.keep (i := 1) (by decide)), (f10.keep (i := 1) (by decide)), (rf.keep (i := 1) (by decide)), (s8.keep (i := 1) (by decide)), (Gd.keep (i := 1) (n8.imp fun h => Gd.keep (i := 1) h (by decide)) (by decide)), (Gd.keep (i := 1) (b8.imp fun h => Ng.keep (i := 1) h (by decide)) (by decide)), (b9.keep (i := 1) (by decide)), hbel⟩⟩
    refine .cons 3 rfl ?_ ?_
    · intro d a w9 hsz hcl hinv hd hdep
      obtain ⟨⟨u11, u12, u34, u35, u36, u37, u38, u39, u40, u41, lo, hi, L, ta0, ta1, ta2, tc0, tc1, tc2, p, rfl, f0, f1, f2, f3, f4, f5, f6, f7, f8, f10, rf, s8, n8, b8, b9, hbel⟩⟩ := hinv
      have bx := BD_4.out.below hbel BD_4.out.1
      have k0_ := bx.c 0 rfl
      have k1_ := bx.c 1 rfl
      have k2_ := bx.c 2 rfl
      have k3_ := bx.c 3 rfl
      go_wp2_with fail
      exact ⟨⟨u11, u12, u34, u35, u36, (.agg #[.int .i64 s, .int .i64 d9, .int .i64 l9, .int .i64 q]), u38, u39, u40, u41, lo, hi, L, ta0, ta1, ta2, tc0, tc1, tc2, p, rfl, (f0.keep (i := 2) (by decide)), (f1.keep (i := 2) (by decide)), Gd.new (by first | rfl | simp), (f3.keep (i := 2) (by decide)), (f4.keep (i := 2) (by decide)), (f5.keep (i := 2) (by decide)), (f6.keep (i := 2) (by decide)), (f7.keep (i := 2) (by decide)), (f8.keep (i := 2) (by decide)), (f10.keep (i := 2) (by decide)), (rf.keep (i := 2) (by decide)), (s8.keep (i := 2) (by decide)), (Gd.keep (i := 2) (n8.imp fun h => Gd.keep (i := 2) h (by decide)) (by decide)), (Gd.keep (i := 2) (b8.imp fun h => Ng.keep (i := 2) h (by decide)) (by decide)), (b9.keep (i := 2) (by decide)), hbel⟩⟩
    refine .cons 4 rfl ?_ ?_
    · intro d a w9 hsz hcl hinv hd hdep
      obtain ⟨⟨u11, u12, u34, u35, u36, u37, u38, u39, u40, u41, lo, hi, L, ta0, ta1, ta2, tc0, tc1, tc2, p, rfl, f0, f1, f2, f3, f4, f5, f6, f7, f8, f10, rf, s8, n8, b8, b9, hbel⟩⟩ := hinv
      have e2 := f2 (hdep.get 2 rfl)
      subst e2
      have q3 := hd
      have q4 := hcl.not q3 4 _ rfl rfl
      have q5 := hcl.not q4 5 _ rfl rfl
      have q6 := hcl.not q5 6 _ rfl rfl
      have q7 := hcl.not q5 7 _ rfl rfl
      have q9 := hcl.not q6 9 _ rfl rfl
      have q10 := hcl.not q7 10 _ rfl rfl
      go_wp2_with fail
      refine (toDam_any s d9 l9 q _).mono ?_
      rintro e w8 ⟨rfl, hb⟩
      go_wp2_with fail
      exact ⟨⟨u11, u12, u34, u35, u36, (.agg #[.int .i64 s, .int .i64 d9, .int .i64 l9, .int .i64 q]), (.agg #[.int .i64 s, .int .i64 d9, .int .i64 l9, .int .i64 q]), u39, u40, u41, lo, hi, L, ta0, ta1, ta2, tc0, tc1, tc2, p, rfl, (f0.keep (i := 3) (by decide)), (f1.keep (i := 3) (by decide)), Gd.new rfl, Gd.new rfl, (Gd.undone (i := 3) (q4) (by decide)), (Gd.undone (i := 3) (q5) (by decide)), (Gd.undone (i := 3) (q6) (by decide)), (Gd.undone (i := 3) (q7) (by decide)), (f8.keep (i := 3) (by decide)), (Gd.undone (i := 3) (q10) (by decide)), (Gd.undone (i := 3) (q4) (by decide)), (Gd.keep (i := 3) (fun h9 => ⟨Nat.lt_of_lt_of_le (s8 h9).1 hb.size, (s8 h9).2⟩) (by decide)), (Gd.undone (i := 3) (q4) (by decide)), (Gd.keep (i := 3) (fun h9 => Ng.keep (i := 3) (fun h8 => (b8 h9 h8).below hb (s8 h9).1) (by decide)) (by decide)), (Gd.undone (i := 3) (q9) (by decide)), (hbel.trans (hb.mono hbel.size))⟩⟩
    refine .cons 5 rfl ?_ ?_
    · intro d a w9 hsz hcl hinv hd hdep
      obtain ⟨⟨u11, u12, u34, u35, u36, u37, u38, u39, u40, u41, lo, hi, L, ta0, ta1, ta2, tc0, tc1, tc2, p, rfl, f0, f1, f2, f3, f4, f5, f6, f7, f8, f10, rf, s8, n8, b8, b9, hbel⟩⟩ := hinv
      have e0 := f0 (hdep.get 0 rfl)
      subst e0
      have e1 := f1 (hdep.get 1 rfl)
      subst e1
      have e3 := f3 (hdep.get 3 rfl)
      subst e3
      have q4 := hd
      have q5 := hcl.not q4 5 _ rfl rfl
      have q6 := hcl.not q5 6 _ rfl rfl
      have q7 := hcl.not q5 7 _ rfl rfl
      have q9 := hcl.not q6 9 _ rfl rfl
      have q10 := hcl.not q7 10 _ rfl rfl
      go_wp2_with fail
      refine (HI.out xa0 xa1 xa2 xc0 xc1 xc2 _ (Qx_1.out.r0.row.below hbel (Nat.le_refl _)) (Qx_1.out.r1.row.below hbel (Nat.le_refl _)) (Qx_1.out.r2.row.below hbel (Nat.le_refl _))).mono ?_
      rintro e w8 ⟨lo8, hi8, L8, ya0, yc0, ya1, yc1, ya2, yc2, rfl, hb, hr, hlo⟩
      simp only at hr
      go_wp2_with fail
      exact ⟨⟨u11, u12, u34, (.agg #[.slice xa0 D.length xc0, .slice xa1 n xc1, .slice xa2 V.length xc2]), (.int .i64 i), u37, (.agg #[.int .i64 s, .int .i64 d9, .int .i64 l9, .int .i64 q]), (.tuple #[.agg #[.slice ya0 rD.length yc0, .slice ya1 rn yc1, .slice ya2 rV.length yc2], .bool B]), u40, u41, lo8, hi8, L8, ya0, ya1, ya2, yc0, yc1, yc2, p, rfl, Gd.new rfl, Gd.new rfl, (f2.keep (i := 4) (by decide)), Gd.new rfl, Gd.new rfl, (Gd.undone (i := 4) (q5) (by decide)), (Gd.undone (i := 4) (q6) (by decide)), (Gd.undone (i := 4) (q7) (by decide)), (f8.keep (i := 4) (by decide)), (Gd.undone (i := 4) (q10) (by decide)), Gd.new ⟨hr, Nat.le_trans hbel.size hlo⟩, (Gd.keep (i := 4) (fun h9 => ⟨Nat.lt_of_lt_of_le (s8 h9).1 hb.size, (s8 h9).2⟩) (by decide)), (fun _ hj => .inl (by rw [set_ne (by decide)] at hj; have h7 := (s8 hj).1; omega)), (Gd.keep (i := 4) (fun h9 => Ng.keep (i := 4) (fun h8 => (b8 h9 h8).below hb (s8 h9).1) (by decide)) (by decide)), (Gd.undone (i := 4) (q9) (by decide)), (hbel.trans (hb.mono hbel.size))⟩⟩
    refine .cons 6 rfl ?_ ?_
    · intro d a w9 hsz hcl hinv hd hdep
      obtain ⟨⟨u11, u12, u34, u35, u36, u37, u38, u39, u40, u41, lo, hi, L, ta0, ta1, ta2, tc0, tc1, tc2, p, rfl, f0, f1, f2, f3, f4, f5, f6, f7, f8, f10, rf, s8, n8, b8, b9, hbel⟩⟩ := hinv
      have e4 := f4 (hdep.get 4 rfl)
      subst e4
      go_wp2_with fail
      exact ⟨⟨u11, u12, (.tuple #[.agg #[.slice ta0 rD.length tc0, .slice ta1 rn tc1, .slice ta2 rV.length tc2], .bool B]), u35, u36, u37, u38, (.tuple #[.agg #[.slice ta0 rD.length tc0, .slice ta1 rn tc1, .slice ta2 rV.length tc2], .bool B]), u40, u41, lo, hi, L, ta0, ta1, ta2, tc0, tc1, tc2, p, rfl, (f0.keep (i := 5) (by decide)), (f1.keep (i := 5) (by decide)), (f2.keep (i := 5) (by decide)), (f3.keep (i := 5) (by decide)), Gd.new rfl, Gd.new (by first | rfl | simp), (f6.keep (i := 5) (by decide)), (f7.keep (i := 5) (by decide)), (f8.keep (i := 5) (by decide)), (f10.keep (i := 5) (by decide)), (rf.keep (i := 5) (by decide)), (s8.keep (i := 5) (by decide)), (Gd.keep (i := 5) (n8.imp fun h => Gd.keep (i := 5) h (by decide)) (by decide)), (Gd.keep (i := 5) (b8.imp fun h => Ng.keep (i := 5) h (by decide)) (by decide)), (b9.keep (i := 5) (by decide)), hbel⟩⟩
    refine .cons 7 rfl ?_ ?_
    · intro d a w9 hsz hcl hinv hd hdep
      obtain ⟨⟨u11, u12, u34, u35, u36, u37, u38, u39, u40, u41, lo, hi, L, ta0, ta1, ta2, tc0, tc1, tc2, p, rfl, f0, f1, f2, f3, f4, f5, f6, f7, f8, f10, rf, s8, n8, b8, b9, hbel⟩⟩ := hinv
      have e5 := f5 (hdep.get 5 rfl)
      subst e5
      go_wp2_with fail
      exact ⟨⟨u11, u12, (.tuple #[.agg #[.slice ta0 rD.length tc0, .slice ta1 rn tc1, .slice ta2 rV.length tc2], .bool B]), u35, u36, u37, u38, u39, (.agg #[.slice ta0 rD.length tc0, .slice ta1 rn tc1, .slice ta2 rV.length tc2]), u41, lo, hi, L, ta0, ta1, ta2, tc0, tc1, tc2, p, rfl, (f0.keep (i := 6) (by decide)), (f1.keep (i := 6) (by decide)), (f2.keep (i := 6) (by decide)), (f3.keep (i := 6) (by decide)), (f4.keep (i := 6) (by decide)), Gd.new rfl, Gd.new (by first | rfl | simp), (f7.keep (i := 6) (by decide)), (f8.keep (i := 6) (by decide)), (f10.keep (i := 6) (by decide)), (rf.keep (i := 6) (by decide)), (s8.keep (i := 6) (by decide)), (Gd.keep (i := 6) (n8.imp fun h => Gd.keep (i := 6) h (by decide)) (by decide)), (Gd.keep (i := 6) (b8.imp fun h => Ng.keep (i := 6) h (by decide)) (by decide)), (b9.keep (i := 6) (by decide)), hbel⟩⟩
    refine .cons 8 rfl ?_ ?_
    · intro d a w9 hsz hcl hinv hd hdep
      obtain ⟨⟨u11, u12, u34, u35, u36, u37, u38, u39, u40, u41, lo, hi, L, ta0, ta1, ta2, tc0, tc1, tc2, p, rfl, f0, f1, f2, f3, f4, f5, f6, f7, f8, f10, rf, s8, n8, b8, b9, hbel⟩⟩ := hinv
      have e5 := f5 (hdep.get 5 rfl)
      subst e5
      go_wp2_with fail
      exact ⟨⟨u11, u12, (.tuple #[.agg #[.slice ta0 rD.length tc0, .slice ta1 rn tc1, .slice ta2 rV.length tc2], .bool B]), u35, u36, u37, u38, u39, u40, (.bool B), lo, hi, L, ta0, ta1, ta2, tc0, tc1, tc2, p, rfl, (f0.keep (i := 7) (by decide)), (f1.keep (i := 7) (by decide)), (f2.keep (i := 7) (by decide)), (f3.keep (i := 7) (by decide)), (f4.keep (i := 7) (by decide)), Gd.new rfl, (f6.keep (i := 7) (by decide)), Gd.new (by first | rfl | simp), (f8.keep (i := 7) (by decide)), (f10.keep (i := 7) (by decide)), (rf.keep (i := 7) (by decide)), (s8.keep (i := 7) (by decide)), (Gd.keep (i := 7) (n8.imp fun h => Gd.keep (i := 7) h (by decide)) (by decide)), (Gd.keep (i := 7) (b8.imp fun h => Ng.keep (i := 7) h (by decide)) (by decide)), (b9.keep (i := 7) (by decide)), hbel⟩⟩
    refine .cons 9 rfl ?_ ?_
    · intro d a w9 hsz hcl hinv hd hdep
      obtain ⟨⟨u11, u12, u34, u35, u36, u37, u38, u39, u40, u41, lo, hi, L, ta0, ta1, ta2, tc0, tc1, tc2, p, rfl, f0, f1, f2, f3, f4, f5, f6, f7, f8, f10, rf, s8, n8, b8, b9, hbel⟩⟩ := hinv
      have q9 := hcl.not hd 9 _ rfl rfl
      go_wp2_with fail
      exact ⟨⟨(.pointer (some ⟨w9.heap.size, 0, none⟩)), u12, u34, u35, u36, u37, u38, u39, u40, u41, lo, hi, L, ta0, ta1, ta2, tc0, tc1, tc2, w9.heap.size, rfl, (f0.keep (i := 8) (by decide)), (f1.keep (i := 8) (by decide)), (f2.keep (i := 8) (by decide)), (f3.keep (i := 8) (by decide)), (f4.keep (i := 8) (by decide)), (f5.keep (i := 8) (by decide)), (f6.keep (i := 8) (by decide)), (f7.keep (i := 8) (by decide)), Gd.new (by first | rfl | simp), (f10.keep (i := 8) (by decide)), (Gd.keep (i := 8) (fun h9 => ⟨(rf h9).1.alloc _, (rf h9).2⟩) (by decide)), Gd.new ⟨by simp, hbel.size⟩, (fun hj _ => .inr (by rw [set_ne (by decide)] at hj; exact (rf hj).1.lh)), Gd.new (fun _ => Bw.new w9 [.slice none 0 0, .slice none 0 0, .slice none 0 0] _), (Gd.undone (i := 8) (q9) (by decide)), (hbel.alloc hbel.size _)⟩⟩
    refine .cons 10 rfl ?_ ?_
    · intro d a w9 hsz hcl hinv hd hdep
      obtain ⟨⟨u11, u12, u34, u35, u36, u37, u38, u39, u40, u41, lo, hi, L, ta0, ta1, ta2, tc0, tc1, tc2, p, rfl, f0, f1, f2, f3, f4, f5, f6, f7, f8, f10, rf, s8, n8, b8, b9, hbel⟩⟩ := hinv
      have e8 := f8 (hdep.get 8 rfl)
      subst e8
      have e6 := f6 (hdep.get 6 rfl)
      subst e6
      have hal := hdep.get 8 rfl
      have hex := hdep.get 6 rfl
      have hmv := (hcl 6 _ rfl hex).get 5 rfl
      have hF := (hcl 5 _ rfl hmv).get 4 rfl
      have hbp := b8 hal hd
      have hc0 := hbp.c 0 rfl
      have hc1 := hbp.c 1 rfl
      have hc2 := hbp.c 2 rfl
      have hf0 := hbp.f 0 (by simp)
      have hf1 := hbp.f 1 (by simp)
      have hf2 := hbp.f 2 (by simp)
      have hp9 := s8 hal
      have hn9 := n8 hF hal
      go_wp2_with fail
      exact ⟨⟨(.pointer (some ⟨p, 0, none⟩)), u12, u34, u35, u36, u37, u38, u39, (.agg #[.slice ta0 rD.length tc0, .slice ta1 rn tc1, .slice ta2 rV.length tc2]), u41, lo, hi, L, ta0, ta1, ta2, tc0, tc1, tc2, p, rfl, (f0.keep (i := 9) (by decide)), (f1.keep (i := 9) (by decide)), (f2.keep (i := 9) (by decide)), (f3.keep (i := 9) (by decide)), (f4.keep (i := 9) (by decide)), (f5.keep (i := 9) (by decide)), Gd.new rfl, (f7.keep (i := 9) (by decide)), Gd.new rfl, (f10.keep (i := 9) (by decide)), (Gd.keep (i := 9) (fun h9 => ⟨((((rf h9).1.setFar hn9 (.slice ta0 rD.length tc0)).setFar hn9 (.slice ta1 rn tc1)).setFar hn9 (.slice ta2 rV.length tc2)), (rf h9).2⟩) (by decide)), (Gd.keep (i := 9) (fun h9 => ⟨by simp; exact (s8 h9).1, (s8 h9).2⟩) (by decide)), (Gd.keep (i := 9) (n8.imp fun h => Gd.keep (i := 9) h (by decide)) (by decide)), (Gd.keep (i := 9) (fun h9 => Ng.new (by rw [hsz]; exact (by decide : 9 < 11))) (by decide)), Gd.new (((hbp.put 0 (by simp) (.slice ta0 rD.length tc0)).put 1 (by simp) (.slice ta1 rn tc1)).put 2 (by simp) (.slice ta2 rV.length tc2)), (((hbel.setCell hp9.2 _).setCell hp9.2 _).setCell hp9.2 _)⟩⟩
    refine .cons 11 rfl ?_ trivial
    · intro d a w9 hsz hcl hinv hd hdep
      obtain ⟨⟨u11, u12, u34, u35, u36, u37, u38, u39, u40, u41, lo, hi, L, ta0, ta1, ta2, tc0, tc1, tc2, p, rfl, f0, f1, f2, f3, f4, f5, f6, f7, f8, f10, rf, s8, n8, b8, b9, hbel⟩⟩ := hinv
      have e7 := f7 (hdep.get 7 rfl)
      subst e7
      go_wp2_with fail
      exact ⟨⟨u11, (.bool B), u34, u35, u36, u37, u38, u39, u40, (.bool B), lo, hi, L, ta0, ta1, ta2, tc0, tc1, tc2, p, rfl, (f0.keep (i := 10) (by decide)), (f1.keep (i := 10) (by decide)), (f2.keep (i := 10) (by decide)), (f3.keep (i := 10) (by decide)), (f4.keep (i := 10) (by decide)), (f5.keep (i := 10) (by decide)), (f6.keep (i := 10) (by decide)), Gd.new rfl, (f8.keep (i := 10) (by decide)), Gd.new (by first | rfl | simp), (rf.keep (i := 10) (by decide)), (s8.keep (i := 10) (by decide)), (Gd.keep (i := 10) (n8.imp fun h => Gd.keep (i := 10) h (by decide)) (by decide)), (Gd.keep (i := 10) (b8.imp fun h => Ng.keep (i := 10) h (by decide)) (by decide)), (b9.keep (i := 10) (by decide)), hbel⟩⟩
  case hendg =>
  intro d a w5 hinv hall
  obtain ⟨⟨u11, u12, u34, u35, u36, u37, u38, u39, u40, u41, log, hig, Lg, ga0, ga1, ga2, gc0, gc1, gc2, pg, rfl, f0, f1, f2, f3, f4, f5, f6, f7, f8, f10, rf, s8, n8, b8, b9, hbel⟩⟩ := hinv
  have e0 := f0 (hall 0 (by decide))
  subst e0
  have e1 := f1 (hall 1 (by decide))
  subst e1
  have e2 := f2 (hall 2 (by decide))
  subst e2
  have e3 := f3 (hall 3 (by decide))
  subst e3
  have e4 := f4 (hall 4 (by decide))
  subst e4
  have e5 := f5 (hall 5 (by decide))
  subst e5
  have e6 := f6 (hall 6 (by decide))
  subst e6
  have e7 := f7 (hall 7 (by decide))
  subst e7
  have e8 := f8 (hall 8 (by decide))
  subst e8
  have e10 := f10 (hall 10 (by decide))
  subst e10
  have hrf := rf (hall 4 (by decide))
  have hs8g := s8 (hall 8 (by decide))
  have hn8g := n8 (hall 4 (by decide)) (hall 8 (by decide))
  have hb9 := b9 (hall 9 (by decide))
  have hb := hbel
  clear f0 f1 f2 f3 f4 f5 f6 f7 f8 f10 rf s8 n8 b8 b9 hbel
  have z5 : w4.heap.size + 1 ≤ w5.heap.size := (by have := hb.size; (try simp at this); omega)
  have Bel_5 : Hid (Below w.heap.size w w5) := Lib.hid (Bel_4.out.trans (hb.mono Bel_4.out.size))
  clear Bel_4
  have BA_5 : Hid (Bx w5 (w.heap.size) [.slice a0 D.length c0, .slice a1 n c1, .slice a2 V.length c2]) := Lib.hid (BA_4.out.below hb BA_4.out.1)
  clear BA_4
  have BD_5 : Hid (Bx w5 ((w.heap.size + 1)) [.int .i64 s, .int .i64 d9, .int .i64 l9, .int .i64 q]) := Lib.hid (BD_4.out.below hb BD_4.out.1)
  clear BD_4
  have Rt_3 : Hid (RivAt w5 lot hit Lt ta0 ta1 ta2 tc0 tc1 tc2 rn rD rM rV) := Lib.hid (Rt_2.out.below hb Rt_2.out.lh)
  clear Rt_2
  have BT_3 : Hid (Bx w5 (pt) [.slice ta0 rD.length tc0, .slice ta1 rn tc1, .slice ta2 rV.length tc2]) := Lib.hid (BT_2.out.below hb BT_2.out.1)
  clear BT_2
  have Qx_2 : Hid (RivAt w5 w3.heap.size w4.heap.size xL xa0 xa1 xa2 xc0 xc1 xc2 n D M V) := Lib.hid (Qx_1.out.below hb Qx_1.out.lh)
  clear Qx_1
  have BX_1 : Hid (Bx w5 (w4.heap.size) [.slice xa0 D.length xc0, .slice xa1 n xc1, .slice xa2 V.length xc2]) := Lib.hid (BX_0.out.below hb BX_0.out.1)
  clear BX_0
  have hlg : w4.heap.size + 1 ≤ log := (by have h9 := hrf.2; (try simp at h9); omega)
  have hhg : hig ≤ w5.heap.size := hrf.1.lh
  have hp1g := hs8g.1
  have hp2g : w4.heap.size + 1 ≤ pg := (by have h9 := hs8g.2; (try simp at h9); omega)
  have Rg_0 : Hid (RivAt w5 log hig Lg ga0 ga1 ga2 gc0 gc1 gc2 rn rD rM rV) := Lib.hid (hrf.1)
  have BG_0 : Hid (Bx w5 (pg) [.slice ga0 rD.length gc0, .slice ga1 rn gc1, .slice ga2 rV.length gc2]) := Lib.hid (hb9.1)
  clear hb hrf hb9 hs8g
  have cBA0 := BA_5.out.c 0 rfl
  have cBA1 := BA_5.out.c 1 rfl
  have cBA2 := BA_5.out.c 2 rfl
  have cBD0 := BD_5.out.c 0 rfl
  have cBD1 := BD_5.out.c 1 rfl
  have cBD2 := BD_5.out.c 2 rfl
  have cBD3 := BD_5.out.c 3 rfl
  have cBT0 := BT_3.out.c 0 rfl
  have cBT1 := BT_3.out.c 1 rfl
  have cBT2 := BT_3.out.c 2 rfl
  have cBX0 := BX_1.out.c 0 rfl
  have cBX1 := BX_1.out.c 1 rfl
  have cBX2 := BX_1.out.c 2 rfl
  have cBG0 := BG_0.out.c 0 rfl
  have cBG1 := BG_0.out.c 1 rfl
  have cBG2 := BG_0.out.c 2 rfl
  go_wp2_with fail
  refine (eqRiver_any ga0 ga1 ga2 ta0 ta1 ta2 gc0 gc1 gc2 tc0 tc1 tc2 rn rD rM rV _ Rg_0.out.r0.row Rg_0.out.r1.row Rg_0.out.r2.row hlim.1 hlim.2.1 hlim.2.2 HRM.out Rt_3.out.r0.row Rt_3.out.r1.row Rt_3.out.r2.row).mono ?_
  rintro e w6 ⟨rfl, hb⟩
  clear cBA0 cBA1 cBA2 cBD0 cBD1 cBD2 cBD3 cBT0 cBT1 cBT2 cBX0 cBX1 cBX2 cBG0 cBG1 cBG2
  have z6 : w5.heap.size + 0 ≤ w6.heap.size := (by have := hb.size; (try simp at this); omega)
  have Bel_6 : Hid (Below w.heap.size w w6) := Lib.hid (Bel_5.out.trans (hb.mono Bel_5.out.size))
  clear Bel_5
  have BA_6 : Hid (Bx w6 (w.heap.size) [.slice a0 D.length c0, .slice a1 n c1, .slice a2 V.length c2]) := Lib.hid (BA_5.out.below hb BA_5.out.1)
  clear BA_5
  have BD_6 : Hid (Bx w6 ((w.heap.size + 1)) [.int .i64 s, .int .i64 d9, .int .i64 l9, .int .i64 q]) := Lib.hid (BD_5.out.below hb BD_5.out.1)
  clear BD_5
  have Rt_4 : Hid (RivAt w6 lot hit Lt ta0 ta1 ta2 tc0 tc1 tc2 rn rD rM rV) := Lib.hid (Rt_3.out.below hb Rt_3.out.lh)
  clear Rt_3
  have BT_4 : Hid (Bx w6 (pt) [.slice ta0 rD.length tc0, .slice ta1 rn tc1, .slice ta2 rV.length tc2]) := Lib.hid (BT_3.out.below hb BT_3.out.1)
  clear BT_3
  have Qx_3 : Hid (RivAt w6 w3.heap.size w4.heap.size xL xa0 xa1 xa2 xc0 xc1 xc2 n D M V) := Lib.hid (Qx_2.out.below hb Qx_2.out.lh)
  clear Qx_2
  have BX_2 : Hid (Bx w6 (w4.heap.size) [.slice xa0 D.length xc0, .slice xa1 n xc1, .slice xa2 V.length xc2]) := Lib.hid (BX_1.out.below hb BX_1.out.1)
  clear BX_1
  have Rg_1 : Hid (RivAt w6 log hig Lg ga0 ga1 ga2 gc0 gc1 gc2 rn rD rM rV) := Lib.hid (Rg_0.out.below hb Rg_0.out.lh)
  clear Rg_0
  have BG_1 : Hid (Bx w6 (pg) [.slice ga0 rD.length gc0, .slice ga1 rn gc1, .slice ga2 rV.length gc2]) := Lib.hid (BG_0.out.below hb BG_0.out.1)
  clear BG_0
  clear hb
  have cBA0 := BA_6.out.c 0 rfl
  have cBA1 := BA_6.out.c 1 rfl
  have cBA2 := BA_6.out.c 2 rfl
  have cBD0 := BD_6.out.c 0 rfl
  have cBD1 := BD_6.out.c 1 rfl
  have cBD2 := BD_6.out.c 2 rfl
  have cBD3 := BD_6.out.c 3 rfl
  have cBT0 := BT_4.out.c 0 rfl
  have cBT1 := BT_4.out.c 1 rfl
  have cBT2 := BT_4.out.c 2 rfl
  have cBX0 := BX_2.out.c 0 rfl
  have cBX1 := BX_2.out.c 1 rfl
  have cBX2 := BX_2.out.c 2 rfl
  have cBG0 := BG_1.out.c 0 rfl
  have cBG1 := BG_1.out.c 1 rfl
  have cBG2 := BG_1.out.c 2 rfl
  go_wp2_with fail
  have HK6 : Hid (w6.cell? ⟨w.heap.size, 0, none⟩ = some (.slice a0 D.length c0) ∧ w6.cell? ⟨w.heap.size, 1, none⟩ = some (.slice a1 n c1) ∧ w6.cell? ⟨w.heap.size, 2, none⟩ = some (.slice a2 V.length c2) ∧ w6.cell? ⟨w4.heap.size, 0, none⟩ = some (.slice xa0 D.length xc0) ∧ w6.cell? ⟨w4.heap.size, 1, none⟩ = some (.slice xa1 n xc1) ∧ w6.cell? ⟨w4.heap.size, 2, none⟩ = some (.slice xa2 V.length xc2)) := Lib.hid ⟨BA_6.out.c 0 rfl, BA_6.out.c 1 rfl, BA_6.out.c 2 rfl, BX_2.out.c 0 rfl, BX_2.out.c 1 rfl, BX_2.out.c 2 rfl⟩
  go_region_held3 (fun w' => w'.cell? ⟨w.heap.size, 0, none⟩ = some (.slice a0 D.length c0) ∧ w'.cell? ⟨w.heap.size, 1, none⟩ = some (.slice a1 n c1) ∧ w'.cell? ⟨w.heap.size, 2, none⟩ = some (.slice a2 V.length c2) ∧ w'.cell? ⟨w4.heap.size, 0, none⟩ = some (.slice xa0 D.length xc0) ∧ w'.cell? ⟨w4.heap.size, 1, none⟩ = some (.slice xa1 n xc1) ∧ w'.cell? ⟨w4.heap.size, 2, none⟩ = some (.slice xa2 V.length xc2))
    (first | with_reducible exact HK8.out | with_reducible exact HK7.out | exact HK6.out)
    (first | (go_at_call 17; refine (toRiver_any a0 a1 a2 c0 c1 c2 n D M V _ (by first | with_reducible exact HA0.out.below Bel_6.out (Nat.le_refl _) | with_reducible exact (HA0.out.below Bel_6.out (Nat.le_refl _)).drewN 1 | exact HA0.out.below Bel_6.out.drew (Nat.le_refl _)) (by first | with_reducible exact HA1.out.below Bel_6.out (Nat.le_refl _) | with_reducible exact (HA1.out.below Bel_6.out (Nat.le_refl _)).drewN 1 | exact HA1.out.below Bel_6.out.drew (Nat.le_refl _)) (by first | with_reducible exact HA2.out.below Bel_6.out (Nat.le_refl _) | with_reducible exact (HA2.out.below Bel_6.out (Nat.le_refl _)).drewN 1 | exact HA2.out.below Bel_6.out.drew (Nat.le_refl _)) hlD hln hlV HM.out).mono ?_; rintro e w7 ⟨za0, zc0, za1, zc1, za2, zc2, zL, rfl, hb, hr⟩; have hst : Below w6.heap.size w6 w7 := (by first | with_reducible exact hb | with_reducible exact (Below.refl _ _).drew.trans (hb.mono (le_drew _))); have z7 : w6.heap.size ≤ w7.heap.size := hst.size; have Bel_7 : Hid (Below w.heap.size w w7) := Lib.hid (Bel_6.out.trans (hst.mono Bel_6.out.size)); clear Bel_6; have BA_7 : Hid (Bx w7 (w.heap.size) [.slice a0 D.length c0, .slice a1 n c1, .slice a2 V.length c2]) := Lib.hid (BA_6.out.below hst BA_6.out.1); clear BA_6; have BD_7 : Hid (Bx w7 ((w.heap.size + 1)) [.int .i64 s, .int .i64 d9, .int .i64 l9, .int .i64 q]) := Lib.hid (BD_6.out.below hst BD_6.out.1); clear BD_6; have Rt_5 : Hid (RivAt w7 lot hit Lt ta0 ta1 ta2 tc0 tc1 tc2 rn rD rM rV) := Lib.hid (Rt_4.out.below hst Rt_4.out.lh); clear Rt_4; have BT_5 : Hid (Bx w7 (pt) [.slice ta0 rD.length tc0, .slice ta1 rn tc1, .slice ta2 rV.length tc2]) := Lib.hid (BT_4.out.below hst BT_4.out.1); clear BT_4; have Qx_4 : Hid (RivAt w7 w3.heap.size w4.heap.size xL xa0 xa1 xa2 xc0 xc1 xc2 n D M V) := Lib.hid (Qx_3.out.below hst Qx_3.out.lh); clear Qx_3; have BX_3 : Hid (Bx w7 (w4.heap.size) [.slice xa0 D.length xc0, .slice xa1 n xc1, .slice xa2 V.length xc2]) := Lib.hid (BX_2.out.below hst BX_2.out.1); clear BX_2; have Rg_2 : Hid (RivAt w7 log hig Lg ga0 ga1 ga2 gc0 gc1 gc2 rn rD rM rV) := Lib.hid (Rg_1.out.below hst Rg_1.out.lh); clear Rg_1; have BG_2 : Hid (Bx w7 (pg) [.slice ga0 rD.length gc0, .slice ga1 rn gc1, .slice ga2 rV.length gc2]) := Lib.hid (BG_1.out.below hst BG_1.out.1); clear BG_1; have HK7 : Hid (w7.cell? ⟨w.heap.size, 0, none⟩ = some (.slice a0 D.length c0) ∧ w7.cell? ⟨w.heap.size, 1, none⟩ = some (.slice a1 n c1) ∧ w7.cell? ⟨w.heap.size, 2, none⟩ = some (.slice a2 V.length c2) ∧ w7.cell? ⟨w4.heap.size, 0, none⟩ = some (.slice xa0 D.length xc0) ∧ w7.cell? ⟨w4.heap.size, 1, none⟩ = some (.slice xa1 n xc1) ∧ w7.cell? ⟨w4.heap.size, 2, none⟩ = some (.slice xa2 V.length xc2)) := Lib.hid ⟨BA_7.out.c 0 rfl, BA_7.out.c 1 rfl, BA_7.out.c 2 rfl, BX_3.out.c 0 rfl, BX_3.out.c 1 rfl, BX_3.out.c 2 rfl⟩; have RZ7 := Lib.hid hr; clear hr; clear hb hst) | (go_at_call 19; refine (eqRiver_any xa0 xa1 xa2 za0 za1 za2 xc0 xc1 xc2 zc0 zc1 zc2 n D M V _ Qx_4.out.r0.row Qx_4.out.r1.row Qx_4.out.r2.row hlD hln hlV HM.out RZ7.out.r0.row RZ7.out.r1.row RZ7.out.r2.row).mono ?_; rintro e w8 ⟨rfl, hb⟩; have hst : Below w7.heap.size w7 w8 := (by first | with_reducible exact hb | with_reducible exact (Below.refl _ _).drew.trans (hb.mono (le_drew _))); have z8 : w7.heap.size ≤ w8.heap.size := hst.size; have Bel_8 : Hid (Below w.heap.size w w8) := Lib.hid (Bel_7.out.trans (hst.mono Bel_7.out.size)); clear Bel_7; have BA_8 : Hid (Bx w8 (w.heap.size) [.slice a0 D.length c0, .slice a1 n c1, .slice a2 V.length c2]) := Lib.hid (BA_7.out.below hst BA_7.out.1); clear BA_7; have BD_8 : Hid (Bx w8 ((w.heap.size + 1)) [.int .i64 s, .int .i64 d9, .int .i64 l9, .int .i64 q]) := Lib.hid (BD_7.out.below hst BD_7.out.1); clear BD_7; have Rt_6 : Hid (RivAt w8 lot hit Lt ta0 ta1 ta2 tc0 tc1 tc2 rn rD rM rV) := Lib.hid (Rt_5.out.below hst Rt_5.out.lh); clear Rt_5; have BT_6 : Hid (Bx w8 (pt) [.slice ta0 rD.length tc0, .slice ta1 rn tc1, .slice ta2 rV.length tc2]) := Lib.hid (BT_5.out.below hst BT_5.out.1); clear BT_5; have Qx_5 : Hid (RivAt w8 w3.heap.size w4.heap.size xL xa0 xa1 xa2 xc0 xc1 xc2 n D M V) := Lib.hid (Qx_4.out.below hst Qx_4.out.lh); clear Qx_4; have BX_4 : Hid (Bx w8 (w4.heap.size) [.slice xa0 D.length xc0, .slice xa1 n xc1, .slice xa2 V.length xc2]) := Lib.hid (BX_3.out.below hst BX_3.out.1); clear BX_3; have Rg_3 : Hid (RivAt w8 log hig Lg ga0 ga1 ga2 gc0 gc1 gc2 rn rD rM rV) := Lib.hid (Rg_2.out.below hst Rg_2.out.lh); clear Rg_2; have BG_3 : Hid (Bx w8 (pg) [.slice ga0 rD.length gc0, .slice ga1 rn gc1, .slice ga2 rV.length gc2]) := Lib.hid (BG_2.out.below hst BG_2.out.1); clear BG_2; have HK8 : Hid (w8.cell? ⟨w.heap.size, 0, none⟩ = some (.slice a0 D.length c0) ∧ w8.cell? ⟨w.heap.size, 1, none⟩ = some (.slice a1 n c1) ∧ w8.cell? ⟨w.heap.size, 2, none⟩ = some (.slice a2 V.length c2) ∧ w8.cell? ⟨w4.heap.size, 0, none⟩ = some (.slice xa0 D.length xc0) ∧ w8.cell? ⟨w4.heap.size, 1, none⟩ = some (.slice xa1 n xc1) ∧ w8.cell? ⟨w4.heap.size, 2, none⟩ = some (.slice xa2 V.length xc2)) := Lib.hid ⟨BA_8.out.c 0 rfl, BA_8.out.c 1 rfl, BA_8.out.c 2 rfl, BX_4.out.c 0 rfl, BX_4.out.c 1 rfl, BX_4.out.c 2 rfl⟩; clear RZ7; clear hb hst))
  try clear HK6
  try clear HK7
  try clear HK8
  clear cBA0 cBA1 cBA2 cBD0 cBD1 cBD2 cBD3 cBT0 cBT1 cBT2 cBX0 cBX1 cBX2 cBG0 cBG1 cBG2
  have hcn : ¬ ((1 + D.length + n * 4 + V.length : Nat) : Int) < 0 := by omega
  have cBA0 := BA_8.out.c 0 rfl
  have cBA1 := BA_8.out.c 1 rfl
  have cBA2 := BA_8.out.c 2 rfl
  have cBD0 := BD_8.out.c 0 rfl
  have cBD1 := BD_8.out.c 1 rfl
  have cBD2 := BD_8.out.c 2 rfl
  have cBD3 := BD_8.out.c 3 rfl
  have cBT0 := BT_6.out.c 0 rfl
  have cBT1 := BT_6.out.c 1 rfl
  have cBT2 := BT_6.out.c 2 rfl
  have cBX0 := BX_4.out.c 0 rfl
  have cBX1 := BX_4.out.c 1 rfl
  have cBX2 := BX_4.out.c 2 rfl
  have cBG0 := BG_3.out.c 0 rfl
  have cBG1 := BG_3.out.c 1 rfl
  have cBG2 := BG_3.out.c 2 rfl
  go_wp2_with fail
  have hmk := markRiver_any w3.heap.size w4.heap.size 1 xL xa0 xa1 xa2 xc0 xc1 xc2 n D M V _ Qx_5.out hlD hln hlV (by omega)
  clear Qx_5
  refine (hmk).mono ?_
  rintro e w9 ⟨rfl, hf, hk⟩
  clear cBA0 cBA1 cBA2 cBD0 cBD1 cBD2 cBD3 cBT0 cBT1 cBT2 cBX0 cBX1 cBX2 cBG0 cBG1 cBG2
  have z9 : w8.heap.size + 0 ≤ w9.heap.size := (by have := hk.size; (try simp at this); omega)
  have Bel_9 : Hid (Below w.heap.size w w9) := Lib.hid (Bel_8.out.trans (hk.below (by omega) (by omega)))
  clear Bel_8
  have BA_9 : Hid (Bx w9 (w.heap.size) [.slice a0 D.length c0, .slice a1 n c1, .slice a2 V.length c2]) := Lib.hid (BA_8.out.kept hk (by first | exact .inl (by omega) | exact .inr (by omega) | omega))
  clear BA_8
  have BD_9 : Hid (Bx w9 ((w.heap.size + 1)) [.int .i64 s, .int .i64 d9, .int .i64 l9, .int .i64 q]) := Lib.hid (BD_8.out.kept hk (by first | exact .inl (by omega) | exact .inr (by omega) | omega))
  clear BD_8
  have Rt_7 : Hid (RivAt w9 lot hit Lt ta0 ta1 ta2 tc0 tc1 tc2 rn rD rM rV) := Lib.hid (Rt_6.out.kept hk (by first | exact .inl (by omega) | exact .inr (by omega) | omega))
  clear Rt_6
  have BT_7 : Hid (Bx w9 (pt) [.slice ta0 rD.length tc0, .slice ta1 rn tc1, .slice ta2 rV.length tc2]) := Lib.hid (BT_6.out.kept hk (by first | exact .inl (by omega) | exact .inr (by omega) | omega))
  clear BT_6
  have BX_5 : Hid (Bx w9 (w4.heap.size) [.slice xa0 D.length xc0, .slice xa1 n xc1, .slice xa2 V.length xc2]) := Lib.hid (BX_4.out.kept hk (by first | exact .inl (by omega) | exact .inr (by omega) | omega))
  clear BX_4
  have Rg_4 : Hid (RivAt w9 log hig Lg ga0 ga1 ga2 gc0 gc1 gc2 rn rD rM rV) := Lib.hid (Rg_3.out.kept hk (by first | exact .inl (by omega) | exact .inr (by omega) | omega))
  clear Rg_3
  have BG_4 : Hid (Bx w9 (pg) [.slice ga0 rD.length gc0, .slice ga1 rn gc1, .slice ga2 rV.length gc2]) := Lib.hid (BG_3.out.kept hk (by first | exact .inl (by omega) | exact .inr (by omega) | omega))
  clear BG_3
  clear hk
  have Qx_0 : Hid (MarkedR w9 w3.heap.size w4.heap.size xL 1 xa0 xa1 xa2 xc0 xc1 xc2 D.length n V.length) := Lib.hid (hf)
  clear hf
  clear Qx_0
  have cBA0 := BA_9.out.c 0 rfl
  have cBA1 := BA_9.out.c 1 rfl
  have cBA2 := BA_9.out.c 2 rfl
  have cBD0 := BD_9.out.c 0 rfl
  have cBD1 := BD_9.out.c 1 rfl
  have cBD2 := BD_9.out.c 2 rfl
  have cBD3 := BD_9.out.c 3 rfl
  have cBT0 := BT_7.out.c 0 rfl
  have cBT1 := BT_7.out.c 1 rfl
  have cBT2 := BT_7.out.c 2 rfl
  have cBX0 := BX_5.out.c 0 rfl
  have cBX1 := BX_5.out.c 1 rfl
  have cBX2 := BX_5.out.c 2 rfl
  have cBG0 := BG_4.out.c 0 rfl
  have cBG1 := BG_4.out.c 1 rfl
  have cBG2 := BG_4.out.c 2 rfl
  go_wp2_with fail
  refine (eqRiver_any ga0 ga1 ga2 ta0 ta1 ta2 gc0 gc1 gc2 tc0 tc1 tc2 rn rD rM rV _ Rg_4.out.r0.row Rg_4.out.r1.row Rg_4.out.r2.row hlim.1 hlim.2.1 hlim.2.2 HRM.out Rt_7.out.r0.row Rt_7.out.r1.row Rt_7.out.r2.row).mono ?_
  rintro e w10 ⟨rfl, hb⟩
  clear cBA0 cBA1 cBA2 cBD0 cBD1 cBD2 cBD3 cBT0 cBT1 cBT2 cBX0 cBX1 cBX2 cBG0 cBG1 cBG2
  have z10 : w9.heap.size + 0 ≤ w10.heap.size := (by have := hb.size; (try simp at this); omega)
  have Bel_10 : Hid (Below w.heap.size w w10) := Lib.hid (Bel_9.out.trans (hb.mono Bel_9.out.size))
  clear Bel_9
  have BA_10 : Hid (Bx w10 (w.heap.size) [.slice a0 D.length c0, .slice a1 n c1, .slice a2 V.length c2]) := Lib.hid (BA_9.out.below hb BA_9.out.1)
  clear BA_9
  have BD_10 : Hid (Bx w10 ((w.heap.size + 1)) [.int .i64 s, .int .i64 d9, .int .i64 l9, .int .i64 q]) := Lib.hid (BD_9.out.below hb BD_9.out.1)
  clear BD_9
  have Rt_8 : Hid (RivAt w10 lot hit Lt ta0 ta1 ta2 tc0 tc1 tc2 rn rD rM rV) := Lib.hid (Rt_7.out.below hb Rt_7.out.lh)
  clear Rt_7
  have BT_8 : Hid (Bx w10 (pt) [.slice ta0 rD.length tc0, .slice ta1 rn tc1, .slice ta2 rV.length tc2]) := Lib.hid (BT_7.out.below hb BT_7.out.1)
  clear BT_7
  have BX_6 : Hid (Bx w10 (w4.heap.size) [.slice xa0 D.length xc0, .slice xa1 n xc1, .slice xa2 V.length xc2]) := Lib.hid (BX_5.out.below hb BX_5.out.1)
  clear BX_5
  have Rg_5 : Hid (RivAt w10 log hig Lg ga0 ga1 ga2 gc0 gc1 gc2 rn rD rM rV) := Lib.hid (Rg_4.out.below hb Rg_4.out.lh)
  clear Rg_4
  have BG_5 : Hid (Bx w10 (pg) [.slice ga0 rD.length gc0, .slice ga1 rn gc1, .slice ga2 rV.length gc2]) := Lib.hid (BG_4.out.below hb BG_4.out.1)
  clear BG_4
  clear hb
  have cBA0 := BA_10.out.c 0 rfl
  have cBA1 := BA_10.out.c 1 rfl
  have cBA2 := BA_10.out.c 2 rfl
  have cBD0 := BD_10.out.c 0 rfl
  have cBD1 := BD_10.out.c 1 rfl
  have cBD2 := BD_10.out.c 2 rfl
  have cBD3 := BD_10.out.c 3 rfl
  have cBT0 := BT_8.out.c 0 rfl
  have cBT1 := BT_8.out.c 1 rfl
  have cBT2 := BT_8.out.c 2 rfl
  have cBX0 := BX_6.out.c 0 rfl
  have cBX1 := BX_6.out.c 1 rfl
  have cBX2 := BX_6.out.c 2 rfl
  have cBG0 := BG_5.out.c 0 rfl
  have cBG1 := BG_5.out.c 1 rfl
  have cBG2 := BG_5.out.c 2 rfl
  go_wp2_with fail
  have hmk := markRiver_any log hig 1 Lg ga0 ga1 ga2 gc0 gc1 gc2 rn rD rM rV _ Rg_5.out hlim.1 hlim.2.1 hlim.2.2 (by omega)
  clear Rg_5
  refine (hmk).mono ?_
  rintro e w11 ⟨rfl, hf, hk⟩
  clear cBA0 cBA1 cBA2 cBD0 cBD1 cBD2 cBD3 cBT0 cBT1 cBT2 cBX0 cBX1 cBX2 cBG0 cBG1 cBG2
  have z11 : w10.heap.size + 0 ≤ w11.heap.size := (by have := hk.size; (try simp at this); omega)
  have Bel_11 : Hid (Below w.heap.size w w11) := Lib.hid (Bel_10.out.trans (hk.below (by omega) (by omega)))
  clear Bel_10
  have BA_11 : Hid (Bx w11 (w.heap.size) [.slice a0 D.length c0, .slice a1 n c1, .slice a2 V.length c2]) := Lib.hid (BA_10.out.kept hk (by first | exact .inl (by omega) | exact .inr (by omega) | omega))
  clear BA_10
  have BD_11 : Hid (Bx w11 ((w.heap.size + 1)) [.int .i64 s, .int .i64 d9, .int .i64 l9, .int .i64 q]) := Lib.hid (BD_10.out.kept hk (by first | exact .inl (by omega) | exact .inr (by omega) | omega))
  clear BD_10
  have Rt_9 : Hid (RivAt w11 lot hit Lt ta0 ta1 ta2 tc0 tc1 tc2 rn rD rM rV) := Lib.hid (Rt_8.out.kept hk (by first | exact .inl (by omega) | exact .inr (by omega) | omega))
  clear Rt_8
  have BT_9 : Hid (Bx w11 (pt) [.slice ta0 rD.length tc0, .slice ta1 rn tc1, .slice ta2 rV.length tc2]) := Lib.hid (BT_8.out.kept hk (by first | exact .inl (by omega) | exact .inr (by omega) | omega))
  clear BT_8
  have BX_7 : Hid (Bx w11 (w4.heap.size) [.slice xa0 D.length xc0, .slice xa1 n xc1, .slice xa2 V.length xc2]) := Lib.hid (BX_6.out.kept hk (by first | exact .inl (by omega) | exact .inr (by omega) | omega))
  clear BX_6
  have BG_6 : Hid (Bx w11 (pg) [.slice ga0 rD.length gc0, .slice ga1 rn gc1, .slice ga2 rV.length gc2]) := Lib.hid (BG_5.out.kept hk (by first | exact .inl (by omega) | exact .inr (by omega) | omega))
  clear BG_5
  clear hk
  have Rg_0 : Hid (MarkedR w11 log hig Lg 1 ga0 ga1 ga2 gc0 gc1 gc2 rD.length rn rV.length) := Lib.hid (hf)
  clear hf
  have hcm : ¬ ((1 + rD.length + rn * 4 + rV.length : Nat) : Int) < 0 := by omega
  have cBA0 := BA_11.out.c 0 rfl
  have cBA1 := BA_11.out.c 1 rfl
  have cBA2 := BA_11.out.c 2 rfl
  have cBD0 := BD_11.out.c 0 rfl
  have cBD1 := BD_11.out.c 1 rfl
  have cBD2 := BD_11.out.c 2 rfl
  have cBD3 := BD_11.out.c 3 rfl
  have cBT0 := BT_9.out.c 0 rfl
  have cBT1 := BT_9.out.c 1 rfl
  have cBT2 := BT_9.out.c 2 rfl
  have cBX0 := BX_7.out.c 0 rfl
  have cBX1 := BX_7.out.c 1 rfl
  have cBX2 := BX_7.out.c 2 rfl
  have cBG0 := BG_6.out.c 0 rfl
  have cBG1 := BG_6.out.c 1 rfl
  have cBG2 := BG_6.out.c 2 rfl
  go_wp2_with fail
  refine (heldRiver_any log hig 1 Lg ga0 ga1 ga2 gc0 gc1 gc2 rD.length rn rV.length _ Rg_0.out hlim.1 hlim.2.1 hlim.2.2 (by omega)).mono ?_
  rintro e w12 ⟨rfl, hb⟩
  clear cBA0 cBA1 cBA2 cBD0 cBD1 cBD2 cBD3 cBT0 cBT1 cBT2 cBX0 cBX1 cBX2 cBG0 cBG1 cBG2
  have z12 : w11.heap.size + 0 ≤ w12.heap.size := (by have := hb.size; (try simp at this); omega)
  have Bel_12 : Hid (Below w.heap.size w w12) := Lib.hid (Bel_11.out.trans (hb.mono Bel_11.out.size))
  clear Bel_11
  have BA_12 : Hid (Bx w12 (w.heap.size) [.slice a0 D.length c0, .slice a1 n c1, .slice a2 V.length c2]) := Lib.hid (BA_11.out.below hb BA_11.out.1)
  clear BA_11
  have BD_12 : Hid (Bx w12 ((w.heap.size + 1)) [.int .i64 s, .int .i64 d9, .int .i64 l9, .int .i64 q]) := Lib.hid (BD_11.out.below hb BD_11.out.1)
  clear BD_11
  have Rt_10 : Hid (RivAt w12 lot hit Lt ta0 ta1 ta2 tc0 tc1 tc2 rn rD rM rV) := Lib.hid (Rt_9.out.below hb Rt_9.out.lh)
  clear Rt_9
  have BT_10 : Hid (Bx w12 (pt) [.slice ta0 rD.length tc0, .slice ta1 rn tc1, .slice ta2 rV.length tc2]) := Lib.hid (BT_9.out.below hb BT_9.out.1)
  clear BT_9
  have BX_8 : Hid (Bx w12 (w4.heap.size) [.slice xa0 D.length xc0, .slice xa1 n xc1, .slice xa2 V.length xc2]) := Lib.hid (BX_7.out.below hb BX_7.out.1)
  clear BX_7
  have BG_7 : Hid (Bx w12 (pg) [.slice ga0 rD.length gc0, .slice ga1 rn gc1, .slice ga2 rV.length gc2]) := Lib.hid (BG_6.out.below hb BG_6.out.1)
  clear BG_6
  have Rg_1 : Hid (MarkedR w12 log hig Lg 1 ga0 ga1 ga2 gc0 gc1 gc2 rD.length rn rV.length) := Lib.hid (Rg_0.out.below hb Rg_0.out.lh)
  clear Rg_0
  clear hb
  have cBA0 := BA_12.out.c 0 rfl
  have cBA1 := BA_12.out.c 1 rfl
  have cBA2 := BA_12.out.c 2 rfl
  have cBD0 := BD_12.out.c 0 rfl
  have cBD1 := BD_12.out.c 1 rfl
  have cBD2 := BD_12.out.c 2 rfl
  have cBD3 := BD_12.out.c 3 rfl
  have cBT0 := BT_10.out.c 0 rfl
  have cBT1 := BT_10.out.c 1 rfl
  have cBT2 := BT_10.out.c 2 rfl
  have cBX0 := BX_8.out.c 0 rfl
  have cBX1 := BX_8.out.c 1 rfl
  have cBX2 := BX_8.out.c 2 rfl
  have cBG0 := BG_7.out.c 0 rfl
  have cBG1 := BG_7.out.c 1 rfl
  have cBG2 := BG_7.out.c 2 rfl
  go_wp2_with fail
  clear cBA0 cBA1 cBA2 cBD0 cBD1 cBD2 cBD3 cBT0 cBT1 cBT2 cBX0 cBX1 cBX2 cBG0 cBG1 cBG2
  refine wp_region_inv (id := 24) (setDamS24 (w12) _ _ _ _ _ _ _ _ _ _ _ _ _ _ _ _ _ _ _ _ _ _ _ _ _ _ _ _ _ _ _ _ _ _ _ _ _ _ _ _ _ _ _ _ _ _ _ _ _ _ _ _ _ _ _ _ _ _ _ _ _ _ _ _ _ _ _ _ _ _ _ _ _ _ _ _ _ _ _ _ _ _ _ _ _ _ _ _ _ _ _ _ _ _ _ _ _ _ i s d9 l9 q a0 a1 a2 c0 c1 c2 n D M V B rn rD rM rV) (by kernel_rfl) (by kernel_rfl) ⟨⟨_, _, _, _, _, _, _, _, _, _, _, none, none, none, 0, 0, 0, 0, 0, ⟨0, 0, 0, 0, 0, 0⟩, none, none, none, 0, 0, 0, 0, rfl, .start, .start, .start, .start, .start, .start, .start, .start, .start, .start, .start, .start, .start, .start, .start, .start, .start, beld (Below.refl _ _) 1⟩⟩ ?hendh ?hstepsh
  rotate_left
  case hstepsh =>
    refine .cons 1 rfl ?_ ?_
    · intro d a w9 hsz hcl hinv hd hdep
      obtain ⟨⟨u16, u17, u83, u84, u85, u86, u87, u88, u89, u90, u91, x1a0, x1a1, x1a2, x1c0, x1c1, x1c2, lo, hi, L, ta0, ta1, ta2, tc0, tc1, tc2, p, rfl, f0, f1, f2, f3, f4, f5, f6, f7, f8, f9, f11, r1, rf, s8, n8, b8, b9, hbel⟩⟩ := hinv
      have bx := BA_12.out.below hbel BA_12.out.1
      have k0_ := bx.c 0 rfl
      have k1_ := bx.c 1 rfl
      have k2_ := bx.c 2 rfl
      go_wp2_with fail
      exact ⟨⟨u16, u17, u83, (.agg #[.slice a0 D.length c0, .slice a1 n c1, .slice a2 V.length c2]), u85, u86, u87, u88, u89, u90, u91, x1a0, x1a1, x1a2, x1c0, x1c1, x1c2, lo, hi, L, ta0, ta1, ta2, tc0, tc1, tc2, p, rfl, Gd.new (by first | rfl | simp), (f1.keep (i := 0) (by decide)), (f2.keep (i := 0) (by decide)), (f3.keep (i := 0) (by decide)), (f4.keep (i := 0) (by decide)), (f5.keep (i := 0) (by decide)), (f6.keep (i := 0) (by decide)), (f7.keep (i := 0) (by decide)), (f8.keep (i := 0) (by decide)), (f9.keep (i := 0) (by decide)), (f11.keep (i := 0) (by decide)), (Gd.keep (i := 0) (r1.imp fun h => Ng.keep (i := 0) h (by decide)) (by decide)), (rf.keep (i := 0) (by decide)), (s8.keep (i := 0) (by decide)), (Gd.keep (i := 0) (n8.imp fun h => Gd.keep (i := 0) h (by decide)) (by decide)), (Gd.keep (i := 0) (b8.imp fun h => Ng.keep (i := 0) h (by decide)) (by decide)), (b9.keep (i := 0) (by decide)), hbel⟩⟩
    refine .cons 2 rfl ?_ ?_
    · intro d a w9 hsz hcl hinv hd hdep
      obtain ⟨⟨u16, u17, u83, u84, u85, u86, u87, u88, u89, u90, u91, x1a0, x1a1, x1a2, x1c0, x1c1, x1c2, lo, hi, L, ta0, ta1, ta2, tc0, tc1, tc2, p, rfl, f0, f1, f2, f3, f4, f5, f6, f7, f8, f9, f11, r1, rf, s8, n8, b8, b9, hbel⟩⟩ := hinv
      have e0 := f0 (hdep.get 0 rfl)
      subst e0
      have q1 := hd
      have q5 := hcl.not q1 5 _ rfl rfl
      have q6 := hcl.not q5 6 _ rfl rfl
      have q7 := hcl.not q6 7 _ rfl rfl
      have q8 := hcl.not q6 8 _ rfl rfl
      have q10 := hcl.not q7 10 _ rfl rfl
      have q11 := hcl.not q8 11 _ rfl rfl
      go_wp2_with fail
      refine (toRiver_any a0 a1 a2 c0 c1 c2 n D M V _ (HA0.out.below (Bel_12.out.trans (hbel.mono Bel_12.out.size)) (Nat.le_refl _)) (HA1.out.below (Bel_12.out.trans (hbel.mono Bel_12.out.size)) (Nat.le_refl _)) (HA2.out.below (Bel_12.out.trans (hbel.mono Bel_12.out.size)) (Nat.le_refl _)) hlD hln hlV HM.out).mono ?_
      rintro e w8 ⟨ya0, yc0, ya1, yc1, ya2, yc2, yL, rfl, hb, hr⟩
      go_wp2_with fail
      exact ⟨⟨u16, u17, u83, (.agg #[.slice a0 D.length c0, .slice a1 n c1, .slice a2 V.length c2]), (.agg #[.slice ya0 D.length yc0, .slice ya1 n yc1, .slice ya2 V.length yc2]), u86, u87, u88, u89, u90, u91, ya0, ya1, ya2, yc0, yc1, yc2, lo, hi, L, ta0, ta1, ta2, tc0, tc1, tc2, p, rfl, Gd.new rfl, Gd.new rfl, (f2.keep (i := 1) (by decide)), (f3.keep (i := 1) (by decide)), (f4.keep (i := 1) (by decide)), (Gd.undone (i := 1) (q5) (by decide)), (Gd.undone (i := 1) (q6) (by decide)), (Gd.undone (i := 1) (q7) (by decide)), (Gd.undone (i := 1) (q8) (by decide)), (f9.keep (i := 1) (by decide)), (Gd.undone (i := 1) (q11) (by decide)), Gd.new (fun _ => ⟨hr.r0.row, hr.r1.row, hr.r2.row⟩), (Gd.undone (i := 1) (q5) (by decide)), (Gd.keep (i := 1) (fun h9 => ⟨Nat.lt_of_lt_of_le (s8 h9).1 hb.size, (s8 h9).2⟩) (by decide)), (Gd.undone (i := 1) (q5) (by decide)), (Gd.keep (i := 1) (fun h9 => Ng.keep (i := 1) (fun h8 => (b8 h9 h8).below hb (s8 h9).1) (by decide)) (by decide)), (Gd.undone (i := 1) (q10) (by decide)), (hbel.trans (hb.mono hbel.size))⟩⟩
    refine .cons 3 rfl ?_ ?_
    · intro d a w9 hsz hcl hinv hd hdep
      obtain ⟨⟨u16, u17, u83, u84, u85, u86, u87, u88, u89, u90, u91, x1a0, x1a1, x1a2, x1c0, x1c1, x1c2, lo, hi, L, ta0, ta1, ta2, tc0, tc1, tc2, p, rfl, f0, f1, f2, f3, f4, f5, f6, f7, f8, f9, f11, r1, rf, s8, n8, b8, b9, hbel⟩⟩ := hinv
      go_wp2_with fail
      exact ⟨⟨u16, u17, u83, u84, u85, (.int .i64 i), u87, u88, u89, u90, u91, x1a0, x1a1, x1a2, x1c0, x1c1, x1c2, lo, hi, L, ta0, ta1, ta2, tc0, tc1, tc2, p, rfl, (f0.keep (i := 2) (by decide)), (f1.keep (i := 2) (by decide)), Gd.new (by first | rfl | simp), (f3.keep (i := 2) (by decide)), (f4.keep (i := 2) (by decide)), (f5.keep (i := 2) (by decide)), (f6.keep (i := 2) (by decide)), (f7.keep (i := 2) (by decide)), (f8.keep (i := 2) (by decide)), (f9.keep (i := 2) (by decide)), (f11.keep (i := 2) (by decide)), (Gd.keep (i := 2) (r1.imp fun h => Ng.keep (i := 2) h (by decide)) (by decide)), (rf.keep (i := 2) (by decide)), (s8.keep (i := 2) (by decide)), (Gd.keep (i := 2) (n8.imp fun h => Gd.keep (i := 2) h (by decide)) (by decide)), (Gd.keep (i := 2) (b8.imp fun h => Ng.keep (i := 2) h (by decide)) (by decide)), (b9.keep (i := 2) (by decide)), hbel⟩⟩
    refine .cons 4 rfl ?_ ?_
    · intro d a w9 hsz hcl hinv hd hdep
      obtain ⟨⟨u16, u17, u83, u84, u85, u86, u87, u88, u89, u90, u91, x1a0, x1a1, x1a2, x1c0, x1c1, x1c2, lo, hi, L, ta0, ta1, ta2, tc0, tc1, tc2, p, rfl, f0, f1, f2, f3, f4, f5, f6, f7, f8, f9, f11, r1, rf, s8, n8, b8, b9, hbel⟩⟩ := hinv
      have bx := BD_12.out.below hbel BD_12.out.1
      have k0_ := bx.c 0 rfl
      have k1_ := bx.c 1 rfl
      have k2_ := bx.c 2 rfl
      have k3_ := bx.c 3 rfl
      go_wp2_with fail
      exact ⟨⟨u16, u17, u83, u84, u85, u86, (.agg #[.int .i64 s, .int .i64 d9, .int .i64 l9, .int .i64 q]), u88, u89, u90, u91, x1a0, x1a1, x1a2, x1c0, x1c1, x1c2, lo, hi, L, ta0, ta1, ta2, tc0, tc1, tc2, p, rfl, (f0.keep (i := 3) (by decide)), (f1.keep (i := 3) (by decide)), (f2.keep (i := 3) (by decide)), Gd.new (by first | rfl | simp), (f4.keep (i := 3) (by decide)), (f5.keep (i := 3) (by decide)), (f6.keep (i := 3) (by decide)), (f7.keep (i := 3) (by decide)), (f8.keep (i := 3) (by decide)), (f9.keep (i := 3) (by decide)), (f11.keep (i := 3) (by decide)), (Gd.keep (i := 3) (r1.imp fun h => Ng.keep (i := 3) h (by decide)) (by decide)), (rf.keep (i := 3) (by decide)), (s8.keep (i := 3) (by decide)), (Gd.keep (i := 3) (n8.imp fun h => Gd.keep (i := 3) h (by decide)) (by decide)), (Gd.keep (i := 3) (b8.imp fun h => Ng.keep (i := 3) h (by decide)) (by decide)), (b9.keep (i := 3) (by decide)), hbel⟩⟩
    refine .cons 5 rfl ?_ ?_
    · intro d a w9 hsz hcl hinv hd hdep
      obtain ⟨⟨u16, u17, u83, u84, u85, u86, u87, u88, u89, u90, u91, x1a0, x1a1, x1a2, x1c0, x1c1, x1c2, lo, hi, L, ta0, ta1, ta2, tc0, tc1, tc2, p, rfl, f0, f1, f2, f3, f4, f5, f6, f7, f8, f9, f11, r1, rf, s8, n8, b8, b9, hbel⟩⟩ := hinv
      have e3 := f3 (hdep.get 3 rfl)
      subst e3
      have q4 := hd
      have q5 := hcl.not q4 5 _ rfl rfl
      have q6 := hcl.not q5 6 _ rfl rfl
      have q7 := hcl.not q6 7 _ rfl rfl
      have q8 := hcl.not q6 8 _ rfl rfl
      have q10 := hcl.not q7 10 _ rfl rfl
      have q11 := hcl.not q8 11 _ rfl rfl
      go_wp2_with fail
      refine (toDam_any s d9 l9 q _).mono ?_
      rintro e w8 ⟨rfl, hb⟩
      go_wp2_with fail
      exact ⟨⟨u16, u17, u83, u84, u85, u86, (.agg #[.int .i64 s, .int .i64 d9, .int .i64 l9, .int .i64 q]), (.agg #[.int .i64 s, .int .i64 d9, .int .i64 l9, .int .i64 q]), u89, u90, u91, x1a0, x1a1, x1a2, x1c0, x1c1, x1c2, lo, hi, L, ta0, ta1, ta2, tc0, tc1, tc2, p, rfl, (f0.keep (i := 4) (by decide)), (f1.keep (i := 4) (by decide)), (f2.keep (i := 4) (by decide)), Gd.new rfl, Gd.new rfl, (Gd.undone (i := 4) (q5) (by decide)), (Gd.undone (i := 4) (q6) (by decide)), (Gd.undone (i := 4) (q7) (by decide)), (Gd.undone (i := 4) (q8) (by decide)), (f9.keep (i := 4) (by decide)), (Gd.undone (i := 4) (q11) (by decide)), (Gd.keep (i := 4) (fun h9 => Ng.keep (i := 4) (fun h8 => have h := r1 h9 h8; ⟨h.1.below hb (Nat.le_refl _), h.2.1.below hb (Nat.le_refl _), h.2.2.below hb (Nat.le_refl _)⟩) (by decide)) (by decide)), (Gd.undone (i := 4) (q5) (by decide)), (Gd.keep (i := 4) (fun h9 => ⟨Nat.lt_of_lt_of_le (s8 h9).1 hb.size, (s8 h9).2⟩) (by decide)), (Gd.undone (i := 4) (q5) (by decide)), (Gd.keep (i := 4) (fun h9 => Ng.keep (i := 4) (fun h8 => (b8 h9 h8).below hb (s8 h9).1) (by decide)) (by decide)), (Gd.undone (i := 4) (q10) (by decide)), (hbel.trans (hb.mono hbel.size))⟩⟩
    refine .cons 6 rfl ?_ ?_
    · intro d a w9 hsz hcl hinv hd hdep
      obtain ⟨⟨u16, u17, u83, u84, u85, u86, u87, u88, u89, u90, u91, x1a0, x1a1, x1a2, x1c0, x1c1, x1c2, lo, hi, L, ta0, ta1, ta2, tc0, tc1, tc2, p, rfl, f0, f1, f2, f3, f4, f5, f6, f7, f8, f9, f11, r1, rf, s8, n8, b8, b9, hbel⟩⟩ := hinv
      have e1 := f1 (hdep.get 1 rfl)
      subst e1
      have e2 := f2 (hdep.get 2 rfl)
      subst e2
      have e4 := f4 (hdep.get 4 rfl)
      subst e4
      have q5 := hd
      have q6 := hcl.not q5 6 _ rfl rfl
      have q7 := hcl.not q6 7 _ rfl rfl
      have q8 := hcl.not q6 8 _ rfl rfl
      have q10 := hcl.not q7 10 _ rfl rfl
      have q11 := hcl.not q8 11 _ rfl rfl
      have hr1 := r1 (hdep.get 1 rfl) hd
      go_wp2_with fail
      refine (HI.out x1a0 x1a1 x1a2 x1c0 x1c1 x1c2 _ hr1.1 hr1.2.1 hr1.2.2).mono ?_
      rintro e w8 ⟨lo8, hi8, L8, ya0, yc0, ya1, yc1, ya2, yc2, rfl, hb, hr, hlo⟩
      simp only at hr
      go_wp2_with fail
      exact ⟨⟨u16, u17, u83, u84, (.agg #[.slice x1a0 D.length x1c0, .slice x1a1 n x1c1, .slice x1a2 V.length x1c2]), (.int .i64 i), u87, (.agg #[.int .i64 s, .int .i64 d9, .int .i64 l9, .int .i64 q]), (.tuple #[.agg #[.slice ya0 rD.length yc0, .slice ya1 rn yc1, .slice ya2 rV.length yc2], .bool B]), u90, u91, x1a0, x1a1, x1a2, x1c0, x1c1, x1c2, lo8, hi8, L8, ya0, ya1, ya2, yc0, yc1, yc2, p, rfl, (f0.keep (i := 5) (by decide)), Gd.new rfl, Gd.new rfl, (f3.keep (i := 5) (by decide)), Gd.new rfl, Gd.new rfl, (Gd.undone (i := 5) (q6) (by decide)), (Gd.undone (i := 5) (q7) (by decide)), (Gd.undone (i := 5) (q8) (by decide)), (f9.keep (i := 5) (by decide)), (Gd.undone (i := 5) (q11) (by decide)), (Gd.keep (i := 5) (fun h9 => Ng.new (by rw [hsz]; exact (by decide : 5 < 12))) (by decide)), Gd.new ⟨hr, Nat.le_trans hbel.size hlo⟩, (Gd.keep (i := 5) (fun h9 => ⟨Nat.lt_of_lt_of_le (s8 h9).1 hb.size, (s8 h9).2⟩) (by decide)), (fun _ hj => .inl (by rw [set_ne (by decide)] at hj; have h7 := (s8 hj).1; omega)), (Gd.keep (i := 5) (fun h9 => Ng.keep (i := 5) (fun h8 => (b8 h9 h8).below hb (s8 h9).1) (by decide)) (by decide)), (Gd.undone (i := 5) (q10) (by decide)), (hbel.trans (hb.mono hbel.size))⟩⟩
    refine .cons 7 rfl ?_ ?_
    · intro d a w9 hsz hcl hinv hd hdep
      obtain ⟨⟨u16, u17, u83, u84, u85, u86, u87, u88, u89, u90, u91, x1a0, x1a1, x1a2, x1c0, x1c1, x1c2, lo, hi, L, ta0, ta1, ta2, tc0, tc1, tc2, p, rfl, f0, f1, f2, f3, f4, f5, f6, f7, f8, f9, f11, r1, rf, s8, n8, b8, b9, hbel⟩⟩ := hinv
      have e5 := f5 (hdep.get 5 rfl)
      subst e5
      go_wp2_with fail
      exact ⟨⟨u16, u17, (.tuple #[.agg #[.slice ta0 rD.length tc0, .slice ta1 rn tc1, .slice ta2 rV.length tc2], .bool B]), u84, u85, u86, u87, u88, (.tuple #[.agg #[.slice ta0 rD.length tc0, .slice ta1 rn tc1, .slice ta2 rV.length tc2], .bool B]), u90, u91, x1a0, x1a1, x1a2, x1c0, x1c1, x1c2, lo, hi, L, ta0, ta1, ta2, tc0, tc1, tc2, p, rfl, (f0.keep (i := 6) (by decide)), (f1.keep (i := 6) (by decide)), (f2.keep (i := 6) (by decide)), (f3.keep (i := 6) (by decide)), (f4.keep (i := 6) (by decide)), Gd.new rfl, Gd.new (by first | rfl | simp), (f7.keep (i := 6) (by decide)), (f8.keep (i := 6) (by decide)), (f9.keep (i := 6) (by decide)), (f11.keep (i := 6) (by decide)), (Gd.keep (i := 6) (r1.imp fun h => Ng.keep (i := 6) h (by decide)) (by decide)), (rf.keep (i := 6) (by decide)), (s8.keep (i := 6) (by decide)), (Gd.keep (i := 6) (n8.imp fun h => Gd.keep (i := 6) h (by decide)) (by decide)), (Gd.keep (i := 6) (b8.imp fun h => Ng.keep (i := 6) h (by decide)) (by decide)), (b9.keep (i := 6) (by decide)), hbel⟩⟩
    refine .cons 8 rfl ?_ ?_
    · intro d a w9 hsz hcl hinv hd hdep
      obtain ⟨⟨u16, u17, u83, u84, u85, u86, u87, u88, u89, u90, u91, x1a0, x1a1, x1a2, x1c0, x1c1, x1c2, lo, hi, L, ta0, ta1, ta2, tc0, tc1, tc2, p, rfl, f0, f1, f2, f3, f4, f5, f6, f7, f8, f9, f11, r1, rf, s8, n8, b8, b9, hbel⟩⟩ := hinv
      have e6 := f6 (hdep.get 6 rfl)
      subst e6
      go_wp2_with fail
      exact ⟨⟨u16, u17, (.tuple #[.agg #[.slice ta0 rD.length tc0, .slice ta1 rn tc1, .slice ta2 rV.length tc2], .bool B]), u84, u85, u86, u87, u88, u89, (.agg #[.slice ta0 rD.length tc0, .slice ta1 rn tc1, .slice ta2 rV.length tc2]), u91, x1a0, x1a1, x1a2, x1c0, x1c1, x1c2, lo, hi, L, ta0, ta1, ta2, tc0, tc1, tc2, p, rfl, (f0.keep (i := 7) (by decide)), (f1.keep (i := 7) (by decide)), (f2.keep (i := 7) (by decide)), (f3.keep (i := 7) (by decide)), (f4.keep (i := 7) (by decide)), (f5.keep (i := 7) (by decide)), Gd.new rfl, Gd.new (by first | rfl | simp), (f8.keep (i := 7) (by decide)), (f9.keep (i := 7) (by decide)), (f11.keep (i := 7) (by decide)), (Gd.keep (i := 7) (r1.imp fun h => Ng.keep (i := 7) h (by decide)) (by decide)), (rf.keep (i := 7) (by decide)), (s8.keep (i := 7) (by decide)), (Gd.keep (i := 7) (n8.imp fun h => Gd.keep (i := 7) h (by decide)) (by decide)), (Gd.keep (i := 7) (b8.imp fun h => Ng.keep (i := 7) h (by decide)) (by decide)), (b9.keep (i := 7) (by decide)), hbel⟩⟩
    refine .cons 9 rfl ?_ ?_
    · intro d a w9 hsz hcl hinv hd hdep
      obtain ⟨⟨u16, u17, u83, u84, u85, u86, u87, u88, u89, u90, u91, x1a0, x1a1, x1a2, x1c0, x1c1, x1c2, lo, hi, L, ta0, ta1, ta2, tc0, tc1, tc2, p, rfl, f0, f1, f2, f3, f4, f5, f6, f7, f8, f9, f11, r1, rf, s8, n8, b8, b9, hbel⟩⟩ := hinv
      have e6 := f6 (hdep.get 6 rfl)
      subst e6
      go_wp2_with fail
      exact ⟨⟨u16, u17, (.tuple #[.agg #[.slice ta0 rD.length tc0, .slice ta1 rn tc1, .slice ta2 rV.length tc2], .bool B]), u84, u85, u86, u87, u88, u89, u90, (.bool B), x1a0, x1a1, x1a2, x1c0, x1c1, x1c2, lo, hi, L, ta0, ta1, ta2, tc0, tc1, tc2, p, rfl, (f0.keep (i := 8) (by decide)), (f1.keep (i := 8) (by decide)), (f2.keep (i := 8) (by decide)), (f3.keep (i := 8) (by decide)), (f4.keep (i := 8) (by decide)), (f5.keep (i := 8) (by decide)), Gd.new rfl, (f7.keep (i := 8) (by decide)), Gd.new (by first | rfl | simp), (f9.keep (i := 8) (by decide)), (f11.keep (i := 8) (by decide)), (Gd.keep (i := 8) (r1.imp fun h => Ng.keep (i := 8) h (by decide)) (by decide)), (rf.keep (i := 8) (by decide)), (s8.keep (i := 8) (by decide)), (Gd.keep (i := 8) (n8.imp fun h => Gd.keep (i := 8) h (by decide)) (by decide)), (Gd.keep (i := 8) (b8.imp fun h => Ng.keep (i := 8) h (by decide)) (by decide)), (b9.keep (i := 8) (by decide)), hbel⟩⟩
    refine .cons 10 rfl ?_ ?_
    · intro d a w9 hsz hcl hinv hd hdep
      obtain ⟨⟨u16, u17, u83, u84, u85, u86, u87, u88, u89, u90, u91, x1a0, x1a1, x1a2, x1c0, x1c1, x1c2, lo, hi, L, ta0, ta1, ta2, tc0, tc1, tc2, p, rfl, f0, f1, f2, f3, f4, f5, f6, f7, f8, f9, f11, r1, rf, s8, n8, b8, b9, hbel⟩⟩ := hinv
      have q10 := hcl.not hd 10 _ rfl rfl
      go_wp2_with fail
      exact ⟨⟨(.pointer (some ⟨w9.heap.size, 0, none⟩)), u17, u83, u84, u85, u86, u87, u88, u89, u90, u91, x1a0, x1a1, x1a2, x1c0, x1c1, x1c2, lo, hi, L, ta0, ta1, ta2, tc0, tc1, tc2, w9.heap.size, rfl, (f0.keep (i := 9) (by decide)), (f1.keep (i := 9) (by decide)), (f2.keep (i := 9) (by decide)), (f3.keep (i := 9) (by decide)), (f4.keep (i := 9) (by decide)), (f5.keep (i := 9) (by decide)), (f6.keep (i := 9) (by decide)), (f7.keep (i := 9) (by decide)), (f8.keep (i := 9) (by decide)), Gd.new (by first | rfl | simp), (f11.keep (i := 9) (by decide)), (Gd.keep (i := 9) (fun h9 => Ng.keep (i := 9) (fun h8 => have h := r1 h9 h8; ⟨h.1.below (bel1 w9 _) (Nat.le_refl _), h.2.1.below (bel1 w9 _) (Nat.le_refl _), h.2.2.below (bel1 w9 _) (Nat.le_refl _)⟩) (by decide)) (by decide)), (Gd.keep (i := 9) (fun h9 => ⟨(rf h9).1.alloc _, (rf h9).2⟩) (by decide)), Gd.new ⟨by simp, hbel.size⟩, (fun hj _ => .inr (by rw [set_ne (by decide)] at hj; exact (rf hj).1.lh)), Gd.new (fun _ => Bw.new w9 [.slice none 0 0, .slice none 0 0, .slice none 0 0] _), (Gd.undone (i := 9) (q10) (by decide)), (hbel.alloc hbel.size _)⟩⟩
    refine .cons 11 rfl ?_ ?_
    · intro d a w9 hsz hcl hinv hd hdep
      obtain ⟨⟨u16, u17, u83, u84, u85, u86, u87, u88, u89, u90, u91, x1a0, x1a1, x1a2, x1c0, x1c1, x1c2, lo, hi, L, ta0, ta1, ta2, tc0, tc1, tc2, p, rfl, f0, f1, f2, f3, f4, f5, f6, f7, f8, f9, f11, r1, rf, s8, n8, b8, b9, hbel⟩⟩ := hinv
      have e9 := f9 (hdep.get 9 rfl)
      subst e9
      have e7 := f7 (hdep.get 7 rfl)
      subst e7
      have hal := hdep.get 9 rfl
      have hex := hdep.get 7 rfl
      have hmv := (hcl 7 _ rfl hex).get 6 rfl
      have hF := (hcl 6 _ rfl hmv).get 5 rfl
      have hbp := b8 hal hd
      have hc0 := hbp.c 0 rfl
      have hc1 := hbp.c 1 rfl
      have hc2 := hbp.c 2 rfl
      have hf0 := hbp.f 0 (by simp)
      have hf1 := hbp.f 1 (by simp)
      have hf2 := hbp.f 2 (by simp)
      have hp9 := s8 hal
      have hn9 := n8 hF hal
      go_wp2_with fail
      exact ⟨⟨(.pointer (some ⟨p, 0, none⟩)), u17, u83, u84, u85, u86, u87, u88, u89, (.agg #[.slice ta0 rD.length tc0, .slice ta1 rn tc1, .slice ta2 rV.length tc2]), u91, x1a0, x1a1, x1a2, x1c0, x1c1, x1c2, lo, hi, L, ta0, ta1, ta2, tc0, tc1, tc2, p, rfl, (f0.keep (i := 10) (by decide)), (f1.keep (i := 10) (by decide)), (f2.keep (i := 10) (by decide)), (f3.keep (i := 10) (by decide)), (f4.keep (i := 10) (by decide)), (f5.keep (i := 10) (by decide)), (f6.keep (i := 10) (by decide)), Gd.new rfl, (f8.keep (i := 10) (by decide)), Gd.new rfl, (f11.keep (i := 10) (by decide)), (Gd.keep (i := 10) (fun h9 => (fun h8 => by rw [set_ne (by decide), hF] at h8; cases h8)) (by decide)), (Gd.keep (i := 10) (fun h9 => ⟨((((rf h9).1.setFar hn9 (.slice ta0 rD.length tc0)).setFar hn9 (.slice ta1 rn tc1)).setFar hn9 (.slice ta2 rV.length tc2)), (rf h9).2⟩) (by decide)), (Gd.keep (i := 10) (fun h9 => ⟨by simp; exact (s8 h9).1, (s8 h9).2⟩) (by decide)), (Gd.keep (i := 10) (n8.imp fun h => Gd.keep (i := 10) h (by decide)) (by decide)), (Gd.keep (i := 10) (fun h9 => Ng.new (by rw [hsz]; exact (by decide : 10 < 12))) (by decide)), Gd.new (((hbp.put 0 (by simp) (.slice ta0 rD.length tc0)).put 1 (by simp) (.slice ta1 rn tc1)).put 2 (by simp) (.slice ta2 rV.length tc2)), (((hbel.setCell hp9.2 _).setCell hp9.2 _).setCell hp9.2 _)⟩⟩
    refine .cons 12 rfl ?_ trivial
    · intro d a w9 hsz hcl hinv hd hdep
      obtain ⟨⟨u16, u17, u83, u84, u85, u86, u87, u88, u89, u90, u91, x1a0, x1a1, x1a2, x1c0, x1c1, x1c2, lo, hi, L, ta0, ta1, ta2, tc0, tc1, tc2, p, rfl, f0, f1, f2, f3, f4, f5, f6, f7, f8, f9, f11, r1, rf, s8, n8, b8, b9, hbel⟩⟩ := hinv
      have e8 := f8 (hdep.get 8 rfl)
      subst e8
      go_wp2_with fail
      exact ⟨⟨u16, (.bool B), u83, u84, u85, u86, u87, u88, u89, u90, (.bool B), x1a0, x1a1, x1a2, x1c0, x1c1, x1c2, lo, hi, L, ta0, ta1, ta2, tc0, tc1, tc2, p, rfl, (f0.keep (i := 11) (by decide)), (f1.keep (i := 11) (by decide)), (f2.keep (i := 11) (by decide)), (f3.keep (i := 11) (by decide)), (f4.keep (i := 11) (by decide)), (f5.keep (i := 11) (by decide)), (f6.keep (i := 11) (by decide)), (f7.keep (i := 11) (by decide)), Gd.new rfl, (f9.keep (i := 11) (by decide)), Gd.new (by first | rfl | simp), (Gd.keep (i := 11) (r1.imp fun h => Ng.keep (i := 11) h (by decide)) (by decide)), (rf.keep (i := 11) (by decide)), (s8.keep (i := 11) (by decide)), (Gd.keep (i := 11) (n8.imp fun h => Gd.keep (i := 11) h (by decide)) (by decide)), (Gd.keep (i := 11) (b8.imp fun h => Ng.keep (i := 11) h (by decide)) (by decide)), (b9.keep (i := 11) (by decide)), hbel⟩⟩
  case hendh =>
  intro d a w13 hinv hall
  obtain ⟨⟨u16, u17, u83, u84, u85, u86, u87, u88, u89, u90, u91, h_x1a0, h_x1a1, h_x1a2, h_x1c0, h_x1c1, h_x1c2, loh, hih, Lh, ha0, ha1, ha2, hc0, hc1, hc2, ph, rfl, f0, f1, f2, f3, f4, f5, f6, f7, f8, f9, f11, r1, rf, s8, n8, b8, b9, hbel⟩⟩ := hinv
  have e0 := f0 (hall 0 (by decide))
  subst e0
  have e1 := f1 (hall 1 (by decide))
  subst e1
  have e2 := f2 (hall 2 (by decide))
  subst e2
  have e3 := f3 (hall 3 (by decide))
  subst e3
  have e4 := f4 (hall 4 (by decide))
  subst e4
  have e5 := f5 (hall 5 (by decide))
  subst e5
  have e6 := f6 (hall 6 (by decide))
  subst e6
  have e7 := f7 (hall 7 (by decide))
  subst e7
  have e8 := f8 (hall 8 (by decide))
  subst e8
  have e9 := f9 (hall 9 (by decide))
  subst e9
  have e11 := f11 (hall 11 (by decide))
  subst e11
  have hrf := rf (hall 5 (by decide))
  have hs8h := s8 (hall 9 (by decide))
  have hn8h := n8 (hall 5 (by decide)) (hall 9 (by decide))
  have hb9 := b9 (hall 10 (by decide))
  have hb := hbel
  clear f0 f1 f2 f3 f4 f5 f6 f7 f8 f9 f11 r1 rf s8 n8 b8 b9 hbel
  have z13 : w12.heap.size + 0 ≤ w13.heap.size := (by have := hb.size; (try simp at this); omega)
  have Bel_13 : Hid (Below w.heap.size w w13) := Lib.hid (Bel_12.out.trans (hb.mono Bel_12.out.size))
  clear Bel_12
  have BA_13 : Hid (Bx w13 (w.heap.size) [.slice a0 D.length c0, .slice a1 n c1, .slice a2 V.length c2]) := Lib.hid (BA_12.out.below hb BA_12.out.1)
  clear BA_12
  have BD_13 : Hid (Bx w13 ((w.heap.size + 1)) [.int .i64 s, .int .i64 d9, .int .i64 l9, .int .i64 q]) := Lib.hid (BD_12.out.below hb BD_12.out.1)
  clear BD_12
  have Rt_11 : Hid (RivAt w13 lot hit Lt ta0 ta1 ta2 tc0 tc1 tc2 rn rD rM rV) := Lib.hid (Rt_10.out.below hb Rt_10.out.lh)
  clear Rt_10
  have BT_11 : Hid (Bx w13 (pt) [.slice ta0 rD.length tc0, .slice ta1 rn tc1, .slice ta2 rV.length tc2]) := Lib.hid (BT_10.out.below hb BT_10.out.1)
  clear BT_10
  have BX_9 : Hid (Bx w13 (w4.heap.size) [.slice xa0 D.length xc0, .slice xa1 n xc1, .slice xa2 V.length xc2]) := Lib.hid (BX_8.out.below hb BX_8.out.1)
  clear BX_8
  have BG_8 : Hid (Bx w13 (pg) [.slice ga0 rD.length gc0, .slice ga1 rn gc1, .slice ga2 rV.length gc2]) := Lib.hid (BG_7.out.below hb BG_7.out.1)
  clear BG_7
  have Rg_2 : Hid (MarkedR w13 log hig Lg 1 ga0 ga1 ga2 gc0 gc1 gc2 rD.length rn rV.length) := Lib.hid (Rg_1.out.below hb Rg_1.out.lh)
  clear Rg_1
  have hlh : w12.heap.size + 0 ≤ loh := (by have h9 := hrf.2; (try simp at h9); omega)
  have hhh : hih ≤ w13.heap.size := hrf.1.lh
  have hp1h := hs8h.1
  have hp2h : w12.heap.size + 0 ≤ ph := (by have h9 := hs8h.2; (try simp at h9); omega)
  have Rh_0 : Hid (RivAt w13 loh hih Lh ha0 ha1 ha2 hc0 hc1 hc2 rn rD rM rV) := Lib.hid (hrf.1)
  have BH_0 : Hid (Bx w13 (ph) [.slice ha0 rD.length hc0, .slice ha1 rn hc1, .slice ha2 rV.length hc2]) := Lib.hid (hb9.1)
  clear hb hrf hb9 hs8h
  have cBA0 := BA_13.out.c 0 rfl
  have cBA1 := BA_13.out.c 1 rfl
  have cBA2 := BA_13.out.c 2 rfl
  have cBD0 := BD_13.out.c 0 rfl
  have cBD1 := BD_13.out.c 1 rfl
  have cBD2 := BD_13.out.c 2 rfl
  have cBD3 := BD_13.out.c 3 rfl
  have cBT0 := BT_11.out.c 0 rfl
  have cBT1 := BT_11.out.c 1 rfl
  have cBT2 := BT_11.out.c 2 rfl
  have cBX0 := BX_9.out.c 0 rfl
  have cBX1 := BX_9.out.c 1 rfl
  have cBX2 := BX_9.out.c 2 rfl
  have cBG0 := BG_8.out.c 0 rfl
  have cBG1 := BG_8.out.c 1 rfl
  have cBG2 := BG_8.out.c 2 rfl
  have cBH0 := BH_0.out.c 0 rfl
  have cBH1 := BH_0.out.c 1 rfl
  have cBH2 := BH_0.out.c 2 rfl
  go_wp2_with fail
  refine (eqRiver_any ha0 ha1 ha2 ta0 ta1 ta2 hc0 hc1 hc2 tc0 tc1 tc2 rn rD rM rV _ Rh_0.out.r0.row Rh_0.out.r1.row Rh_0.out.r2.row hlim.1 hlim.2.1 hlim.2.2 HRM.out Rt_11.out.r0.row Rt_11.out.r1.row Rt_11.out.r2.row).mono ?_
  rintro e w14 ⟨rfl, hb⟩
  clear cBA0 cBA1 cBA2 cBD0 cBD1 cBD2 cBD3 cBT0 cBT1 cBT2 cBX0 cBX1 cBX2 cBG0 cBG1 cBG2 cBH0 cBH1 cBH2
  have z14 : w13.heap.size + 0 ≤ w14.heap.size := (by have := hb.size; (try simp at this); omega)
  have Bel_14 : Hid (Below w.heap.size w w14) := Lib.hid (Bel_13.out.trans (hb.mono Bel_13.out.size))
  clear Bel_13
  have BA_14 : Hid (Bx w14 (w.heap.size) [.slice a0 D.length c0, .slice a1 n c1, .slice a2 V.length c2]) := Lib.hid (BA_13.out.below hb BA_13.out.1)
  clear BA_13
  have BD_14 : Hid (Bx w14 ((w.heap.size + 1)) [.int .i64 s, .int .i64 d9, .int .i64 l9, .int .i64 q]) := Lib.hid (BD_13.out.below hb BD_13.out.1)
  clear BD_13
  have Rt_12 : Hid (RivAt w14 lot hit Lt ta0 ta1 ta2 tc0 tc1 tc2 rn rD rM rV) := Lib.hid (Rt_11.out.below hb Rt_11.out.lh)
  clear Rt_11
  have BT_12 : Hid (Bx w14 (pt) [.slice ta0 rD.length tc0, .slice ta1 rn tc1, .slice ta2 rV.length tc2]) := Lib.hid (BT_11.out.below hb BT_11.out.1)
  clear BT_11
  have BX_10 : Hid (Bx w14 (w4.heap.size) [.slice xa0 D.length xc0, .slice xa1 n xc1, .slice xa2 V.length xc2]) := Lib.hid (BX_9.out.below hb BX_9.out.1)
  clear BX_9
  have BG_9 : Hid (Bx w14 (pg) [.slice ga0 rD.length gc0, .slice ga1 rn gc1, .slice ga2 rV.length gc2]) := Lib.hid (BG_8.out.below hb BG_8.out.1)
  clear BG_8
  have Rg_3 : Hid (MarkedR w14 log hig Lg 1 ga0 ga1 ga2 gc0 gc1 gc2 rD.length rn rV.length) := Lib.hid (Rg_2.out.below hb Rg_2.out.lh)
  clear Rg_2
  have Rh_1 : Hid (RivAt w14 loh hih Lh ha0 ha1 ha2 hc0 hc1 hc2 rn rD rM rV) := Lib.hid (Rh_0.out.below hb Rh_0.out.lh)
  clear Rh_0
  have BH_1 : Hid (Bx w14 (ph) [.slice ha0 rD.length hc0, .slice ha1 rn hc1, .slice ha2 rV.length hc2]) := Lib.hid (BH_0.out.below hb BH_0.out.1)
  clear BH_0
  clear hb
  have cBA0 := BA_14.out.c 0 rfl
  have cBA1 := BA_14.out.c 1 rfl
  have cBA2 := BA_14.out.c 2 rfl
  have cBD0 := BD_14.out.c 0 rfl
  have cBD1 := BD_14.out.c 1 rfl
  have cBD2 := BD_14.out.c 2 rfl
  have cBD3 := BD_14.out.c 3 rfl
  have cBT0 := BT_12.out.c 0 rfl
  have cBT1 := BT_12.out.c 1 rfl
  have cBT2 := BT_12.out.c 2 rfl
  have cBX0 := BX_10.out.c 0 rfl
  have cBX1 := BX_10.out.c 1 rfl
  have cBX2 := BX_10.out.c 2 rfl
  have cBG0 := BG_9.out.c 0 rfl
  have cBG1 := BG_9.out.c 1 rfl
  have cBG2 := BG_9.out.c 2 rfl
  have cBH0 := BH_1.out.c 0 rfl
  have cBH1 := BH_1.out.c 1 rfl
  have cBH2 := BH_1.out.c 2 rfl
  go_wp2_with fail
  refine (heldRiver_any log hig 1 Lg ga0 ga1 ga2 gc0 gc1 gc2 rD.length rn rV.length _ Rg_3.out hlim.1 hlim.2.1 hlim.2.2 (by omega)).mono ?_
  rintro e w15 ⟨rfl, hb⟩
  clear cBA0 cBA1 cBA2 cBD0 cBD1 cBD2 cBD3 cBT0 cBT1 cBT2 cBX0 cBX1 cBX2 cBG0 cBG1 cBG2 cBH0 cBH1 cBH2
  have z15 : w14.heap.size + 0 ≤ w15.heap.size := (by have := hb.size; (try simp at this); omega)
  have Bel_15 : Hid (Below w.heap.size w w15) := Lib.hid (Bel_14.out.trans (hb.mono Bel_14.out.size))
  clear Bel_14
  have BA_15 : Hid (Bx w15 (w.heap.size) [.slice a0 D.length c0, .slice a1 n c1, .slice a2 V.length c2]) := Lib.hid (BA_14.out.below hb BA_14.out.1)
  clear BA_14
  have BD_15 : Hid (Bx w15 ((w.heap.size + 1)) [.int .i64 s, .int .i64 d9, .int .i64 l9, .int .i64 q]) := Lib.hid (BD_14.out.below hb BD_14.out.1)
  clear BD_14
  have Rt_13 : Hid (RivAt w15 lot hit Lt ta0 ta1 ta2 tc0 tc1 tc2 rn rD rM rV) := Lib.hid (Rt_12.out.below hb Rt_12.out.lh)
  clear Rt_12
  have BT_13 : Hid (Bx w15 (pt) [.slice ta0 rD.length tc0, .slice ta1 rn tc1, .slice ta2 rV.length tc2]) := Lib.hid (BT_12.out.below hb BT_12.out.1)
  clear BT_12
  have BX_11 : Hid (Bx w15 (w4.heap.size) [.slice xa0 D.length xc0, .slice xa1 n xc1, .slice xa2 V.length xc2]) := Lib.hid (BX_10.out.below hb BX_10.out.1)
  clear BX_10
  have BG_10 : Hid (Bx w15 (pg) [.slice ga0 rD.length gc0, .slice ga1 rn gc1, .slice ga2 rV.length gc2]) := Lib.hid (BG_9.out.below hb BG_9.out.1)
  clear BG_9
  have Rg_4 : Hid (MarkedR w15 log hig Lg 1 ga0 ga1 ga2 gc0 gc1 gc2 rD.length rn rV.length) := Lib.hid (Rg_3.out.below hb Rg_3.out.lh)
  clear Rg_3
  have Rh_2 : Hid (RivAt w15 loh hih Lh ha0 ha1 ha2 hc0 hc1 hc2 rn rD rM rV) := Lib.hid (Rh_1.out.below hb Rh_1.out.lh)
  clear Rh_1
  have BH_2 : Hid (Bx w15 (ph) [.slice ha0 rD.length hc0, .slice ha1 rn hc1, .slice ha2 rV.length hc2]) := Lib.hid (BH_1.out.below hb BH_1.out.1)
  clear BH_1
  clear hb
  have cBA0 := BA_15.out.c 0 rfl
  have cBA1 := BA_15.out.c 1 rfl
  have cBA2 := BA_15.out.c 2 rfl
  have cBD0 := BD_15.out.c 0 rfl
  have cBD1 := BD_15.out.c 1 rfl
  have cBD2 := BD_15.out.c 2 rfl
  have cBD3 := BD_15.out.c 3 rfl
  have cBT0 := BT_13.out.c 0 rfl
  have cBT1 := BT_13.out.c 1 rfl
  have cBT2 := BT_13.out.c 2 rfl
  have cBX0 := BX_11.out.c 0 rfl
  have cBX1 := BX_11.out.c 1 rfl
  have cBX2 := BX_11.out.c 2 rfl
  have cBG0 := BG_10.out.c 0 rfl
  have cBG1 := BG_10.out.c 1 rfl
  have cBG2 := BG_10.out.c 2 rfl
  have cBH0 := BH_2.out.c 0 rfl
  have cBH1 := BH_2.out.c 1 rfl
  have cBH2 := BH_2.out.c 2 rfl
  go_wp2_with fail
  go_ret
  exact ⟨rfl, Bel_15.out⟩

set_option maxHeartbeats 4000000 in
theorem setDamLaw_not (a0 a1 a2 : Option Addr) (c0 c1 c2 n : Nat) (D M V : List Int) (i s d9 l9 q : Int) (w : World) (hmx : D.length ≤ maxLen ∧ n ≤ maxLen ∧ V.length ≤ maxLen) (h : ¬ (D.length : Int) + (n : Int) + (V.length : Int) ≤ 1048576) :
    Calls Try.prog 4 #[.agg #[.slice a0 D.length c0, .slice a1 n c1, .slice a2 V.length c2], .int .i64 i, .agg #[.int .i64 s, .int .i64 d9, .int .i64 l9, .int .i64 q]] w fun e w' => e = .returned (.bool true) ∧ Below w.heap.size w w' := by
  unfold maxLen at hmx
  have HSz := Lib.hid (szRiver_not a0 a1 a2 D.length n V.length c0 c1 c2 1048576 (by omega) (by omega) (by omega) (by omega) (by omega) (by omega) ((w.alloc (.cells #[.slice a0 D.length c0, .slice a1 n c1, .slice a2 V.length c2] 25)).alloc (.cells #[.int .i64 s, .int .i64 d9, .int .i64 l9, .int .i64 q] 35)))
  clear hmx h
  have hneg : ((-1 : Int) < 0) := by decide
  go_enter Try.func4, Try.ntmps4
  go_wp2_with fail
  refine HSz.out.mono ?_
  rintro e w1 ⟨rfl, hb⟩
  have HB1 : Hid (Below w.heap.size w w1) := Lib.hid ((below2 w _ _).trans (hb.mono (by first | (simp; done) | (simp; omega))))
  clear hb
  go_wp2_with fail
  go_ret
  exact ⟨rfl, HB1.out⟩
theorem walk_FnExactSetDam (a0 a1 a2 : Option Addr) (l0 n l2 c0 c1 c2 : Nat) (D M V : List Int) (i s d9 l9 q : Int) (w : World) (ha : IsRiv w a0 a1 a2 l0 n l2 c0 c1 c2 D M V) (hwi : (Lit.int .i64 i).wf = true) :
    Calls Try.prog 4 #[.agg #[.slice a0 l0 c0, .slice a1 n c1, .slice a2 l2 c2], .int .i64 i, .agg #[.int .i64 s, .int .i64 d9, .int .i64 l9, .int .i64 q]] w fun e w' => e = .returned (.bool true) ∧ Below w.heap.size w w' := by
  obtain ⟨⟨hl0, hc0, hx0, hr0, _⟩, ⟨hl1, hc1, hx1, hr1, _⟩, ⟨hl2, hc2, hx2, hr2, _⟩⟩ := ha
  rw [Nat.mul_one] at hl0 hl2
  subst hl0; subst hl2
  by_cases h : (D.length : Int) + (n : Int) + (V.length : Int) ≤ 1048576
  · exact setDamLaw_fits a0 a1 a2 c0 c1 c2 n D M V i s d9 l9 q w hr0 hr1 hr2 hl1 hwi h
  · exact setDamLaw_not a0 a1 a2 c0 c1 c2 n D M V i s d9 l9 q w ⟨by omega, by omega, by omega⟩ h
end Go.Proofs.Ytnmmhaadkclogaa
