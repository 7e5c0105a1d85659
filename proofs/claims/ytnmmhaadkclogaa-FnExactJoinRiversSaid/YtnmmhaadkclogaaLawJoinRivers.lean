/- The walk of the law on JoinRivers. -/
import Derived.Test.YtnmmhaadkclogaaJoinS
import Derived.Test.YtnmmhaadkclogaaJoinI
import Derived.Test.YtnmmhaadkclogaaRivO
import Derived.Test.YtnmmhaadkclogaaRegMk
import Derived.Test.YtnmmhaadkclogaaMark2
namespace Go.Proofs.Ytnmmhaadkclogaa
open Go.RowKit
set_option linter.unusedVariables false
set_option linter.unusedSimpArgs false
set_option maxRecDepth 100000
attribute [local irreducible] wpV wpList Code.wp

structure joinS8S (w0 : World) (t0_ t1_ t2_ t3_ t4_ t5_ t6_ t7_ t10_ t11_ t12_ t13_ t14_ t15_ t16_ t17_ t18_ t19_ t20_ t21_ t22_ t23_ t24_ t25_ t26_ t27_ t28_ t38_ t39_ t40_ t41_ t42_ t43_ t44_ t45_ t46_ t47_ t48_ t49_ t50_ t51_ t52_ t53_ t54_ t55_ t56_ t57_ t58_ t59_ t60_ t61_ t62_ t63_ t64_ t65_ t66_ t67_ t68_ t69_ t70_ t71_ t72_ t73_ t74_ t75_ t76_ t77_ t78_ t79_ t80_ t81_ t82_ t83_ t84_ t85_ t86_ t87_ t88_ t89_ t90_ t91_ t92_ t93_ t94_ t95_ t96_ t97_ t98_ t99_ t100_ t101_ t102_ t103_ t104_ t105_ t106_ t107_ t108_ t109_ t110_ t111_ t112_ t113_ t114_ t115_ t116_ t117_ t118_ t119_ t120_ t121_ t122_ t123_ : Value) (a0 a1 a2 e0 e1 e2 : Option Addr) (c0 c1 c2 d0 d1 d2 n m : Nat) (D M V E N U : List Int) (i : Int) (B : Bool) (rn : Nat) (rD rM rV : List Int) (d : Array Bool) (a : Act) (w9 : World) where
  u8 : Value
  u9 : Value
  u29 : Value
  u30 : Value
  u31 : Value
  u32 : Value
  u33 : Value
  u34 : Value
  u35 : Value
  u36 : Value
  u37 : Value
  x1a0 : Option Addr
  x1a1 : Option Addr
  x1a2 : Option Addr
  x3a0 : Option Addr
  x3a1 : Option Addr
  x3a2 : Option Addr
  x1c0 : Nat
  x1c1 : Nat
  x1c2 : Nat
  x3c0 : Nat
  x3c1 : Nat
  x3c2 : Nat
  lo : Nat
  hi : Nat
  L : Lay
  ta0 : Option Addr
  ta1 : Option Addr
  ta2 : Option Addr
  tc0 : Nat
  tc1 : Nat
  tc2 : Nat
  p : Nat
  ea : a = ⟨#[t0_, t1_, t2_, t3_, t4_, t5_, t6_, t7_, u8, u9, t10_, t11_, t12_, t13_, t14_, t15_, t16_, t17_, t18_, t19_, t20_, t21_, t22_, t23_, t24_, t25_, t26_, t27_, t28_, u29, u30, u31, u32, u33, u34, u35, u36, u37, t38_, t39_, t40_, t41_, t42_, t43_, t44_, t45_, t46_, t47_, t48_, t49_, t50_, t51_, t52_, t53_, t54_, t55_, t56_, t57_, t58_, t59_, t60_, t61_, t62_, t63_, t64_, t65_, t66_, t67_, t68_, t69_, t70_, t71_, t72_, t73_, t74_, t75_, t76_, t77_, t78_, t79_, t80_, t81_, t82_, t83_, t84_, t85_, t86_, t87_, t88_, t89_, t90_, t91_, t92_, t93_, t94_, t95_, t96_, t97_, t98_, t99_, t100_, t101_, t102_, t103_, t104_, t105_, t106_, t107_, t108_, t109_, t110_, t111_, t112_, t113_, t114_, t115_, t116_, t117_, t118_, t119_, t120_, t121_, t122_, t123_], []⟩
  f0 : Gd d 0 (u30 = .agg #[.slice a0 D.length c0, .slice a1 n c1, .slice a2 V.length c2])
  f1 : Gd d 1 (u31 = .agg #[.slice x1a0 D.length x1c0, .slice x1a1 n x1c1, .slice x1a2 V.length x1c2])
  f2 : Gd d 2 (u32 = .agg #[.slice e0 E.length d0, .slice e1 m d1, .slice e2 U.length d2])
  f3 : Gd d 3 (u33 = .agg #[.slice x3a0 E.length x3c0, .slice x3a1 m x3c1, .slice x3a2 U.length x3c2])
  f4 : Gd d 4 (u34 = .int .i64 i)
  f5 : Gd d 5 (u35 = .tuple #[.agg #[.slice ta0 rD.length tc0, .slice ta1 rn tc1, .slice ta2 rV.length tc2], .bool B])
  f6 : Gd d 6 (u29 = .tuple #[.agg #[.slice ta0 rD.length tc0, .slice ta1 rn tc1, .slice ta2 rV.length tc2], .bool B])
  f7 : Gd d 7 (u36 = .agg #[.slice ta0 rD.length tc0, .slice ta1 rn tc1, .slice ta2 rV.length tc2])
  f8 : Gd d 8 (u37 = .bool B)
  f9 : Gd d 9 (u8 = .pointer (some ⟨p, 0, none⟩))
  f11 : Gd d 11 (u9 = .bool B)
  r1 : Gd d 1 (Ng d 5 (RowC w9 x1a0 (ic D) ∧ RowC w9 x1a1 (ic M) ∧ RowC w9 x1a2 (ic V)))
  r3 : Gd d 3 (Ng d 5 (RowC w9 x3a0 (ic E) ∧ RowC w9 x3a1 (ic N) ∧ RowC w9 x3a2 (ic U)))
  rf : Gd d 5 (RivAt w9 lo hi L ta0 ta1 ta2 tc0 tc1 tc2 rn rD rM rV ∧ w0.heap.size ≤ lo)
  s8 : Gd d 9 (p < w9.heap.size ∧ w0.heap.size ≤ p)
  n8 : Gd d 5 (Gd d 9 (p < lo ∨ hi ≤ p))
  b8 : Gd d 9 (Ng d 10 (Bw w9 p [.slice none 0 0, .slice none 0 0, .slice none 0 0]))
  b9 : Gd d 10 (Bw w9 p [.slice ta0 rD.length tc0, .slice ta1 rn tc1, .slice ta2 rV.length tc2])
  hbel : Below w0.heap.size w0 w9
def joinS8 (w0 : World) (t0_ t1_ t2_ t3_ t4_ t5_ t6_ t7_ t10_ t11_ t12_ t13_ t14_ t15_ t16_ t17_ t18_ t19_ t20_ t21_ t22_ t23_ t24_ t25_ t26_ t27_ t28_ t38_ t39_ t40_ t41_ t42_ t43_ t44_ t45_ t46_ t47_ t48_ t49_ t50_ t51_ t52_ t53_ t54_ t55_ t56_ t57_ t58_ t59_ t60_ t61_ t62_ t63_ t64_ t65_ t66_ t67_ t68_ t69_ t70_ t71_ t72_ t73_ t74_ t75_ t76_ t77_ t78_ t79_ t80_ t81_ t82_ t83_ t84_ t85_ t86_ t87_ t88_ t89_ t90_ t91_ t92_ t93_ t94_ t95_ t96_ t97_ t98_ t99_ t100_ t101_ t102_ t103_ t104_ t105_ t106_ t107_ t108_ t109_ t110_ t111_ t112_ t113_ t114_ t115_ t116_ t117_ t118_ t119_ t120_ t121_ t122_ t123_ : Value) (a0 a1 a2 e0 e1 e2 : Option Addr) (c0 c1 c2 d0 d1 d2 n m : Nat) (D M V E N U : List Int) (i : Int) (B : Bool) (rn : Nat) (rD rM rV : List Int) (d : Array Bool) (a : Act) (w9 : World) : Prop := Nonempty (joinS8S w0 t0_ t1_ t2_ t3_ t4_ t5_ t6_ t7_ t10_ t11_ t12_ t13_ t14_ t15_ t16_ t17_ t18_ t19_ t20_ t21_ t22_ t23_ t24_ t25_ t26_ t27_ t28_ t38_ t39_ t40_ t41_ t42_ t43_ t44_ t45_ t46_ t47_ t48_ t49_ t50_ t51_ t52_ t53_ t54_ t55_ t56_ t57_ t58_ t59_ t60_ t61_ t62_ t63_ t64_ t65_ t66_ t67_ t68_ t69_ t70_ t71_ t72_ t73_ t74_ t75_ t76_ t77_ t78_ t79_ t80_ t81_ t82_ t83_ t84_ t85_ t86_ t87_ t88_ t89_ t90_ t91_ t92_ t93_ t94_ t95_ t96_ t97_ t98_ t99_ t100_ t101_ t102_ t103_ t104_ t105_ t106_ t107_ t108_ t109_ t110_ t111_ t112_ t113_ t114_ t115_ t116_ t117_ t118_ t119_ t120_ t121_ t122_ t123_ a0 a1 a2 e0 e1 e2 c0 c1 c2 d0 d1 d2 n m D M V E N U i B rn rD rM rV d a w9)

structure joinShS (w0 : World) (t0_ t1_ t2_ t3_ t4_ t5_ t6_ t7_ t8_ t9_ t10_ t11_ t12_ t13_ t14_ t15_ t16_ t19_ t20_ t21_ t22_ t23_ t24_ t25_ t26_ t27_ t28_ t29_ t30_ t31_ t32_ t33_ t34_ t35_ t36_ t37_ t38_ t39_ t40_ t41_ t42_ t43_ t44_ t45_ t46_ t47_ t48_ t49_ t50_ t51_ t52_ t53_ t54_ t55_ t56_ t57_ t58_ t59_ t60_ t61_ t62_ t63_ t64_ t65_ t66_ t67_ t68_ t69_ t70_ t71_ t72_ t73_ t74_ t75_ t76_ t77_ t78_ t79_ t80_ t81_ t82_ t83_ t84_ t85_ t86_ t87_ t88_ t89_ t90_ t91_ t92_ t93_ t94_ t95_ t96_ t97_ t107_ t108_ t109_ t110_ t111_ t112_ t113_ t114_ t115_ t116_ t117_ t118_ t119_ t120_ t121_ t122_ t123_ : Value) (a0 a1 a2 e0 e1 e2 : Option Addr) (c0 c1 c2 d0 d1 d2 n m : Nat) (D M V E N U : List Int) (i : Int) (B : Bool) (rn : Nat) (rD rM rV : List Int) (d : Array Bool) (a : Act) (w9 : World) where
  u17 : Value
  u18 : Value
  u98 : Value
  u99 : Value
  u100 : Value
  u101 : Value
  u102 : Value
  u103 : Value
  u104 : Value
  u105 : Value
  u106 : Value
  x1a0 : Option Addr
  x1a1 : Option Addr
  x1a2 : Option Addr
  x3a0 : Option Addr
  x3a1 : Option Addr
  x3a2 : Option Addr
  x1c0 : Nat
  x1c1 : Nat
  x1c2 : Nat
  x3c0 : Nat
  x3c1 : Nat
  x3c2 : Nat
  lo : Nat
  hi : Nat
  L : Lay
  ta0 : Option Addr
  ta1 : Option Addr
  ta2 : Option Addr
  tc0 : Nat
  tc1 : Nat
  tc2 : Nat
  p : Nat
  ea : a = ⟨#[t0_, t1_, t2_, t3_, t4_, t5_, t6_, t7_, t8_, t9_, t10_, t11_, t12_, t13_, t14_, t15_, t16_, u17, u18, t19_, t20_, t21_, t22_, t23_, t24_, t25_, t26_, t27_, t28_, t29_, t30_, t31_, t32_, t33_, t34_, t35_, t36_, t37_, t38_, t39_, t40_, t41_, t42_, t43_, t44_, t45_, t46_, t47_, t48_, t49_, t50_, t51_, t52_, t53_, t54_, t55_, t56_, t57_, t58_, t59_, t60_, t61_, t62_, t63_, t64_, t65_, t66_, t67_, t68_, t69_, t70_, t71_, t72_, t73_, t74_, t75_, t76_, t77_, t78_, t79_, t80_, t81_, t82_, t83_, t84_, t85_, t86_, t87_, t88_, t89_, t90_, t91_, t92_, t93_, t94_, t95_, t96_, t97_, u98, u99, u100, u101, u102, u103, u104, u105, u106, t107_, t108_, t109_, t110_, t111_, t112_, t113_, t114_, t115_, t116_, t117_, t118_, t119_, t120_, t121_, t122_, t123_], []⟩
  f0 : Gd d 0 (u99 = .agg #[.slice a0 D.length c0, .slice a1 n c1, .slice a2 V.length c2])
  f1 : Gd d 1 (u100 = .agg #[.slice x1a0 D.length x1c0, .slice x1a1 n x1c1, .slice x1a2 V.length x1c2])
  f2 : Gd d 2 (u101 = .agg #[.slice e0 E.length d0, .slice e1 m d1, .slice e2 U.length d2])
  f3 : Gd d 3 (u102 = .agg #[.slice x3a0 E.length x3c0, .slice x3a1 m x3c1, .slice x3a2 U.length x3c2])
  f4 : Gd d 4 (u103 = .int .i64 i)
  f5 : Gd d 5 (u104 = .tuple #[.agg #[.slice ta0 rD.length tc0, .slice ta1 rn tc1, .slice ta2 rV.length tc2], .bool B])
  f6 : Gd d 6 (u98 = .tuple #[.agg #[.slice ta0 rD.length tc0, .slice ta1 rn tc1, .slice ta2 rV.length tc2], .bool B])
  f7 : Gd d 7 (u105 = .agg #[.slice ta0 rD.length tc0, .slice ta1 rn tc1, .slice ta2 rV.length tc2])
  f8 : Gd d 8 (u106 = .bool B)
  f9 : Gd d 9 (u17 = .pointer (some ⟨p, 0, none⟩))
  f11 : Gd d 11 (u18 = .bool B)
  r1 : Gd d 1 (Ng d 5 (RowC w9 x1a0 (ic D) ∧ RowC w9 x1a1 (ic M) ∧ RowC w9 x1a2 (ic V)))
  r3 : Gd d 3 (Ng d 5 (RowC w9 x3a0 (ic E) ∧ RowC w9 x3a1 (ic N) ∧ RowC w9 x3a2 (ic U)))
  rf : Gd d 5 (RivAt w9 lo hi L ta0 ta1 ta2 tc0 tc1 tc2 rn rD rM rV ∧ w0.heap.size ≤ lo)
  s8 : Gd d 9 (p < w9.heap.size ∧ w0.heap.size ≤ p)
  n8 : Gd d 5 (Gd d 9 (p < lo ∨ hi ≤ p))
  b8 : Gd d 9 (Ng d 10 (Bw w9 p [.slice none 0 0, .slice none 0 0, .slice none 0 0]))
  b9 : Gd d 10 (Bw w9 p [.slice ta0 rD.length tc0, .slice ta1 rn tc1, .slice ta2 rV.length tc2])
  hbel : Below w0.heap.size w0 w9
def joinSh (w0 : World) (t0_ t1_ t2_ t3_ t4_ t5_ t6_ t7_ t8_ t9_ t10_ t11_ t12_ t13_ t14_ t15_ t16_ t19_ t20_ t21_ t22_ t23_ t24_ t25_ t26_ t27_ t28_ t29_ t30_ t31_ t32_ t33_ t34_ t35_ t36_ t37_ t38_ t39_ t40_ t41_ t42_ t43_ t44_ t45_ t46_ t47_ t48_ t49_ t50_ t51_ t52_ t53_ t54_ t55_ t56_ t57_ t58_ t59_ t60_ t61_ t62_ t63_ t64_ t65_ t66_ t67_ t68_ t69_ t70_ t71_ t72_ t73_ t74_ t75_ t76_ t77_ t78_ t79_ t80_ t81_ t82_ t83_ t84_ t85_ t86_ t87_ t88_ t89_ t90_ t91_ t92_ t93_ t94_ t95_ t96_ t97_ t107_ t108_ t109_ t110_ t111_ t112_ t113_ t114_ t115_ t116_ t117_ t118_ t119_ t120_ t121_ t122_ t123_ : Value) (a0 a1 a2 e0 e1 e2 : Option Addr) (c0 c1 c2 d0 d1 d2 n m : Nat) (D M V E N U : List Int) (i : Int) (B : Bool) (rn : Nat) (rD rM rV : List Int) (d : Array Bool) (a : Act) (w9 : World) : Prop := Nonempty (joinShS w0 t0_ t1_ t2_ t3_ t4_ t5_ t6_ t7_ t8_ t9_ t10_ t11_ t12_ t13_ t14_ t15_ t16_ t19_ t20_ t21_ t22_ t23_ t24_ t25_ t26_ t27_ t28_ t29_ t30_ t31_ t32_ t33_ t34_ t35_ t36_ t37_ t38_ t39_ t40_ t41_ t42_ t43_ t44_ t45_ t46_ t47_ t48_ t49_ t50_ t51_ t52_ t53_ t54_ t55_ t56_ t57_ t58_ t59_ t60_ t61_ t62_ t63_ t64_ t65_ t66_ t67_ t68_ t69_ t70_ t71_ t72_ t73_ t74_ t75_ t76_ t77_ t78_ t79_ t80_ t81_ t82_ t83_ t84_ t85_ t86_ t87_ t88_ t89_ t90_ t91_ t92_ t93_ t94_ t95_ t96_ t97_ t107_ t108_ t109_ t110_ t111_ t112_ t113_ t114_ t115_ t116_ t117_ t118_ t119_ t120_ t121_ t122_ t123_ a0 a1 a2 e0 e1 e2 c0 c1 c2 d0 d1 d2 n m D M V E N U i B rn rD rM rV d a w9)

set_option maxHeartbeats 32000000 in
theorem joinRiversLaw_fits (a0 a1 a2 e0 e1 e2 : Option Addr) (c0 c1 c2 d0 d1 d2 n m : Nat) (D M V E N U : List Int) (i : Int) (w : World) (ha0 : RowC w a0 (ic D)) (ha1 : RowC w a1 (ic M)) (ha2 : RowC w a2 (ic V)) (he0 : RowC w e0 (ic E)) (he1 : RowC w e1 (ic N)) (he2 : RowC w e2 (ic U)) (hM : M.length = n * 4) (hN : N.length = m * 4) (hwi : (Lit.int .i64 i).wf = true) (h1 : (D.length : Int) + (n : Int) + (V.length : Int) ≤ 1048576) (h2 : (E.length : Int) + (m : Int) + (U.length : Int) ≤ 1048576 - ((D.length : Int) + (n : Int) + (V.length : Int))) :
    Calls Try.prog 6 #[.agg #[.slice a0 D.length c0, .slice a1 n c1, .slice a2 V.length c2], .agg #[.slice e0 E.length d0, .slice e1 m d1, .slice e2 U.length d2], .int .i64 i] w fun e w' => e = .returned (.bool true) ∧ Below w.heap.size w w' := by
  have hlD : D.length ≤ 1048576 := by omega
  have hln : n ≤ 1048576 := by omega
  have hlV : V.length ≤ 1048576 := by omega
  have hlE : E.length ≤ 1048576 := by omega
  have hlm : m ≤ 1048576 := by omega
  have hlU : U.length ≤ 1048576 := by omega
  have g1 : ¬ (1048576 : Int) - (D.length : Int) - (n : Int) - (V.length : Int) < 0 := by omega
  have g2 : ¬ (1048576 : Int) - (D.length : Int) - (n : Int) - (V.length : Int) - (E.length : Int) - (m : Int) - (U.length : Int) < 0 := by omega
  have HM := Lib.hid hM
  have HN := Lib.hid hN
  clear hM hN
  have hlim := joinR_len D M V n E N U m i
  obtain ⟨⟨rn, rD, rM, rV, B⟩, hR⟩ : ∃ R, joinR D M V n E N U m i = R := ⟨_, rfl⟩
  rw [hR] at hlim
  simp only at hlim
  have HS : Hid (∀ (b0 b1 b2 : Option Addr) (q0 q1 q2 : Nat) (f0 f1 f2 : Option Addr) (r0 r1 r2 : Nat) (W : World), RowC W b0 (ic D) → RowC W b1 (ic M) → RowC W b2 (ic V) → RowC W f0 (ic E) → RowC W f1 (ic N) → RowC W f2 (ic U) → Calls Try.prog 27 #[.agg #[.slice b0 D.length q0, .slice b1 n q1, .slice b2 V.length q2], .agg #[.slice f0 E.length r0, .slice f1 m r1, .slice f2 U.length r2], .int .i64 i] W (RivP ⟨rn, rD, rM, rV, B⟩ W)) := Lib.hid fun b0 b1 b2 q0 q1 q2 f0 f1 f2 r0 r1 r2 W k0 k1 k2 j0 j1 j2 => by
    have h9 := joinRivers_s b0 b1 b2 D.length n V.length q0 q1 q2 D M V f0 f1 f2 E.length m U.length r0 r1 r2 E N U i W hwi k0 k1 k2 rfl HM.out rfl ⟨hlD, hln, hlV⟩ j0 j1 j2 rfl HN.out rfl ⟨hlE, hlm, hlU⟩
    rw [hR] at h9
    exact h9
  have HI : Hid (∀ (b0 b1 b2 : Option Addr) (q0 q1 q2 : Nat) (f0 f1 f2 : Option Addr) (r0 r1 r2 : Nat) (W : World), RowC W b0 (ic D) → RowC W b1 (ic M) → RowC W b2 (ic V) → RowC W f0 (ic E) → RowC W f1 (ic N) → RowC W f2 (ic U) → Calls Try.prog 28 #[.agg #[.slice b0 D.length q0, .slice b1 n q1, .slice b2 V.length q2], .agg #[.slice f0 E.length r0, .slice f1 m r1, .slice f2 U.length r2], .int .i64 i] W (RivP ⟨rn, rD, rM, rV, B⟩ W)) := Lib.hid fun b0 b1 b2 q0 q1 q2 f0 f1 f2 r0 r1 r2 W k0 k1 k2 j0 j1 j2 => by
    have h9 := joinRivers_i b0 b1 b2 D.length n V.length q0 q1 q2 D M V f0 f1 f2 E.length m U.length r0 r1 r2 E N U i W hwi k0 k1 k2 rfl HM.out rfl ⟨hlD, hln, hlV⟩ j0 j1 j2 rfl HN.out rfl ⟨hlE, hlm, hlU⟩
    rw [hR] at h9
    exact h9
  clear hR hwi
  have HA0 := Lib.hid ha0
  have HA1 := Lib.hid ha1
  have HA2 := Lib.hid ha2
  have HE0 := Lib.hid he0
  have HE1 := Lib.hid he1
  have HE2 := Lib.hid he2
  clear ha0 ha1 ha2 he0 he1 he2
  obtain ⟨w1, hW1⟩ : ∃ W, (w.alloc (.cells #[.slice a0 D.length c0, .slice a1 n c1, .slice a2 V.length c2] 25)).alloc (.cells #[.slice e0 E.length d0, .slice e1 m d1, .slice e2 U.length d2] 25) = W := ⟨_, rfl⟩
  have Bel_0 : Hid (Below w.heap.size w w1) := Lib.hid (by rw [← hW1]; exact below2 w _ _)
  have BA_0 : Hid (Bx w1 (w.heap.size) [.slice a0 D.length c0, .slice a1 n c1, .slice a2 V.length c2]) := Lib.hid (by rw [← hW1]; exact (Bx.new w [.slice a0 D.length c0, .slice a1 n c1, .slice a2 V.length c2] _).alloc _)
  have BE_0 : Hid (Bx w1 ((w.heap.size + 1)) [.slice e0 E.length d0, .slice e1 m d1, .slice e2 U.length d2]) := Lib.hid (by rw [← hW1]; exact Bx.new1G w _ [.slice e0 E.length d0, .slice e1 m d1, .slice e2 U.length d2] _)
  have z1 : w.heap.size + 2 ≤ w1.heap.size := by rw [← hW1]; simp
  have HW1 := Lib.hid hW1
  clear hW1
  go_enter Try.func6, Try.ntmps6
  go_upto_region 1 with fail
  rw [HW1.out]
  clear HW1
  have cBA0 := BA_0.out.c 0 rfl
  have cBA1 := BA_0.out.c 1 rfl
  have cBA2 := BA_0.out.c 2 rfl
  have cBE0 := BE_0.out.c 0 rfl
  have cBE1 := BE_0.out.c 1 rfl
  have cBE2 := BE_0.out.c 2 rfl
  go_wp2_with fail
  refine (szRiver_fits a0 a1 a2 D.length n V.length c0 c1 c2 1048576 (by omega) (by omega) _).mono ?_
  rintro e w2 ⟨rfl, hb⟩
  clear cBA0 cBA1 cBA2 cBE0 cBE1 cBE2
  have z2 : w1.heap.size + 0 ≤ w2.heap.size := (by have := hb.size; (try simp at this); omega)
  have Bel_1 : Hid (Below w.heap.size w w2) := Lib.hid (Bel_0.out.trans (hb.mono Bel_0.out.size))
  clear Bel_0
  have BA_1 : Hid (Bx w2 (w.heap.size) [.slice a0 D.length c0, .slice a1 n c1, .slice a2 V.length c2]) := Lib.hid (BA_0.out.below hb BA_0.out.1)
  clear BA_0
  have BE_1 : Hid (Bx w2 ((w.heap.size + 1)) [.slice e0 E.length d0, .slice e1 m d1, .slice e2 U.length d2]) := Lib.hid (BE_0.out.below hb BE_0.out.1)
  clear BE_0
  clear hb
  have cBA0 := BA_1.out.c 0 rfl
  have cBA1 := BA_1.out.c 1 rfl
  have cBA2 := BA_1.out.c 2 rfl
  have cBE0 := BE_1.out.c 0 rfl
  have cBE1 := BE_1.out.c 1 rfl
  have cBE2 := BE_1.out.c 2 rfl
  go_wp2_with fail
  refine (szRiver_fits e0 e1 e2 E.length m U.length d0 d1 d2 _ (by omega) (by omega) _).mono ?_
  rintro e w3 ⟨rfl, hb⟩
  clear cBA0 cBA1 cBA2 cBE0 cBE1 cBE2
  have z3 : w2.heap.size + 0 ≤ w3.heap.size := (by have := hb.size; (try simp at this); omega)
  have Bel_2 : Hid (Below w.heap.size w w3) := Lib.hid (Bel_1.out.trans (hb.mono Bel_1.out.size))
  clear Bel_1
  have BA_2 : Hid (Bx w3 (w.heap.size) [.slice a0 D.length c0, .slice a1 n c1, .slice a2 V.length c2]) := Lib.hid (BA_1.out.below hb BA_1.out.1)
  clear BA_1
  have BE_2 : Hid (Bx w3 ((w.heap.size + 1)) [.slice e0 E.length d0, .slice e1 m d1, .slice e2 U.length d2]) := Lib.hid (BE_1.out.below hb BE_1.out.1)
  clear BE_1
  clear hb
  have cBA0 := BA_2.out.c 0 rfl
  have cBA1 := BA_2.out.c 1 rfl
  have cBA2 := BA_2.out.c 2 rfl
  have cBE0 := BE_2.out.c 0 rfl
  have cBE1 := BE_2.out.c 1 rfl
  have cBE2 := BE_2.out.c 2 rfl
  go_wp2_with fail
  clear cBA0 cBA1 cBA2 cBE0 cBE1 cBE2
  refine wp_region_inv (id := 8) (joinS8 (w3) _ _ _ _ _ _ _ _ _ _ _ _ _ _ _ _ _ _ _ _ _ _ _ _ _ _ _ _ _ _ _ _ _ _ _ _ _ _ _ _ _ _ _ _ _ _ _ _ _ _ _ _ _ _ _ _ _ _ _ _ _ _ _ _ _ _ _ _ _ _ _ _ _ _ _ _ _ _ _ _ _ _ _ _ _ _ _ _ _ _ _ _ _ _ _ _ _ _ _ _ _ _ _ _ _ _ _ _ _ _ _ _ _ a0 a1 a2 e0 e1 e2 c0 c1 c2 d0 d1 d2 n m D M V E N U i B rn rD rM rV) (by kernel_rfl) (by kernel_rfl) ⟨⟨_, _, _, _, _, _, _, _, _, _, _, none, none, none, none, none, none, 0, 0, 0, 0, 0, 0, 0, 0, ⟨0, 0, 0, 0, 0, 0⟩, none, none, none, 0, 0, 0, 0, rfl, .start, .start, .start, .start, .start, .start, .start, .start, .start, .start, .start, .start, .start, .start, .start, .start, .start, .start, beld (Below.refl _ _) 1⟩⟩ ?hendt ?hstepst
  rotate_left
  case hstepst =>
    refine .cons 1 rfl ?_ ?_
    · intro d a w9 hsz hcl hinv hd hdep
      obtain ⟨⟨u8, u9, u29, u30, u31, u32, u33, u34, u35, u36, u37, x1a0, x1a1, x1a2, x3a0, x3a1, x3a2, x1c0, x1c1, x1c2, x3c0, x3c1, x3c2, lo, hi, L, ta0, ta1, ta2, tc0, tc1, tc2, p, rfl, f0, f1, f2, f3, f4, f5, f6, f7, f8, f9, f11, r1, r3, rf, s8, n8, b8, b9, hbel⟩⟩ := hinv
      have bx := BA_2.out.below hbel BA_2.out.1
      have k0_ := bx.c 0 rfl
      have k1_ := bx.c 1 rfl
      have k2_ := bx.c 2 rfl
      go_wp2_with fail
      exact ⟨⟨u8, u9, u29, (.agg #[.slice a0 D.length c0, .slice a1 n c1, .slice a2 V.length c2]), u31, u32, u33, u34, u35, u36, u37, x1a0, x1a1, x1a2, x3a0, x3a1, x3a2, x1c0, x1c1, x1c2, x3c0, x3c1, x3c2, lo, hi, L, ta0, ta1, ta2, tc0, tc1, tc2, p, rfl, Gd.new (by first | rfl | simp), (f1.keep (i := 0) (by decide)), (f2.keep (i := 0) (by decide)), (f3.keep (i := 0) (by decide)), (f4.keep (i := 0) (by decide)), (f5.keep (i := 0) (by decide)), (f6.keep (i := 0) (by decide)), (f7.keep (i := 0) (by decide)), (f8.keep (i := 0) (by decide)), (f9.keep (i := 0) (by decide)), (f11.keep (i := 0) (by decide)), (Gd.keep (i := 0) (r1.imp fun h => Ng.keep (i := 0) h (by decide)) (by decide)), (Gd.keep (i := 0) (r3.imp fun h => Ng.keep (i := 0) h (by decide)) (by decide)), (rf.keep (i := 0) (by decide)), (s8.keep (i := 0) (by decide)), (Gd.keep (i := 0) (n8.imp fun h => Gd.keep (i := 0) h (by decide)) (by decide)), (Gd.keep (i := 0) (b8.imp fun h => Ng.keep (i := 0) h (by decide)) (by decide)), (b9.keep (i := 0) (by decide)), hbel⟩⟩
    refine .cons 2 rfl ?_ ?_
    · intro d a w9 hsz hcl hinv hd hdep
      obtain ⟨⟨u8, u9, u29, u30, u31, u32, u33, u34, u35, u36, u37, x1a0, x1a1, x1a2, x3a0, x3a1, x3a2, x1c0, x1c1, x1c2, x3c0, x3c1, x3c2, lo, hi, L, ta0, ta1, ta2, tc0, tc1, tc2, p, rfl, f0, f1, f2, f3, f4, f5, f6, f7, f8, f9, f11, r1, r3, rf, s8, n8, b8, b9, hbel⟩⟩ := hinv
      have e0 := f0 (hdep.get 0 rfl)
      subst e0
      have q1 := hd
      have q5 := hcl.not q1 5 _ rfl rfl
      have q6 := hcl.not q5 6 _ rfl rfl
      have q7 := hcl.not q6 7 _ rfl rfl
      have q8 := hcl.not q6 8 _ rfl rfl
      have q10 := hcl.not q7 10 _ rfl rfl
      have q11 := hcl.not q8 11 _ rfl rfl
      go_wp2_with fail
      refine (toRiver_any a0 a1 a2 c0 c1 c2 n D M V _ (HA0.out.below (Bel_2.out.trans (hbel.mono Bel_2.out.size)) (Nat.le_refl _)) (HA1.out.below (Bel_2.out.trans (hbel.mono Bel_2.out.size)) (Nat.le_refl _)) (HA2.out.below (Bel_2.out.trans (hbel.mono Bel_2.out.size)) (Nat.le_refl _)) hlD hln hlV HM.out).mono ?_
      rintro e w8 ⟨ya0, yc0, ya1, yc1, ya2, yc2, yL, rfl, hb, hr⟩
      go_wp2_with fail
      exact ⟨⟨u8, u9, u29, (.agg #[.slice a0 D.length c0, .slice a1 n c1, .slice a2 V.length c2]), (.agg #[.slice ya0 D.length yc0, .slice ya1 n yc1, .slice ya2 V.length yc2]), u32, u33, u34, u35, u36, u37, ya0, ya1, ya2, x3a0, x3a1, x3a2, yc0, yc1, yc2, x3c0, x3c1, x3c2, lo, hi, L, ta0, ta1, ta2, tc0, tc1, tc2, p, rfl, Gd.new rfl, Gd.new rfl, (f2.keep (i := 1) (by decide)), (f3.keep (i := 1) (by decide)), (f4.keep (i := 1) (by decide)), (Gd.undone (i := 1) (q5) (by decide)), (Gd.undone (i := 1) (q6) (by decide)), (Gd.undone (i := 1) (q7) (by decide)), (Gd.undone (i := 1) (q8) (by decide)), (f9.keep (i := 1) (by decide)), (Gd.undone (i := 1) (q11) (by decide)), Gd.new (fun _ => ⟨hr.r0.row, hr.r1.row, hr.r2.row⟩), (Gd.keep (i := 1) (fun h9 => Ng.keep (i := 1) (fun h8 => have h := r3 h9 h8; ⟨h.1.below hb (Nat.le_refl _), h.2.1.below hb (Nat.le_refl _), h.2.2.below hb (Nat.le_refl _)⟩) (by decide)) (by decide)), (Gd.undone (i := 1) (q5) (by decide)), (Gd.keep (i := 1) (fun h9 => ⟨Nat.lt_of_lt_of_le (s8 h9).1 hb.size, (s8 h9).2⟩) (by decide)), (Gd.undone (i := 1) (q5) (by decide)), (Gd.keep (i := 1) (fun h9 => Ng.keep (i := 1) (fun h8 => (b8 h9 h8).below hb (s8 h9).1) (by decide)) (by decide)), (Gd.undone (i := 1) (q10) (by decide)), (hbel.trans (hb.mono hbel.size))⟩⟩
    refine .cons 3 rfl ?_ ?_
    · intro d a w9 hsz hcl hinv hd hdep
      obtain ⟨⟨u8, u9, u29, u30, u31, u32, u33, u34, u35, u36, u37, x1a0, x1a1, x1a2, x3a0, x3a1, x3a2, x1c0, x1c1, x1c2, x3c0, x3c1, x3c2, lo, hi, L, ta0, ta1, ta2, tc0, tc1, tc2, p, rfl, f0, f1, f2, f3, f4, f5, f6, f7, f8, f9, f11, r1, r3, rf, s8, n8, b8, b9, hbel⟩⟩ := hinv
      have bx := BE_2.out.below hbel BE_2.out.1
      have k0_ := bx.c 0 rfl
      have k1_ := bx.c 1 rfl
      have k2_ := bx.c 2 rfl
      go_wp2_with fail
      exact ⟨⟨u8, u9, u29, u30, u31, (.agg #[.slice e0 E.length d0, .slice e1 m d1, .slice e2 U.length d2]), u33, u34, u35, u36, u37, x1a0, x1a1, x1a2, x3a0, x3a1, x3a2, x1c0, x1c1, x1c2, x3c0, x3c1, x3c2, lo, hi, L, ta0, ta1, ta2, tc0, tc1, tc2, p, rfl, (f0.keep (i := 2) (by decide)), (f1.keep (i := 2) (by decide)), Gd.new (by first | rfl | simp), (f3.keep (i := 2) (by decide)), (f4.keep (i := 2) (by decide)), (f5.keep (i := 2) (by decide)), (f6.keep (i := 2) (by decide)), (f7.keep (i := 2) (by decide)), (f8.keep (i := 2) (by decide)), (f9.keep (i := 2) (by decide)), (f11.keep (i := 2) (by decide)), (Gd.keep (i := 2) (r1.imp fun h => Ng.keep (i := 2) h (by decide)) (by decide)), (Gd.keep (i := 2) (r3.imp fun h => Ng.keep (i := 2) h (by decide)) (by decide)), (rf.keep (i := 2) (by decide)), (s8.keep (i := 2) (by decide)), (Gd.keep (i := 2) (n8.imp fun h => Gd.keep (i := 2) h (by decide)) (by decide)), (Gd.keep (i := 2) (b8.imp fun h => Ng.keep (i := 2) h (by decide)) (by decide)), (b9.keep (i := 2) (by decide)), hbel⟩⟩
    refine .cons 4 rfl ?_ ?_
    · intro d a w9 hsz hcl hinv hd hdep
      obtain ⟨⟨u8, u9, u29, u30, u31, u32, u33, u34, u35, u36, u37, x1a0, x1a1, x1a2, x3a0, x3a1, x3a2, x1c0, x1c1, x1c2, x3c0, x3c1, x3c2, lo, hi, L, ta0, ta1, ta2, tc0, tc1, tc2, p, rfl, f0, f1, f2, f3, f4, f5, f6, f7, f8, f9, f11, r1, r3, rf, s8, n8, b8, b9, hbel⟩⟩ := hinv
      have e2 := f2 (hdep.get 2 rfl)
      subst e2
      have q3 := hd
      have q5 := hcl.not q3 5 _ rfl rfl
      have q6 := hcl.not q5 6 _ rfl rfl
      have q7 := hcl.not q6 7 _ rfl rfl
      have q8 := hcl.not q6 8 _ rfl rfl
      have q10 := hcl.not q7 10 _ rfl rfl
      have q11 := hcl.not q8 11 _ rfl rfl
      go_wp2_with fail
      refine (toRiver_any e0 e1 e2 d0 d1 d2 m E N U _ (HE0.out.below (Bel_2.out.trans (hbel.mono Bel_2.out.size)) (Nat.le_refl _)) (HE1.out.below (Bel_2.out.trans (hbel.mono Bel_2.out.size)) (Nat.le_refl _)) (HE2.out.below (Bel_2.out.trans (hbel.mono Bel_2.out.size)) (Nat.le_refl _)) hlE hlm hlU HN.out).mono ?_
      rintro e w8 ⟨ya0, yc0, ya1, yc1, ya2, yc2, yL, rfl, hb, hr⟩
      go_wp2_with fail
      exact ⟨⟨u8, u9, u29, u30, u31, (.agg #[.slice e0 E.length d0, .slice e1 m d1, .slice e2 U.length d2]), (.agg #[.slice ya0 E.length yc0, .slice ya1 m yc1, .slice ya2 U.length yc2]), u34, u35, u36, u37, x1a0, x1a1, x1a2, ya0, ya1, ya2, x1c0, x1c1, x1c2, yc0, yc1, yc2, lo, hi, L, ta0, ta1, ta2, tc0, tc1, tc2, p, rfl, (f0.keep (i := 3) (by decide)), (f1.keep (i := 3) (by decide)), Gd.new rfl, Gd.new rfl, (f4.keep (i := 3) (by decide)), (Gd.undone (i := 3) (q5) (by decide)), (Gd.undone (i := 3) (q6) (by decide)), (Gd.undone (i := 3) (q7) (by decide)), (Gd.undone (i := 3) (q8) (by decide)), (f9.keep (i := 3) (by decide)), (Gd.undone (i := 3) (q11) (by decide)), (Gd.keep (i := 3) (fun h9 => Ng.keep (i := 3) (fun h8 => have h := r1 h9 h8; ⟨h.1.below hb (Nat.le_refl _), h.2.1.below hb (Nat.le_refl _), h.2.2.below hb (Nat.le_refl _)⟩) (by decide)) (by decide)), Gd.new (fun _ => ⟨hr.r0.row, hr.r1.row, hr.r2.row⟩), (Gd.undone (i := 3) (q5) (by decide)), (Gd.keep (i := 3) (fun h9 => ⟨Nat.lt_of_lt_of_le (s8 h9).1 hb.size, (s8 h9).2⟩) (by decide)), (Gd.undone (i := 3) (q5) (by decide)), (Gd.keep (i := 3) (fun h9 => Ng.keep (i := 3) (fun h8 => (b8 h9 h8).below hb (s8 h9).1) (by decide)) (by decide)), (Gd.undone (i := 3) (q10) (by decide)), (hbel.trans (hb.mono hbel.size))⟩⟩
    refine .cons 5 rfl ?_ ?_
    · intro d a w9 hsz hcl hinv hd hdep
      obtain ⟨⟨u8, u9, u29, u30, u31, u32, u33, u34, u35, u36, u37, x1a0, x1a1, x1a2, x3a0, x3a1, x3a2, x1c0, x1c1, x1c2, x3c0, x3c1, x3c2, lo, hi, L, ta0, ta1, ta2, tc0, tc1, tc2, p, rfl, f0, f1, f2, f3, f4, f5, f6, f7, f8, f9, f11, r1, r3, rf, s8, n8, b8, b9, hbel⟩⟩ := hinv
      go_wp2_with fail
      exact ⟨⟨u8, u9, u29, u30, u31, u32, u33, (.int .i64 i), u35, u36, u37, x1a0, x1a1, x1a2, x3a0, x3a1, x3a2, x1c0, x1c1, x1c2, x3c0, x3c1, x3c2, lo, hi, L, ta0, ta1, ta2, tc0, tc1, tc2, p, rfl, (f0.keep (i := 4) (by decide)), (f1.keep (i := 4) (by decide)), (f2.keep (i := 4) (by decide)), (f3.keep (i := 4) (by decide)), Gd.new (by first | rfl | simp), (f5.keep (i := 4) (by decide)), (f6.keep (i := 4) (by decide)), (f7.keep (i := 4) (by decide)), (f8.keep (i := 4) (by decide)), (f9.keep (i := 4) (by decide)), (f11.keep (i := 4) (by decide)), (Gd.keep (i := 4) (r1.imp fun h => Ng.keep (i := 4) h (by decide)) (by decide)), (Gd.keep (i := 4) (r3.imp fun h => Ng.keep (i := 4) h (by decide)) (by decide)), (rf.keep (i := 4) (by decide)), (s8.keep (i := 4) (by decide)), (Gd.keep (i := 4) (n8.imp fun h => Gd.keep (i := 4) h (by decide)) (by decide)), (Gd.keep (i := 4) (b8.imp fun h => Ng.keep (i := 4) h (by decide)) (by decide)), (b9.keep (i := 4) (by decide)), hbel⟩⟩
    refine .cons 6 rfl ?_ ?_
    · intro d a w9 hsz hcl hinv hd hdep
      obtain ⟨⟨u8, u9, u29, u30, u31, u32, u33, u34, u35, u36, u37, x1a0, x1a1, x1a2, x3a0, x3a1, x3a2, x1c0, x1c1, x1c2, x3c0, x3c1, x3c2, lo, hi, L, ta0, ta1, ta2, tc0, tc1, tc2, p, rfl, f0, f1, f2, f3, f4, f5, f6, f7, f8, f9, f11, r1, r3, rf, s8, n8, b8, b9, hbel⟩⟩ := hinv
      have e1 := f1 (hdep.get 1 rfl)
      subst e1
      have e3 := f3 (hdep.get 3 rfl)
      subst e3
      have e4 := f4 (hdep.get 4 rfl)
      subst e4
      have q5 := hd
      have q6 := hcl.not q5 6 _ rfl rfl
      have q7 := hcl.not q6 7 _ rfl rfl
      have q8 := hcl.not q6 8 _ rfl rfl
      have q10 := hcl.not q7 10 _ rfl rfl
      have q11 := hcl.not q8 11 _ rfl rfl
      have hr1 := r1 (hdep.get 1 rfl) hd
      have hr3 := r3 (hdep.get 3 rfl) hd
      go_wp2_with fail
      refine (HS.out x1a0 x1a1 x1a2 x1c0 x1c1 x1c2 x3a0 x3a1 x3a2 x3c0 x3c1 x3c2 _ hr1.1 hr1.2.1 hr1.2.2 hr3.1 hr3.2.1 hr3.2.2).mono ?_
      rintro e w8 ⟨lo8, hi8, L8, ya0, yc0, ya1, yc1, ya2, yc2, rfl, hb, hr, hlo⟩
      simp only at hr
      go_wp2_with fail
      exact ⟨⟨u8, u9, u29, u30, (.agg #[.slice x1a0 D.length x1c0, .slice x1a1 n x1c1, .slice x1a2 V.length x1c2]), u32, (.agg #[.slice x3a0 E.length x3c0, .slice x3a1 m x3c1, .slice x3a2 U.length x3c2]), (.int .i64 i), (.tuple #[.agg #[.slice ya0 rD.length yc0, .slice ya1 rn yc1, .slice ya2 rV.length yc2], .bool B]), u36, u37, x1a0, x1a1, x1a2, x3a0, x3a1, x3a2, x1c0, x1c1, x1c2, x3c0, x3c1, x3c2, lo8, hi8, L8, ya0, ya1, ya2, yc0, yc1, yc2, p, rfl, (f0.keep (i := 5) (by decide)), Gd.new rfl, (f2.keep (i := 5) (by decide)), Gd.new rfl, Gd.new rfl, Gd.new rfl, (Gd.undone (i := 5) (q6) (by decide)), (Gd.undone (i := 5) (q7) (by decide)), (Gd.undone (i := 5) (q8) (by decide)), (f9.keep (i := 5) (by decide)), (Gd.undone (i := 5) (q11) (by decide)), (Gd.keep (i := 5) (fun h9 => Ng.new (by rw [hsz]; exact (by decide : 5 < 12))) (by decide)), (Gd.keep (i := 5) (fun h9 => Ng.new (by rw [hsz]; exact (by decide : 5 < 12))) (by decide)), Gd.new ⟨hr, Nat.le_trans hbel.size hlo⟩, (Gd.keep (i := 5) (fun h9 => ⟨Nat.lt_of_lt_of_le (s8 h9).1 hb.size, (s8 h9).2⟩) (by decide)), (fun _ hj => .inl (by rw [set_ne (by decide)] at hj; have h7 := (s8 hj).1; omega)), (Gd.keep (i := 5) (fun h9 => Ng.keep (i := 5) (fun h8 => (b8 h9 h8).below hb (s8 h9).1) (by decide)) (by decide)), (Gd.undone (i := 5) (q10) (by decide)), (hbel.trans (hb.mono hbel.size))⟩⟩
    refine .cons 7 rfl ?_ ?_
    · intro d a w9 hsz hcl hinv hd hdep
      obtain ⟨⟨u8, u9, u29, u30, u31, u32, u33, u34, u35, u36, u37, x1a0, x1a1, x1a2, x3a0, x3a1, x3a2, x1c0, x1c1, x1c2, x3c0, x3c1, x3c2, lo, hi, L, ta0, ta1, ta2, tc0, tc1, tc2, p, rfl, f0, f1, f2, f3, f4, f5, f6, f7, f8, f9, f11, r1, r3, rf, s8, n8, b8, b9, hbel⟩⟩ := hinv
      have e5 := f5 (hdep.get 5 rfl)
      subst e5
      go_wp2_with fail
      exact ⟨⟨u8, u9, (.tuple #[.agg #[.slice ta0 rD.length tc0, .slice ta1 rn tc1, .slice ta2 rV.length tc2], .bool B]), u30, u31, u32, u33, u34, (.tuple #[.agg #[.slice ta0 rD.length tc0, .slice ta1 rn tc1, .slice ta2 rV.length tc2], .bool B]), u36, u37, x1a0, x1a1, x1a2, x3a0, x3a1, x3a2, x1c0, x1c1, x1c2, x3c0, x3c1, x3c2, lo, hi, L, ta0, ta1, ta2, tc0, tc1, tc2, p, rfl, (f0.keep (i := 6) (by decide)), (f1.keep (i := 6) (by decide)), (f2.keep (i := 6) (by decide)), (f3.keep (i := 6) (by decide)), (f4.keep (i := 6) (by decide)), Gd.new rfl, Gd.new (by first | rfl | simp), (f7.keep (i := 6) (by decide)), (f8.keep (i := 6) (by decide)), (f9.keep (i := 6) (by decide)), (f11.keep (i := 6) (by decide)), (Gd.keep (i := 6) (r1.imp fun h => Ng.keep (i := 6) h (by decide)) (by decide)), (Gd.keep (i := 6) (r3.imp fun h => Ng.keep (i := 6) h (by decide)) (by decide)), (rf.keep (i := 6) (by decide)), (s8.keep (i := 6) (by decide)), (Gd.keep (i := 6) (n8.imp fun h => Gd.keep (i := 6) h (by decide)) (by decide)), (Gd.keep (i := 6) (b8.imp fun h => Ng.keep (i := 6) h (by decide)) (by decide)), (b9.keep (i := 6) (by decide)), hbel⟩⟩
    refine .cons 8 rfl ?_ ?_
    · intro d a w9 hsz hcl hinv hd hdep
      obtain ⟨⟨u8, u9, u29, u30, u31, u32, u33, u34, u35, u36, u37, x1a0, x1a1, x1a2, x3a0, x3a1, x3a2, x1c0, x1c1, x1c2, x3c0, x3c1, x3c2, lo, hi, L, ta0, ta1, ta2, tc0, tc1, tc2, p, rfl, f0, f1, f2, f3, f4, f5, f6, f7, f8, f9, f11, r1, r3, rf, s8, n8, b8, b9, hbel⟩⟩ := hinv
      have e6 := f6 (hdep.get 6 rfl)
      subst e6
      go_wp2_with fail
      exact ⟨⟨u8, u9, (.tuple #[.agg #[.slice ta0 rD.length tc0, .slice ta1 rn tc1, .slice ta2 rV.length tc2], .bool B]), u30, u31, u32, u33, u34, u35, (.agg #[.slice ta0 rD.length tc0, .slice ta1 rn tc1, .slice ta2 rV.length tc2]), u37, x1a0, x1a1, x1a2, x3a0, x3a1, x3a2, x1c0, x1c1, x1c2, x3c0, x3c1, x3c2, lo, hi, L, ta0, ta1, ta2, tc0, tc1, tc2, p, rfl, (f0.keep (i := 7) (by decide)), (f1.keep (i := 7) (by decide)), (f2.keep (i := 7) (by decide)), (f3.keep (i := 7) (by decide)), (f4.keep (i := 7) (by decide)), (f5.keep (i := 7) (by decide)), Gd.new rfl, Gd.new (by first | rfl | simp), (f8.keep (i := 7) (by decide)), (f9.keep (i := 7) (by decide)), (f11.keep (i := 7) (by decide)), (Gd.keep (i := 7) (r1.imp fun h => Ng.keep (i := 7) h (by decide)) (by decide)), (Gd.keep (i := 7) (r3.imp fun h => Ng.keep (i := 7) h (by decide)) (by decide)), (rf.keep (i := 7) (by decide)), (s8.keep (i := 7) (by decide)), (Gd.keep (i := 7) (n8.imp fun h => Gd.keep (i := 7) h (by decide)) (by decide)), (Gd.keep (i := 7) (b8.imp fun h => Ng.keep (i := 7) h (by decide)) (by decide)), (b9.keep (i := 7) (by decide)), hbel⟩⟩
    refine .cons 9 rfl ?_ ?_
    · intro d a w9 hsz hcl hinv hd hdep
      obtain ⟨⟨u8, u9, u29, u30, u31, u32, u33, u34, u35, u36, u37, x1a0, x1a1, x1a2, x3a0, x3a1, x3a2, x1c0, x1c1, x1c2, x3c0, x3c1, x3c2, lo, hi, L, ta0, ta1, ta2, tc0, tc1, tc2, p, rfl, f0, f1, f2, f3, f4, f5, f6, f7, f8, f9, f11, r1, r3, rf, s8, n8, b8, b9, hbel⟩⟩ := hinv
      have e6 := f6 (hdep.get 6 rfl)
      subst e6
      go_wp2_with fail
      exact ⟨⟨u8, u9, (.tuple #[.agg #[.slice ta0 rD.length tc0, .slice ta1 rn tc1, .slice ta2 rV.length tc2], .bool B]), u30, u31, u32, u33, u34, u35, u36, (.bool B), x1a0, x1a1, x1a2, x3a0, x3a1, x3a2, x1c0, x1c1, x1c2, x3c0, x3c1, x3c2, lo, hi, L, ta0, ta1, ta2, tc0, tc1, tc2, p, rfl, (f0.keep (i := 8) (by decide)), (f1.keep (i := 8) (by decide)), (f2.keep (i := 8) (by decide)), (f3.keep (i := 8) (by decide)), (f4.keep (i := 8) (by decide)), (f5.keep (i := 8) (by decide)), Gd.new rfl, (f7.keep (i := 8) (by decide)), Gd.new (by first | rfl | simp), (f9.keep (i := 8) (by decide)), (f11.keep (i := 8) (by decide)), (Gd.keep (i := 8) (r1.imp fun h => Ng.keep (i := 8) h (by decide)) (by decide)), (Gd.keep (i := 8) (r3.imp fun h => Ng.keep (i := 8) h (by decide)) (by decide)), (rf.keep (i := 8) (by decide)), (s8.keep (i := 8) (by decide)), (Gd.keep (i := 8) (n8.imp fun h => Gd.keep (i := 8) h (by decide)) (by decide)), (Gd.keep (i := 8) (b8.imp fun h => Ng.keep (i := 8) h (by decide)) (by decide)), (b9.keep (i := 8) (by decide)), hbel⟩⟩
    refine .cons 10 rfl ?_ ?_
    · intro d a w9 hsz hcl hinv hd hdep
      obtain ⟨⟨u8, u9, u29, u30, u31, u32, u33, u34, u35, u36, u37, x1a0, x1a1, x1a2, x3a0, x3a1, x3a2, x1c0, x1c1, x1c2, x3c0, x3c1, x3c2, lo, hi, L, ta0, ta1, ta2, tc0, tc1, tc2, p, rfl, f0, f1, f2, f3, f4, f5, f6, f7, f8, f9, f11, r1, r3, rf, s8, n8, b8, b9, hbel⟩⟩ := hinv
      have q10 := hcl.not hd 10 _ rfl rfl
      go_wp2_with fail
      exact ⟨⟨(.pointer (some ⟨w9.heap.size, 0, none⟩)), u9, u29, u30, u31, u32, u33, u34, u35, u36, u37, x1a0, x1a1, x1a2, x3a0, x3a1, x3a2, x1c0, x1c1, x1c2, x3c0, x3c1, x3c2, lo, hi, L, ta0, ta1, ta2, tc0, tc1, tc2, w9.heap.size, rfl, (f0.keep (i := 9) (by decide)), (f1.keep (i := 9) (by decide)), (f2.keep (i := 9) (by decide)), (f3.keep (i := 9) (by decide)), (f4.keep (i := 9) (by decide)), (f5.keep (i := 9) (by decide)), (f6.keep (i := 9) (by decide)), (f7.keep (i := 9) (by decide)), (f8.keep (i := 9) (by decide)), Gd.new (by first | rfl | simp), (f11.keep (i := 9) (by decide)), (Gd.keep (i := 9) (fun h9 => Ng.keep (i := 9) (fun h8 => have h := r1 h9 h8; ⟨h.1.below (bel1 w9 _) (Nat.le_refl _), h.2.1.below (bel1 w9 _) (Nat.le_refl _), h.2.2.below (bel1 w9 _) (Nat.le_refl _)⟩) (by decide)) (by decide)), (Gd.keep (i := 9) (fun h9 => Ng.keep (i := 9) (fun h8 => have h := r3 h9 h8; ⟨h.1.below (bel1 w9 _) (Nat.le_refl _), h.2.1.below (bel1 w9 _) (Nat.le_refl _), h.2.2.below (bel1 w9 _) (Nat.le_refl _)⟩) (by decide)) (by decide)), (Gd.keep (i := 9) (fun h9 => ⟨(rf h9).1.alloc _, (rf h9).2⟩) (by decide)), Gd.new ⟨by simp, hbel.size⟩, (fun hj _ => .inr (by rw [set_ne (by decide)] at hj; exact (rf hj).1.lh)), Gd.new (fun _ => Bw.new w9 [.slice none 0 0, .slice none 0 0, .slice none 0 0] _), (Gd.undone (i := 9) (q10) (by decide)), (hbel.alloc hbel.size _)⟩⟩
    refine .cons 11 rfl ?_ ?_
    · intro d a w9 hsz hcl hinv hd hdep
      obtain ⟨⟨u8, u9, u29, u30, u31, u32, u33, u34, u35, u36, u37, x1a0, x1a1, x1a2, x3a0, x3a1, x3a2, x1c0, x1c1, x1c2, x3c0, x3c1, x3c2, lo, hi, L, ta0, ta1, ta2, tc0, tc1, tc2, p, rfl, f0, f1, f2, f3, f4, f5, f6, f7, f8, f9, f11, r1, r3, rf, s8, n8, b8, b9, hbel⟩⟩ := hinv
      have e9 := f9 (hdep.get 9 rfl)
      subst e9
      have e7 := f7 (hdep.get 7 rfl)
      subst e7
      have hal := hdep.get 9 rfl
      have hex := hdep.get 7 rfl
      have hmv := (hcl 7 _ rfl hex).get 6 rfl
      have hF := (hcl 6 _ rfl hmv).get 5 rfl
      have hbp := b8 hal hd
      have hc0 := hbp.c 0 rfl
      have hc1 := hbp.c 1 rfl
      have hc2 := hbp.c 2 rfl
      have hf0 := hbp.f 0 (by simp)
      have hf1 := hbp.f 1 (by simp)
      have hf2 := hbp.f 2 (by simp)
      have hp9 := s8 hal
      have hn9 := n8 hF hal
      go_wp2_with fail
      exact ⟨⟨(.pointer (some ⟨p, 0, none⟩)), u9, u29, u30, u31, u32, u33, u34, u35, (.agg #[.slice ta0 rD.length tc0, .slice ta1 rn tc1, .slice ta2 rV.length tc2]), u37, x1a0, x1a1, x1a2, x3a0, x3a1, x3a2, x1c0, x1c1, x1c2, x3c0, x3c1, x3c2, lo, hi, L, ta0, ta1, ta2, tc0, tc1, tc2, p, rfl, (f0.keep (i := 10) (by decide)), (f1.keep (i := 10) (by decide)), (f2.keep (i := 10) (by decide)), (f3.keep (i := 10) (by decide)), (f4.keep (i := 10) (by decide)), (f5.keep (i := 10) (by decide)), (f6.keep (i := 10) (by decide)), Gd.new rfl, (f8.keep (i := 10) (by decide)), Gd.new rfl, (f11.keep (i := 10) (by decide)), (Gd.keep (i := 10) (fun h9 => (fun h8 => by rw [set_ne (by decide), hF] at h8; cases h8)) (by decide)), (Gd.keep (i := 10) (fun h9 => (fun h8 => by rw [set_ne (by decide), hF] at h8; cases h8)) (by decide)), (Gd.keep (i := 10) (fun h9 => ⟨((((rf h9).1.setFar hn9 (.slice ta0 rD.length tc0)).setFar hn9 (.slice ta1 rn tc1)).setFar hn9 (.slice ta2 rV.length tc2)), (rf h9).2⟩) (by decide)), (Gd.keep (i := 10) (fun h9 => ⟨by simp; exact (s8 h9).1, (s8 h9).2⟩) (by decide)), (Gd.keep (i := 10) (n8.imp fun h => Gd.keep (i := 10) h (by decide)) (by decide)), (Gd.keep (i := 10) (fun h9 => Ng.new (by rw [hsz]; exact (by decide : 10 < 12))) (by decide)), Gd.new (((hbp.put 0 (by simp) (.slice ta0 rD.length tc0)).put 1 (by simp) (.slice ta1 rn tc1)).put 2 (by simp) (.slice ta2 rV.length tc2)), (((hbel.setCell hp9.2 _).setCell hp9.2 _).setCell hp9.2 _)⟩⟩
    refine .cons 12 rfl ?_ trivial
    · intro d a w9 hsz hcl hinv hd hdep
      obtain ⟨⟨u8, u9, u29, u30, u31, u32, u33, u34, u35, u36, u37, x1a0, x1a1, x1a2, x3a0, x3a1, x3a2, x1c0, x1c1, x1c2, x3c0, x3c1, x3c2, lo, hi, L, ta0, ta1, ta2, tc0, tc1, tc2, p, rfl, f0, f1, f2, f3, f4, f5, f6, f7, f8, f9, f11, r1, r3, rf, s8, n8, b8, b9, hbel⟩⟩ := hinv
      have e8 := f8 (hdep.get 8 rfl)
      subst e8
      go_wp2_with fail
      exact ⟨⟨u8, (.bool B), u29, u30, u31, u32, u33, u34, u35, u36, (.bool B), x1a0, x1a1, x1a2, x3a0, x3a1, x3a2, x1c0, x1c1, x1c2, x3c0, x3c1, x3c2, lo, hi, L, ta0, ta1, ta2, tc0, tc1, tc2, p, rfl, (f0.keep (i := 11) (by decide)), (f1.keep (i := 11) (by decide)), (f2.keep (i := 11) (by decide)), (f3.keep (i := 11) (by decide)), (f4.keep (i := 11) (by decide)), (f5.keep (i := 11) (by decide)), (f6.keep (i := 11) (by decide)), (f7.keep (i := 11) (by decide)), Gd.new rfl, (f9.keep (i := 11) (by decide)), Gd.new (by first | rfl | simp), (Gd.keep (i := 11) (r1.imp fun h => Ng.keep (i := 11) h (by decide)) (by decide)), (Gd.keep (i := 11) (r3.imp fun h => Ng.keep (i := 11) h (by decide)) (by decide)), (rf.keep (i := 11) (by decide)), (s8.keep (i := 11) (by decide)), (Gd.keep (i := 11) (n8.imp fun h => Gd.keep (i := 11) h (by decide)) (by decide)), (Gd.keep (i := 11) (b8.imp fun h => Ng.keep (i := 11) h (by decide)) (by decide)), (b9.keep (i := 11) (by decide)), hbel⟩⟩
  case hendt =>
  intro d a w4 hinv hall
  obtain ⟨⟨u8, u9, u29, u30, u31, u32, u33, u34, u35, u36, u37, t_x1a0, t_x1a1, t_x1a2, t_x3a0, t_x3a1, t_x3a2, t_x1c0, t_x1c1, t_x1c2, t_x3c0, t_x3c1, t_x3c2, lot, hit, Lt, ta0, ta1, ta2, tc0, tc1, tc2, pt, rfl, f0, f1, f2, f3, f4, f5, f6, f7, f8, f9, f11, r1, r3, rf, s8, n8, b8, b9, hbel⟩⟩ := hinv
  have e0 := f0 (hall 0 (by decide))
  subst e0
  have e1 := f1 (hall 1 (by decide))
  subst e1
  have e2 := f2 (hall 2 (by decide))
  subst e2
  have e3 := f3 (hall 3 (by decide))
  subst e3
  have e4 := f4 (hall 4 (by decide))
  subst e4
  have e5 := f5 (hall 5 (by decide))
  subst e5
  have e6 := f6 (hall 6 (by decide))
  subst e6
  have e7 := f7 (hall 7 (by decide))
  subst e7
  have e8 := f8 (hall 8 (by decide))
  subst e8
  have e9 := f9 (hall 9 (by decide))
  subst e9
  have e11 := f11 (hall 11 (by decide))
  subst e11
  have hrf := rf (hall 5 (by decide))
  have hs8t := s8 (hall 9 (by decide))
  have hn8t := n8 (hall 5 (by decide)) (hall 9 (by decide))
  have hb9 := b9 (hall 10 (by decide))
  have hb := hbel
  clear f0 f1 f2 f3 f4 f5 f6 f7 f8 f9 f11 r1 r3 rf s8 n8 b8 b9 hbel
  have z4 : w3.heap.size + 0 ≤ w4.heap.size := (by have := hb.size; (try simp at this); omega)
  have Bel_3 : Hid (Below w.heap.size w w4) := Lib.hid (Bel_2.out.trans (hb.mono Bel_2.out.size))
  clear Bel_2
  have BA_3 : Hid (Bx w4 (w.heap.size) [.slice a0 D.length c0, .slice a1 n c1, .slice a2 V.length c2]) := Lib.hid (BA_2.out.below hb BA_2.out.1)
  clear BA_2
  have BE_3 : Hid (Bx w4 ((w.heap.size + 1)) [.slice e0 E.length d0, .slice e1 m d1, .slice e2 U.length d2]) := Lib.hid (BE_2.out.below hb BE_2.out.1)
  clear BE_2
  have hlt : w3.heap.size + 0 ≤ lot := (by have h9 := hrf.2; (try simp at h9); omega)
  have hht : hit ≤ w4.heap.size := hrf.1.lh
  have hp1t := hs8t.1
  have hp2t : w3.heap.size + 0 ≤ pt := (by have h9 := hs8t.2; (try simp at h9); omega)
  have Rt_0 : Hid (RivAt w4 lot hit Lt ta0 ta1 ta2 tc0 tc1 tc2 rn rD rM rV) := Lib.hid (hrf.1)
  have BT_0 : Hid (Bx w4 (pt) [.slice ta0 rD.length tc0, .slice ta1 rn tc1, .slice ta2 rV.length tc2]) := Lib.hid (hb9.1)
  clear hb hrf hb9 hs8t
  have hrM : rM.length = rn * 4 := Rt_0.out.len
  have HRM := Lib.hid hrM
  clear hrM
  have cBA0 := BA_3.out.c 0 rfl
  have cBA1 := BA_3.out.c 1 rfl
  have cBA2 := BA_3.out.c 2 rfl
  have cBE0 := BE_3.out.c 0 rfl
  have cBE1 := BE_3.out.c 1 rfl
  have cBE2 := BE_3.out.c 2 rfl
  have cBT0 := BT_0.out.c 0 rfl
  have cBT1 := BT_0.out.c 1 rfl
  have cBT2 := BT_0.out.c 2 rfl
  go_wp2_with fail
  refine (toRiver_any a0 a1 a2 c0 c1 c2 n D M V _ (HA0.out.below Bel_3.out (Nat.le_refl _)) (HA1.out.below Bel_3.out (Nat.le_refl _)) (HA2.out.below Bel_3.out (Nat.le_refl _)) hlD hln hlV HM.out).mono ?_
  rintro e w5 ⟨xa0, xc0, xa1, xc1, xa2, xc2, xL, rfl, hb, hrx⟩
  clear cBA0 cBA1 cBA2 cBE0 cBE1 cBE2 cBT0 cBT1 cBT2
  have z5 : w4.heap.size + 0 ≤ w5.heap.size := (by have := hb.size; (try simp at this); omega)
  have Bel_4 : Hid (Below w.heap.size w w5) := Lib.hid (Bel_3.out.trans (hb.mono Bel_3.out.size))
  clear Bel_3
  have BA_4 : Hid (Bx w5 (w.heap.size) [.slice a0 D.length c0, .slice a1 n c1, .slice a2 V.length c2]) := Lib.hid (BA_3.out.below hb BA_3.out.1)
  clear BA_3
  have BE_4 : Hid (Bx w5 ((w.heap.size + 1)) [.slice e0 E.length d0, .slice e1 m d1, .slice e2 U.length d2]) := Lib.hid (BE_3.out.below hb BE_3.out.1)
  clear BE_3
  have Rt_1 : Hid (RivAt w5 lot hit Lt ta0 ta1 ta2 tc0 tc1 tc2 rn rD rM rV) := Lib.hid (Rt_0.out.below hb Rt_0.out.lh)
  clear Rt_0
  have BT_1 : Hid (Bx w5 (pt) [.slice ta0 rD.length tc0, .slice ta1 rn tc1, .slice ta2 rV.length tc2]) := Lib.hid (BT_0.out.below hb BT_0.out.1)
  clear BT_0
  clear hb
  have Qx_0 : Hid (RivAt w5 w4.heap.size w5.heap.size xL xa0 xa1 xa2 xc0 xc1 xc2 n D M V) := Lib.hid (hrx)
  clear hrx
  have Bel_5 : Hid (Below w.heap.size w (w5.alloc (.cells #[.slice xa0 D.length xc0, .slice xa1 n xc1, .slice xa2 V.length xc2] 30))) := Lib.hid (Bel_4.out.alloc Bel_4.out.size _)
  clear Bel_4
  have BA_5 : Hid (Bx (w5.alloc (.cells #[.slice xa0 D.length xc0, .slice xa1 n xc1, .slice xa2 V.length xc2] 30)) (w.heap.size) [.slice a0 D.length c0, .slice a1 n c1, .slice a2 V.length c2]) := Lib.hid (BA_4.out.alloc _)
  clear BA_4
  have BE_5 : Hid (Bx (w5.alloc (.cells #[.slice xa0 D.length xc0, .slice xa1 n xc1, .slice xa2 V.length xc2] 30)) ((w.heap.size + 1)) [.slice e0 E.length d0, .slice e1 m d1, .slice e2 U.length d2]) := Lib.hid (BE_4.out.alloc _)
  clear BE_4
  have Rt_2 : Hid (RivAt (w5.alloc (.cells #[.slice xa0 D.length xc0, .slice xa1 n xc1, .slice xa2 V.length xc2] 30)) lot hit Lt ta0 ta1 ta2 tc0 tc1 tc2 rn rD rM rV) := Lib.hid (Rt_1.out.alloc _)
  clear Rt_1
  have BT_2 : Hid (Bx (w5.alloc (.cells #[.slice xa0 D.length xc0, .slice xa1 n xc1, .slice xa2 V.length xc2] 30)) (pt) [.slice ta0 rD.length tc0, .slice ta1 rn tc1, .slice ta2 rV.length tc2]) := Lib.hid (BT_1.out.alloc _)
  clear BT_1
  have Qx_1 : Hid (RivAt (w5.alloc (.cells #[.slice xa0 D.length xc0, .slice xa1 n xc1, .slice xa2 V.length xc2] 30)) w4.heap.size w5.heap.size xL xa0 xa1 xa2 xc0 xc1 xc2 n D M V) := Lib.hid (Qx_0.out.alloc _)
  clear Qx_0
  have BX_0 : Hid (Bx (w5.alloc (.cells #[.slice xa0 D.length xc0, .slice xa1 n xc1, .slice xa2 V.length xc2] 30)) (w5.heap.size) [.slice xa0 D.length xc0, .slice xa1 n xc1, .slice xa2 V.length xc2]) := Lib.hid (Bx.new w5 [.slice xa0 D.length xc0, .slice xa1 n xc1, .slice xa2 V.length xc2] 30)
  have cBA0 := BA_5.out.c 0 rfl
  have cBA1 := BA_5.out.c 1 rfl
  have cBA2 := BA_5.out.c 2 rfl
  have cBE0 := BE_5.out.c 0 rfl
  have cBE1 := BE_5.out.c 1 rfl
  have cBE2 := BE_5.out.c 2 rfl
  have cBT0 := BT_2.out.c 0 rfl
  have cBT1 := BT_2.out.c 1 rfl
  have cBT2 := BT_2.out.c 2 rfl
  have cBX0 := BX_0.out.c 0 rfl
  have cBX1 := BX_0.out.c 1 rfl
  have cBX2 := BX_0.out.c 2 rfl
  go_wp2_with fail
  refine (toRiver_any e0 e1 e2 d0 d1 d2 m E N U _ (HE0.out.below Bel_5.out (Nat.le_refl _)) (HE1.out.below Bel_5.out (Nat.le_refl _)) (HE2.out.below Bel_5.out (Nat.le_refl _)) hlE hlm hlU HN.out).mono ?_
  rintro e w6 ⟨ya0, yc0, ya1, yc1, ya2, yc2, yL, rfl, hb, hry⟩
  clear cBA0 cBA1 cBA2 cBE0 cBE1 cBE2 cBT0 cBT1 cBT2 cBX0 cBX1 cBX2
  have z6 : w5.heap.size + 1 ≤ w6.heap.size := (by have := hb.size; (try simp at this); omega)
  have Bel_6 : Hid (Below w.heap.size w w6) := Lib.hid (Bel_5.out.trans (hb.mono Bel_5.out.size))
  clear Bel_5
  have BA_6 : Hid (Bx w6 (w.heap.size) [.slice a0 D.length c0, .slice a1 n c1, .slice a2 V.length c2]) := Lib.hid (BA_5.out.below hb BA_5.out.1)
  clear BA_5
  have BE_6 : Hid (Bx w6 ((w.heap.size + 1)) [.slice e0 E.length d0, .slice e1 m d1, .slice e2 U.length d2]) := Lib.hid (BE_5.out.below hb BE_5.out.1)
  clear BE_5
  have Rt_3 : Hid (RivAt w6 lot hit Lt ta0 ta1 ta2 tc0 tc1 tc2 rn rD rM rV) := Lib.hid (Rt_2.out.below hb Rt_2.out.lh)
  clear Rt_2
  have BT_3 : Hid (Bx w6 (pt) [.slice ta0 rD.length tc0, .slice ta1 rn tc1, .slice ta2 rV.length tc2]) := Lib.hid (BT_2.out.below hb BT_2.out.1)
  clear BT_2
  have Qx_2 : Hid (RivAt w6 w4.heap.size w5.heap.size xL xa0 xa1 xa2 xc0 xc1 xc2 n D M V) := Lib.hid (Qx_1.out.below hb Qx_1.out.lh)
  clear Qx_1
  have BX_1 : Hid (Bx w6 (w5.heap.size) [.slice xa0 D.length xc0, .slice xa1 n xc1, .slice xa2 V.length xc2]) := Lib.hid (BX_0.out.below hb BX_0.out.1)
  clear BX_0
  clear hb
  have Qy_0 : Hid (RivAt w6 (w5.heap.size + 1) w6.heap.size yL ya0 ya1 ya2 yc0 yc1 yc2 m E N U) := Lib.hid (hry.wide (lo' := w5.heap.size + 1) (by simp) (Nat.le_refl _) hry.lh)
  clear hry
  have Bel_7 : Hid (Below w.heap.size w (w6.alloc (.cells #[.slice ya0 E.length yc0, .slice ya1 m yc1, .slice ya2 U.length yc2] 30))) := Lib.hid (Bel_6.out.alloc Bel_6.out.size _)
  clear Bel_6
  have BA_7 : Hid (Bx (w6.alloc (.cells #[.slice ya0 E.length yc0, .slice ya1 m yc1, .slice ya2 U.length yc2] 30)) (w.heap.size) [.slice a0 D.length c0, .slice a1 n c1, .slice a2 V.length c2]) := Lib.hid (BA_6.out.alloc _)
  clear BA_6
  have BE_7 : Hid (Bx (w6.alloc (.cells #[.slice ya0 E.length yc0, .slice ya1 m yc1, .slice ya2 U.length yc2] 30)) ((w.heap.size + 1)) [.slice e0 E.length d0, .slice e1 m d1, .slice e2 U.length d2]) := Lib.hid (BE_6.out.alloc _)
  clear BE_6
  have Rt_4 : Hid (RivAt (w6.alloc (.cells #[.slice ya0 E.length yc0, .slice ya1 m yc1, .slice ya2 U.length yc2] 30)) lot hit Lt ta0 ta1 ta2 tc0 tc1 tc2 rn rD rM rV) := Lib.hid (Rt_3.out.alloc _)
  clear Rt_3
  have BT_4 : Hid (Bx (w6.alloc (.cells #[.slice ya0 E.length yc0, .slice ya1 m yc1, .slice ya2 U.length yc2] 30)) (pt) [.slice ta0 rD.length tc0, .slice ta1 rn tc1, .slice ta2 rV.length tc2]) := Lib.hid (BT_3.out.alloc _)
  clear BT_3
  have Qx_3 : Hid (RivAt (w6.alloc (.cells #[.slice ya0 E.length yc0, .slice ya1 m yc1, .slice ya2 U.length yc2] 30)) w4.heap.size w5.heap.size xL xa0 xa1 xa2 xc0 xc1 xc2 n D M V) := Lib.hid (Qx_2.out.alloc _)
  clear Qx_2
  have BX_2 : Hid (Bx (w6.alloc (.cells #[.slice ya0 E.length yc0, .slice ya1 m yc1, .slice ya2 U.length yc2] 30)) (w5.heap.size) [.slice xa0 D.length xc0, .slice xa1 n xc1, .slice xa2 V.length xc2]) := Lib.hid (BX_1.out.alloc _)
  clear BX_1
  have Qy_1 : Hid (RivAt (w6.alloc (.cells #[.slice ya0 E.length yc0, .slice ya1 m yc1, .slice ya2 U.length yc2] 30)) (w5.heap.size + 1) w6.heap.size yL ya0 ya1 ya2 yc0 yc1 yc2 m E N U) := Lib.hid (Qy_0.out.alloc _)
  clear Qy_0
  have BY_0 : Hid (Bx (w6.alloc (.cells #[.slice ya0 E.length yc0, .slice ya1 m yc1, .slice ya2 U.length yc2] 30)) (w6.heap.size) [.slice ya0 E.length yc0, .slice ya1 m yc1, .slice ya2 U.length yc2]) := Lib.hid (Bx.new w6 [.slice ya0 E.length yc0, .slice ya1 m yc1, .slice ya2 U.length yc2] 30)
  have cBA0 := BA_7.out.c 0 rfl
  have cBA1 := BA_7.out.c 1 rfl
  have cBA2 := BA_7.out.c 2 rfl
  have cBE0 := BE_7.out.c 0 rfl
  have cBE1 := BE_7.out.c 1 rfl
  have cBE2 := BE_7.out.c 2 rfl
  have cBT0 := BT_4.out.c 0 rfl
  have cBT1 := BT_4.out.c 1 rfl
  have cBT2 := BT_4.out.c 2 rfl
  have cBX0 := BX_2.out.c 0 rfl
  have cBX1 := BX_2.out.c 1 rfl
  have cBX2 := BX_2.out.c 2 rfl
  have cBY0 := BY_0.out.c 0 rfl
  have cBY1 := BY_0.out.c 1 rfl
  have cBY2 := BY_0.out.c 2 rfl
  go_wp2_with fail
  refine (HI.out xa0 xa1 xa2 xc0 xc1 xc2 ya0 ya1 ya2 yc0 yc1 yc2 _ Qx_3.out.r0.row Qx_3.out.r1.row Qx_3.out.r2.row Qy_1.out.r0.row Qy_1.out.r1.row Qy_1.out.r2.row).mono ?_
  rintro e w7 ⟨log, hig, Lg, ga0, gc0, ga1, gc1, ga2, gc2, rfl, hb, hrg, hlog⟩
  clear cBA0 cBA1 cBA2 cBE0 cBE1 cBE2 cBT0 cBT1 cBT2 cBX0 cBX1 cBX2 cBY0 cBY1 cBY2
  have z7 : w6.heap.size + 1 ≤ w7.heap.size := (by have := hb.size; (try simp at this); omega)
  have Bel_8 : Hid (Below w.heap.size w w7) := Lib.hid (Bel_7.out.trans (hb.mono Bel_7.out.size))
  clear Bel_7
  have BA_8 : Hid (Bx w7 (w.heap.size) [.slice a0 D.length c0, .slice a1 n c1, .slice a2 V.length c2]) := Lib.hid (BA_7.out.below hb BA_7.out.1)
  clear BA_7
  have BE_8 : Hid (Bx w7 ((w.heap.size + 1)) [.slice e0 E.length d0, .slice e1 m d1, .slice e2 U.length d2]) := Lib.hid (BE_7.out.below hb BE_7.out.1)
  clear BE_7
  have Rt_5 : Hid (RivAt w7 lot hit Lt ta0 ta1 ta2 tc0 tc1 tc2 rn rD rM rV) := Lib.hid (Rt_4.out.below hb Rt_4.out.lh)
  clear Rt_4
  have BT_5 : Hid (Bx w7 (pt) [.slice ta0 rD.length tc0, .slice ta1 rn tc1, .slice ta2 rV.length tc2]) := Lib.hid (BT_4.out.below hb BT_4.out.1)
  clear BT_4
  have Qx_4 : Hid (RivAt w7 w4.heap.size w5.heap.size xL xa0 xa1 xa2 xc0 xc1 xc2 n D M V) := Lib.hid (Qx_3.out.below hb Qx_3.out.lh)
  clear Qx_3
  have BX_3 : Hid (Bx w7 (w5.heap.size) [.slice xa0 D.length xc0, .slice xa1 n xc1, .slice xa2 V.length xc2]) := Lib.hid (BX_2.out.below hb BX_2.out.1)
  clear BX_2
  have Qy_2 : Hid (RivAt w7 (w5.heap.size + 1) w6.heap.size yL ya0 ya1 ya2 yc0 yc1 yc2 m E N U) := Lib.hid (Qy_1.out.below hb Qy_1.out.lh)
  clear Qy_1
  have BY_1 : Hid (Bx w7 (w6.heap.size) [.slice ya0 E.length yc0, .slice ya1 m yc1, .slice ya2 U.length yc2]) := Lib.hid (BY_0.out.below hb BY_0.out.1)
  clear BY_0
  simp only at hrg
  have hlg : w6.heap.size + 1 ≤ log := by (try simp at hlog); omega
  have hhg : hig ≤ w7.heap.size := hrg.lh
  clear hlog
  clear hb
  have Rg_0 : Hid (RivAt w7 log hig Lg ga0 ga1 ga2 gc0 gc1 gc2 rn rD rM rV) := Lib.hid (hrg)
  clear hrg
  have Bel_9 : Hid (Below w.heap.size w (w7.alloc (.cells #[.slice ga0 rD.length gc0, .slice ga1 rn gc1, .slice ga2 rV.length gc2] 30))) := Lib.hid (Bel_8.out.alloc Bel_8.out.size _)
  clear Bel_8
  have BA_9 : Hid (Bx (w7.alloc (.cells #[.slice ga0 rD.length gc0, .slice ga1 rn gc1, .slice ga2 rV.length gc2] 30)) (w.heap.size) [.slice a0 D.length c0, .slice a1 n c1, .slice a2 V.length c2]) := Lib.hid (BA_8.out.alloc _)
  clear BA_8
  have BE_9 : Hid (Bx (w7.alloc (.cells #[.slice ga0 rD.length gc0, .slice ga1 rn gc1, .slice ga2 rV.length gc2] 30)) ((w.heap.size + 1)) [.slice e0 E.length d0, .slice e1 m d1, .slice e2 U.length d2]) := Lib.hid (BE_8.out.alloc _)
  clear BE_8
  have Rt_6 : Hid (RivAt (w7.alloc (.cells #[.slice ga0 rD.length gc0, .slice ga1 rn gc1, .slice ga2 rV.length gc2] 30)) lot hit Lt ta0 ta1 ta2 tc0 tc1 tc2 rn rD rM rV) := Lib.hid (Rt_5.out.alloc _)
  clear Rt_5
  have BT_6 : Hid (Bx (w7.alloc (.cells #[.slice ga0 rD.length gc0, .slice ga1 rn gc1, .slice ga2 rV.length gc2] 30)) (pt) [.slice ta0 rD.length tc0, .slice ta1 rn tc1, .slice ta2 rV.length tc2]) := Lib.hid (BT_5.out.alloc _)
  clear BT_5
  have Qx_5 : Hid (RivAt (w7.alloc (.cells #[.slice ga0 rD.length gc0, .slice ga1 rn gc1, .slice ga2 rV.length gc2] 30)) w4.heap.size w5.heap.size xL xa0 xa1 xa2 xc0 xc1 xc2 n D M V) := Lib.hid (Qx_4.out.alloc _)
  clear Qx_4
  have BX_4 : Hid (Bx (w7.alloc (.cells #[.slice ga0 rD.length gc0, .slice ga1 rn gc1, .slice ga2 rV.length gc2] 30)) (w5.heap.size) [.slice xa0 D.length xc0, .slice xa1 n xc1, .slice xa2 V.length xc2]) := Lib.hid (BX_3.out.alloc _)
  clear BX_3
  have Qy_3 : Hid (RivAt (w7.alloc (.cells #[.slice ga0 rD.length gc0, .slice ga1 rn gc1, .slice ga2 rV.length gc2] 30)) (w5.heap.size + 1) w6.heap.size yL ya0 ya1 ya2 yc0 yc1 yc2 m E N U) := Lib.hid (Qy_2.out.alloc _)
  clear Qy_2
  have BY_2 : Hid (Bx (w7.alloc (.cells #[.slice ga0 rD.length gc0, .slice ga1 rn gc1, .slice ga2 rV.length gc2] 30)) (w6.heap.size) [.slice ya0 E.length yc0, .slice ya1 m yc1, .slice ya2 U.length yc2]) := Lib.hid (BY_1.out.alloc _)
  clear BY_1
  have Rg_1 : Hid (RivAt (w7.alloc (.cells #[.slice ga0 rD.length gc0, .slice ga1 rn gc1, .slice ga2 rV.length gc2] 30)) log hig Lg ga0 ga1 ga2 gc0 gc1 gc2 rn rD rM rV) := Lib.hid (Rg_0.out.alloc _)
  clear Rg_0
  have BG_0 : Hid (Bx (w7.alloc (.cells #[.slice ga0 rD.length gc0, .slice ga1 rn gc1, .slice ga2 rV.length gc2] 30)) (w7.heap.size) [.slice ga0 rD.length gc0, .slice ga1 rn gc1, .slice ga2 rV.length gc2]) := Lib.hid (Bx.new w7 [.slice ga0 rD.length gc0, .slice ga1 rn gc1, .slice ga2 rV.length gc2] 30)
  have cBA0 := BA_9.out.c 0 rfl
  have cBA1 := BA_9.out.c 1 rfl
  have cBA2 := BA_9.out.c 2 rfl
  have cBE0 := BE_9.out.c 0 rfl
  have cBE1 := BE_9.out.c 1 rfl
  have cBE2 := BE_9.out.c 2 rfl
  have cBT0 := BT_6.out.c 0 rfl
  have cBT1 := BT_6.out.c 1 rfl
  have cBT2 := BT_6.out.c 2 rfl
  have cBX0 := BX_4.out.c 0 rfl
  have cBX1 := BX_4.out.c 1 rfl
  have cBX2 := BX_4.out.c 2 rfl
  have cBY0 := BY_2.out.c 0 rfl
  have cBY1 := BY_2.out.c 1 rfl
  have cBY2 := BY_2.out.c 2 rfl
  have cBG0 := BG_0.out.c 0 rfl
  have cBG1 := BG_0.out.c 1 rfl
  have cBG2 := BG_0.out.c 2 rfl
  go_wp2_with fail
  refine (eqRiver_any ga0 ga1 ga2 ta0 ta1 ta2 gc0 gc1 gc2 tc0 tc1 tc2 rn rD rM rV _ Rg_1.out.r0.row Rg_1.out.r1.row Rg_1.out.r2.row hlim.1 hlim.2.1 hlim.2.2 HRM.out Rt_6.out.r0.row Rt_6.out.r1.row Rt_6.out.r2.row).mono ?_
  rintro e w8 ⟨rfl, hb⟩
  clear cBA0 cBA1 cBA2 cBE0 cBE1 cBE2 cBT0 cBT1 cBT2 cBX0 cBX1 cBX2 cBY0 cBY1 cBY2 cBG0 cBG1 cBG2
  have z8 : w7.heap.size + 1 ≤ w8.heap.size := (by have := hb.size; (try simp at this); omega)
  have Bel_10 : Hid (Below w.heap.size w w8) := Lib.hid (Bel_9.out.trans (hb.mono Bel_9.out.size))
  clear Bel_9
  have BA_10 : Hid (Bx w8 (w.heap.size) [.slice a0 D.length c0, .slice a1 n c1, .slice a2 V.length c2]) := Lib.hid (BA_9.out.below hb BA_9.out.1)
  clear BA_9
  have BE_10 : Hid (Bx w8 ((w.heap.size + 1)) [.slice e0 E.length d0, .slice e1 m d1, .slice e2 U.length d2]) := Lib.hid (BE_9.out.below hb BE_9.out.1)
  clear BE_9
  have Rt_7 : Hid (RivAt w8 lot hit Lt ta0 ta1 ta2 tc0 tc1 tc2 rn rD rM rV) := Lib.hid (Rt_6.out.below hb Rt_6.out.lh)
  clear Rt_6
  have BT_7 : Hid (Bx w8 (pt) [.slice ta0 rD.length tc0, .slice ta1 rn tc1, .slice ta2 rV.length tc2]) := Lib.hid (BT_6.out.below hb BT_6.out.1)
  clear BT_6
  have Qx_6 : Hid (RivAt w8 w4.heap.size w5.heap.size xL xa0 xa1 xa2 xc0 xc1 xc2 n D M V) := Lib.hid (Qx_5.out.below hb Qx_5.out.lh)
  clear Qx_5
  have BX_5 : Hid (Bx w8 (w5.heap.size) [.slice xa0 D.length xc0, .slice xa1 n xc1, .slice xa2 V.length xc2]) := Lib.hid (BX_4.out.below hb BX_4.out.1)
  clear BX_4
  have Qy_4 : Hid (RivAt w8 (w5.heap.size + 1) w6.heap.size yL ya0 ya1 ya2 yc0 yc1 yc2 m E N U) := Lib.hid (Qy_3.out.below hb Qy_3.out.lh)
  clear Qy_3
  have BY_3 : Hid (Bx w8 (w6.heap.size) [.slice ya0 E.length yc0, .slice ya1 m yc1, .slice ya2 U.length yc2]) := Lib.hid (BY_2.out.below hb BY_2.out.1)
  clear BY_2
  have Rg_2 : Hid (RivAt w8 log hig Lg ga0 ga1 ga2 gc0 gc1 gc2 rn rD rM rV) := Lib.hid (Rg_1.out.below hb Rg_1.out.lh)
  clear Rg_1
  have BG_1 : Hid (Bx w8 (w7.heap.size) [.slice ga0 rD.length gc0, .slice ga1 rn gc1, .slice ga2 rV.length gc2]) := Lib.hid (BG_0.out.below hb BG_0.out.1)
  clear BG_0
  clear hb
  have cBA0 := BA_10.out.c 0 rfl
  have cBA1 := BA_10.out.c 1 rfl
  have cBA2 := BA_10.out.c 2 rfl
  have cBE0 := BE_10.out.c 0 rfl
  have cBE1 := BE_10.out.c 1 rfl
  have cBE2 := BE_10.out.c 2 rfl
  have cBT0 := BT_7.out.c 0 rfl
  have cBT1 := BT_7.out.c 1 rfl
  have cBT2 := BT_7.out.c 2 rfl
  have cBX0 := BX_5.out.c 0 rfl
  have cBX1 := BX_5.out.c 1 rfl
  have cBX2 := BX_5.out.c 2 rfl
  have cBY0 := BY_3.out.c 0 rfl
  have cBY1 := BY_3.out.c 1 rfl
  have cBY2 := BY_3.out.c 2 rfl
  have cBG0 := BG_1.out.c 0 rfl
  have cBG1 := BG_1.out.c 1 rfl
  have cBG2 := BG_1.out.c 2 rfl
  go_wp2_with fail
  have HK8 : Hid (w8.cell? ⟨w.heap.size, 0, none⟩ = some (.slice a0 D.length c0) ∧ w8.cell? ⟨w.heap.size, 1, none⟩ = some (.slice a1 n c1) ∧ w8.cell? ⟨w.heap.size, 2, none⟩ = some (.slice a2 V.length c2) ∧ w8.cell? ⟨w5.heap.size, 0, none⟩ = some (.slice xa0 D.length xc0) ∧ w8.cell? ⟨w5.heap.size, 1, none⟩ = some (.slice xa1 n xc1) ∧ w8.cell? ⟨w5.heap.size, 2, none⟩ = some (.slice xa2 V.length xc2)) := Lib.hid ⟨BA_10.out.c 0 rfl, BA_10.out.c 1 rfl, BA_10.out.c 2 rfl, BX_5.out.c 0 rfl, BX_5.out.c 1 rfl, BX_5.out.c 2 rfl⟩
  go_region_held3 (fun w' => w'.cell? ⟨w.heap.size, 0, none⟩ = some (.slice a0 D.length c0) ∧ w'.cell? ⟨w.heap.size, 1, none⟩ = some (.slice a1 n c1) ∧ w'.cell? ⟨w.heap.size, 2, none⟩ = some (.slice a2 V.length c2) ∧ w'.cell? ⟨w5.heap.size, 0, none⟩ = some (.slice xa0 D.length xc0) ∧ w'.cell? ⟨w5.heap.size, 1, none⟩ = some (.slice xa1 n xc1) ∧ w'.cell? ⟨w5.heap.size, 2, none⟩ = some (.slice xa2 V.length xc2))
    (first | with_reducible exact HK10.out | with_reducible exact HK9.out | exact HK8.out)
    (first | (go_at_call 17; refine (toRiver_any a0 a1 a2 c0 c1 c2 n D M V _ (by first | with_reducible exact HA0.out.below Bel_10.out (Nat.le_refl _) | with_reducible exact (HA0.out.below Bel_10.out (Nat.le_refl _)).drewN 1 | exact HA0.out.below Bel_10.out.drew (Nat.le_refl _)) (by first | with_reducible exact HA1.out.below Bel_10.out (Nat.le_refl _) | with_reducible exact (HA1.out.below Bel_10.out (Nat.le_refl _)).drewN 1 | exact HA1.out.below Bel_10.out.drew (Nat.le_refl _)) (by first | with_reducible exact HA2.out.below Bel_10.out (Nat.le_refl _) | with_reducible exact (HA2.out.below Bel_10.out (Nat.le_refl _)).drewN 1 | exact HA2.out.below Bel_10.out.drew (Nat.le_refl _)) hlD hln hlV HM.out).mono ?_; rintro e w9 ⟨za0, zc0, za1, zc1, za2, zc2, zL, rfl, hb, hr⟩; have hst : Below w8.heap.size w8 w9 := (by first | with_reducible exact hb | with_reducible exact (Below.refl _ _).drew.trans (hb.mono (le_drew _))); have z9 : w8.heap.size ≤ w9.heap.size := hst.size; have Bel_11 : Hid (Below w.heap.size w w9) := Lib.hid (Bel_10.out.trans (hst.mono Bel_10.out.size)); clear Bel_10; have BA_11 : Hid (Bx w9 (w.heap.size) [.slice a0 D.length c0, .slice a1 n c1, .slice a2 V.length c2]) := Lib.hid (BA_10.out.below hst BA_10.out.1); clear BA_10; have BE_11 : Hid (Bx w9 ((w.heap.size + 1)) [.slice e0 E.length d0, .slice e1 m d1, .slice e2 U.length d2]) := Lib.hid (BE_10.out.below hst BE_10.out.1); clear BE_10; have Rt_8 : Hid (RivAt w9 lot hit Lt ta0 ta1 ta2 tc0 tc1 tc2 rn rD rM rV) := Lib.hid (Rt_7.out.below hst Rt_7.out.lh); clear Rt_7; have BT_8 : Hid (Bx w9 (pt) [.slice ta0 rD.length tc0, .slice ta1 rn tc1, .slice ta2 rV.length tc2]) := Lib.hid (BT_7.out.below hst BT_7.out.1); clear BT_7; have Qx_7 : Hid (RivAt w9 w4.heap.size w5.heap.size xL xa0 xa1 xa2 xc0 xc1 xc2 n D M V) := Lib.hid (Qx_6.out.below hst Qx_6.out.lh); clear Qx_6; have BX_6 : Hid (Bx w9 (w5.heap.size) [.slice xa0 D.length xc0, .slice xa1 n xc1, .slice xa2 V.length xc2]) := Lib.hid (BX_5.out.below hst BX_5.out.1); clear BX_5; have Qy_5 : Hid (RivAt w9 (w5.heap.size + 1) w6.heap.size yL ya0 ya1 ya2 yc0 yc1 yc2 m E N U) := Lib.hid (Qy_4.out.below hst Qy_4.out.lh); clear Qy_4; have BY_4 : Hid (Bx w9 (w6.heap.size) [.slice ya0 E.length yc0, .slice ya1 m yc1, .slice ya2 U.length yc2]) := Lib.hid (BY_3.out.below hst BY_3.out.1); clear BY_3; have Rg_3 : Hid (RivAt w9 log hig Lg ga0 ga1 ga2 gc0 gc1 gc2 rn rD rM rV) := Lib.hid (Rg_2.out.below hst Rg_2.out.lh); clear Rg_2; have BG_2 : Hid (Bx w9 (w7.heap.size) [.slice ga0 rD.length gc0, .slice ga1 rn gc1, .slice ga2 rV.length gc2]) := Lib.hid (BG_1.out.below hst BG_1.out.1); clear BG_1; have HK9 : Hid (w9.cell? ⟨w.heap.size, 0, none⟩ = some (.slice a0 D.length c0) ∧ w9.cell? ⟨w.heap.size, 1, none⟩ = some (.slice a1 n c1) ∧ w9.cell? ⟨w.heap.size, 2, none⟩ = some (.slice a2 V.length c2) ∧ w9.cell? ⟨w5.heap.size, 0, none⟩ = some (.slice xa0 D.length xc0) ∧ w9.cell? ⟨w5.heap.size, 1, none⟩ = some (.slice xa1 n xc1) ∧ w9.cell? ⟨w5.heap.size, 2, none⟩ = some (.slice xa2 V.length xc2)) := Lib.hid ⟨BA_11.out.c 0 rfl, BA_11.out.c 1 rfl, BA_11.out.c 2 rfl, BX_6.out.c 0 rfl, BX_6.out.c 1 rfl, BX_6.out.c 2 rfl⟩; have RZ9 := Lib.hid hr; clear hr; clear hb hst) | (go_at_call 19; refine (eqRiver_any xa0 xa1 xa2 za0 za1 za2 xc0 xc1 xc2 zc0 zc1 zc2 n D M V _ Qx_7.out.r0.row Qx_7.out.r1.row Qx_7.out.r2.row hlD hln hlV HM.out RZ9.out.r0.row RZ9.out.r1.row RZ9.out.r2.row).mono ?_; rintro e w10 ⟨rfl, hb⟩; have hst : Below w9.heap.size w9 w10 := (by first | with_reducible exact hb | with_reducible exact (Below.refl _ _).drew.trans (hb.mono (le_drew _))); have z10 : w9.heap.size ≤ w10.heap.size := hst.size; have Bel_12 : Hid (Below w.heap.size w w10) := Lib.hid (Bel_11.out.trans (hst.mono Bel_11.out.size)); clear Bel_11; have BA_12 : Hid (Bx w10 (w.heap.size) [.slice a0 D.length c0, .slice a1 n c1, .slice a2 V.length c2]) := Lib.hid (BA_11.out.below hst BA_11.out.1); clear BA_11; have BE_12 : Hid (Bx w10 ((w.heap.size + 1)) [.slice e0 E.length d0, .slice e1 m d1, .slice e2 U.length d2]) := Lib.hid (BE_11.out.below hst BE_11.out.1); clear BE_11; have Rt_9 : Hid (RivAt w10 lot hit Lt ta0 ta1 ta2 tc0 tc1 tc2 rn rD rM rV) := Lib.hid (Rt_8.out.below hst Rt_8.out.lh); clear Rt_8; have BT_9 : Hid (Bx w10 (pt) [.slice ta0 rD.length tc0, .slice ta1 rn tc1, .slice ta2 rV.length tc2]) := Lib.hid (BT_8.out.below hst BT_8.out.1); clear BT_8; have Qx_8 : Hid (RivAt w10 w4.heap.size w5.heap.size xL xa0 xa1 xa2 xc0 xc1 xc2 n D M V) := Lib.hid (Qx_7.out.below hst Qx_7.out.lh); clear Qx_7; have BX_7 : Hid (Bx w10 (w5.heap.size) [.slice xa0 D.length xc0, .slice xa1 n xc1, .slice xa2 V.length xc2]) := Lib.hid (BX_6.out.below hst BX_6.out.1); clear BX_6; have Qy_6 : Hid (RivAt w10 (w5.heap.size + 1) w6.heap.size yL ya0 ya1 ya2 yc0 yc1 yc2 m E N U) := Lib.hid (Qy_5.out.below hst Qy_5.out.lh); clear Qy_5; have BY_5 : Hid (Bx w10 (w6.heap.size) [.slice ya0 E.length yc0, .slice ya1 m yc1, .slice ya2 U.length yc2]) := Lib.hid (BY_4.out.below hst BY_4.out.1); clear BY_4; have Rg_4 : Hid (RivAt w10 log hig Lg ga0 ga1 ga2 gc0 gc1 gc2 rn rD rM rV) := Lib.hid (Rg_3.out.below hst Rg_3.out.lh); clear Rg_3; have BG_3 : Hid (Bx w10 (w7.heap.size) [.slice ga0 rD.length gc0, .slice ga1 rn gc1, .slice ga2 rV.length gc2]) := Lib.hid (BG_2.out.below hst BG_2.out.1); clear BG_2; have HK10 : Hid (w10.cell? ⟨w.heap.size, 0, none⟩ = some (.slice a0 D.length c0) ∧ w10.cell? ⟨w.heap.size, 1, none⟩ = some (.slice a1 n c1) ∧ w10.cell? ⟨w.heap.size, 2, none⟩ = some (.slice a2 V.length c2) ∧ w10.cell? ⟨w5.heap.size, 0, none⟩ = some (.slice xa0 D.length xc0) ∧ w10.cell? ⟨w5.heap.size, 1, none⟩ = some (.slice xa1 n xc1) ∧ w10.cell? ⟨w5.heap.size, 2, none⟩ = some (.slice xa2 V.length xc2)) := Lib.hid ⟨BA_12.out.c 0 rfl, BA_12.out.c 1 rfl, BA_12.out.c 2 rfl, BX_7.out.c 0 rfl, BX_7.out.c 1 rfl, BX_7.out.c 2 rfl⟩; clear RZ9; clear hb hst))
  try clear HK8
  try clear HK9
  try clear HK10
  clear cBA0 cBA1 cBA2 cBE0 cBE1 cBE2 cBT0 cBT1 cBT2 cBX0 cBX1 cBX2 cBY0 cBY1 cBY2 cBG0 cBG1 cBG2
  have cBA0 := BA_12.out.c 0 rfl
  have cBA1 := BA_12.out.c 1 rfl
  have cBA2 := BA_12.out.c 2 rfl
  have cBE0 := BE_12.out.c 0 rfl
  have cBE1 := BE_12.out.c 1 rfl
  have cBE2 := BE_12.out.c 2 rfl
  have cBT0 := BT_9.out.c 0 rfl
  have cBT1 := BT_9.out.c 1 rfl
  have cBT2 := BT_9.out.c 2 rfl
  have cBX0 := BX_7.out.c 0 rfl
  have cBX1 := BX_7.out.c 1 rfl
  have cBX2 := BX_7.out.c 2 rfl
  have cBY0 := BY_5.out.c 0 rfl
  have cBY1 := BY_5.out.c 1 rfl
  have cBY2 := BY_5.out.c 2 rfl
  have cBG0 := BG_3.out.c 0 rfl
  have cBG1 := BG_3.out.c 1 rfl
  have cBG2 := BG_3.out.c 2 rfl
  go_wp2_with fail
  have HK10 : Hid (w10.cell? ⟨(w.heap.size + 1), 0, none⟩ = some (.slice e0 E.length d0) ∧ w10.cell? ⟨(w.heap.size + 1), 1, none⟩ = some (.slice e1 m d1) ∧ w10.cell? ⟨(w.heap.size + 1), 2, none⟩ = some (.slice e2 U.length d2) ∧ w10.cell? ⟨w6.heap.size, 0, none⟩ = some (.slice ya0 E.length yc0) ∧ w10.cell? ⟨w6.heap.size, 1, none⟩ = some (.slice ya1 m yc1) ∧ w10.cell? ⟨w6.heap.size, 2, none⟩ = some (.slice ya2 U.length yc2)) := Lib.hid ⟨BE_12.out.c 0 rfl, BE_12.out.c 1 rfl, BE_12.out.c 2 rfl, BY_5.out.c 0 rfl, BY_5.out.c 1 rfl, BY_5.out.c 2 rfl⟩
  go_region_held3 (fun w' => w'.cell? ⟨(w.heap.size + 1), 0, none⟩ = some (.slice e0 E.length d0) ∧ w'.cell? ⟨(w.heap.size + 1), 1, none⟩ = some (.slice e1 m d1) ∧ w'.cell? ⟨(w.heap.size + 1), 2, none⟩ = some (.slice e2 U.length d2) ∧ w'.cell? ⟨w6.heap.size, 0, none⟩ = some (.slice ya0 E.length yc0) ∧ w'.cell? ⟨w6.heap.size, 1, none⟩ = some (.slice ya1 m yc1) ∧ w'.cell? ⟨w6.heap.size, 2, none⟩ = some (.slice ya2 U.length yc2))
    (first | with_reducible exact HK12.out | with_reducible exact HK11.out | exact HK10.out)
    (first | (go_at_call 17; refine (toRiver_any e0 e1 e2 d0 d1 d2 m E N U _ (by first | with_reducible exact HE0.out.below Bel_12.out (Nat.le_refl _) | with_reducible exact (HE0.out.below Bel_12.out (Nat.le_refl _)).drewN 1 | exact HE0.out.below Bel_12.out.drew (Nat.le_refl _)) (by first | with_reducible exact HE1.out.below Bel_12.out (Nat.le_refl _) | with_reducible exact (HE1.out.below Bel_12.out (Nat.le_refl _)).drewN 1 | exact HE1.out.below Bel_12.out.drew (Nat.le_refl _)) (by first | with_reducible exact HE2.out.below Bel_12.out (Nat.le_refl _) | with_reducible exact (HE2.out.below Bel_12.out (Nat.le_refl _)).drewN 1 | exact HE2.out.below Bel_12.out.drew (Nat.le_refl _)) hlE hlm hlU HN.out).mono ?_; rintro e w11 ⟨za0, zc0, za1, zc1, za2, zc2, zL, rfl, hb, hr⟩; have hst : Below w10.heap.size w10 w11 := (by first | with_reducible exact hb | with_reducible exact (Below.refl _ _).drew.trans (hb.mono (le_drew _))); have z11 : w10.heap.size ≤ w11.heap.size := hst.size; have Bel_13 : Hid (Below w.heap.size w w11) := Lib.hid (Bel_12.out.trans (hst.mono Bel_12.out.size)); clear Bel_12; have BA_13 : Hid (Bx w11 (w.heap.size) [.slice a0 D.length c0, .slice a1 n c1, .slice a2 V.length c2]) := Lib.hid (BA_12.out.below hst BA_12.out.1); clear BA_12; have BE_13 : Hid (Bx w11 ((w.heap.size + 1)) [.slice e0 E.length d0, .slice e1 m d1, .slice e2 U.length d2]) := Lib.hid (BE_12.out.below hst BE_12.out.1); clear BE_12; have Rt_10 : Hid (RivAt w11 lot hit Lt ta0 ta1 ta2 tc0 tc1 tc2 rn rD rM rV) := Lib.hid (Rt_9.out.below hst Rt_9.out.lh); clear Rt_9; have BT_10 : Hid (Bx w11 (pt) [.slice ta0 rD.length tc0, .slice ta1 rn tc1, .slice ta2 rV.length tc2]) := Lib.hid (BT_9.out.below hst BT_9.out.1); clear BT_9; have Qx_9 : Hid (RivAt w11 w4.heap.size w5.heap.size xL xa0 xa1 xa2 xc0 xc1 xc2 n D M V) := Lib.hid (Qx_8.out.below hst Qx_8.out.lh); clear Qx_8; have BX_8 : Hid (Bx w11 (w5.heap.size) [.slice xa0 D.length xc0, .slice xa1 n xc1, .slice xa2 V.length xc2]) := Lib.hid (BX_7.out.below hst BX_7.out.1); clear BX_7; have Qy_7 : Hid (RivAt w11 (w5.heap.size + 1) w6.heap.size yL ya0 ya1 ya2 yc0 yc1 yc2 m E N U) := Lib.hid (Qy_6.out.below hst Qy_6.out.lh); clear Qy_6; have BY_6 : Hid (Bx w11 (w6.heap.size) [.slice ya0 E.length yc0, .slice ya1 m yc1, .slice ya2 U.length yc2]) := Lib.hid (BY_5.out.below hst BY_5.out.1); clear BY_5; have Rg_5 : Hid (RivAt w11 log hig Lg ga0 ga1 ga2 gc0 gc1 gc2 rn rD rM rV) := Lib.hid (Rg_4.out.below hst Rg_4.out.lh); clear Rg_4; have BG_4 : Hid (Bx w11 (w7.heap.size) [.slice ga0 rD.length gc0, .slice ga1 rn gc1, .slice ga2 rV.length gc2]) := Lib.hid (BG_3.out.below hst BG_3.out.1); clear BG_3; have HK11 : Hid (w11.cell? ⟨(w.heap.size + 1), 0, none⟩ = some (.slice e0 E.length d0) ∧ w11.cell? ⟨(w.heap.size + 1), 1, none⟩ = some (.slice e1 m d1) ∧ w11.cell? ⟨(w.heap.size + 1), 2, none⟩ = some (.slice e2 U.length d2) ∧ w11.cell? ⟨w6.heap.size, 0, none⟩ = some (.slice ya0 E.length yc0) ∧ w11.cell? ⟨w6.heap.size, 1, none⟩ = some (.slice ya1 m yc1) ∧ w11.cell? ⟨w6.heap.size, 2, none⟩ = some (.slice ya2 U.length yc2)) := Lib.hid ⟨BE_13.out.c 0 rfl, BE_13.out.c 1 rfl, BE_13.out.c 2 rfl, BY_6.out.c 0 rfl, BY_6.out.c 1 rfl, BY_6.out.c 2 rfl⟩; have RZ11 := Lib.hid hr; clear hr; clear hb hst) | (go_at_call 19; refine (eqRiver_any ya0 ya1 ya2 za0 za1 za2 yc0 yc1 yc2 zc0 zc1 zc2 m E N U _ Qy_7.out.r0.row Qy_7.out.r1.row Qy_7.out.r2.row hlE hlm hlU HN.out RZ11.out.r0.row RZ11.out.r1.row RZ11.out.r2.row).mono ?_; rintro e w12 ⟨rfl, hb⟩; have hst : Below w11.heap.size w11 w12 := (by first | with_reducible exact hb | with_reducible exact (Below.refl _ _).drew.trans (hb.mono (le_drew _))); have z12 : w11.heap.size ≤ w12.heap.size := hst.size; have Bel_14 : Hid (Below w.heap.size w w12) := Lib.hid (Bel_13.out.trans (hst.mono Bel_13.out.size)); clear Bel_13; have BA_14 : Hid (Bx w12 (w.heap.size) [.slice a0 D.length c0, .slice a1 n c1, .slice a2 V.length c2]) := Lib.hid (BA_13.out.below hst BA_13.out.1); clear BA_13; have BE_14 : Hid (Bx w12 ((w.heap.size + 1)) [.slice e0 E.length d0, .slice e1 m d1, .slice e2 U.length d2]) := Lib.hid (BE_13.out.below hst BE_13.out.1); clear BE_13; have Rt_11 : Hid (RivAt w12 lot hit Lt ta0 ta1 ta2 tc0 tc1 tc2 rn rD rM rV) := Lib.hid (Rt_10.out.below hst Rt_10.out.lh); clear Rt_10; have BT_11 : Hid (Bx w12 (pt) [.slice ta0 rD.length tc0, .slice ta1 rn tc1, .slice ta2 rV.length tc2]) := Lib.hid (BT_10.out.below hst BT_10.out.1); clear BT_10; have Qx_10 : Hid (RivAt w12 w4.heap.size w5.heap.size xL xa0 xa1 xa2 xc0 xc1 xc2 n D M V) := Lib.hid (Qx_9.out.below hst Qx_9.out.lh); clear Qx_9; have BX_9 : Hid (Bx w12 (w5.heap.size) [.slice xa0 D.length xc0, .slice xa1 n xc1, .slice xa2 V.length xc2]) := Lib.hid (BX_8.out.below hst BX_8.out.1); clear BX_8; have Qy_8 : Hid (RivAt w12 (w5.heap.size + 1) w6.heap.size yL ya0 ya1 ya2 yc0 yc1 yc2 m E N U) := Lib.hid (Qy_7.out.below hst Qy_7.out.lh); clear Qy_7; have BY_7 : Hid (Bx w12 (w6.heap.size) [.slice ya0 E.length yc0, .slice ya1 m yc1, .slice ya2 U.length yc2]) := Lib.hid (BY_6.out.below hst BY_6.out.1); clear BY_6; have Rg_6 : Hid (RivAt w12 log hig Lg ga0 ga1 ga2 gc0 gc1 gc2 rn rD rM rV) := Lib.hid (Rg_5.out.below hst Rg_5.out.lh); clear Rg_5; have BG_5 : Hid (Bx w12 (w7.heap.size) [.slice ga0 rD.length gc0, .slice ga1 rn gc1, .slice ga2 rV.length gc2]) := Lib.hid (BG_4.out.below hst BG_4.out.1); clear BG_4; have HK12 : Hid (w12.cell? ⟨(w.heap.size + 1), 0, none⟩ = some (.slice e0 E.length d0) ∧ w12.cell? ⟨(w.heap.size + 1), 1, none⟩ = some (.slice e1 m d1) ∧ w12.cell? ⟨(w.heap.size + 1), 2, none⟩ = some (.slice e2 U.length d2) ∧ w12.cell? ⟨w6.heap.size, 0, none⟩ = some (.slice ya0 E.length yc0) ∧ w12.cell? ⟨w6.heap.size, 1, none⟩ = some (.slice ya1 m yc1) ∧ w12.cell? ⟨w6.heap.size, 2, none⟩ = some (.slice ya2 U.length yc2)) := Lib.hid ⟨BE_14.out.c 0 rfl, BE_14.out.c 1 rfl, BE_14.out.c 2 rfl, BY_7.out.c 0 rfl, BY_7.out.c 1 rfl, BY_7.out.c 2 rfl⟩; clear RZ11; clear hb hst))
  try clear HK10
  try clear HK11
  try clear HK12
  clear cBA0 cBA1 cBA2 cBE0 cBE1 cBE2 cBT0 cBT1 cBT2 cBX0 cBX1 cBX2 cBY0 cBY1 cBY2 cBG0 cBG1 cBG2
  have cBA0 := BA_14.out.c 0 rfl
  have cBA1 := BA_14.out.c 1 rfl
  have cBA2 := BA_14.out.c 2 rfl
  have cBE0 := BE_14.out.c 0 rfl
  have cBE1 := BE_14.out.c 1 rfl
  have cBE2 := BE_14.out.c 2 rfl
  have cBT0 := BT_11.out.c 0 rfl
  have cBT1 := BT_11.out.c 1 rfl
  have cBT2 := BT_11.out.c 2 rfl
  have cBX0 := BX_9.out.c 0 rfl
  have cBX1 := BX_9.out.c 1 rfl
  have cBX2 := BX_9.out.c 2 rfl
  have cBY0 := BY_7.out.c 0 rfl
  have cBY1 := BY_7.out.c 1 rfl
  have cBY2 := BY_7.out.c 2 rfl
  have cBG0 := BG_5.out.c 0 rfl
  have cBG1 := BG_5.out.c 1 rfl
  have cBG2 := BG_5.out.c 2 rfl
  go_wp2_with fail
  have hmk := markRiver_any2 w4.heap.size w5.heap.size 1 xL xa0 xa1 xa2 xc0 xc1 xc2 n D M V _ Qx_10.out hlD hln hlV (by omega)
  clear Qx_10
  refine (hmk).mono ?_
  rintro e w13 ⟨rfl, hf, hk⟩
  clear cBA0 cBA1 cBA2 cBE0 cBE1 cBE2 cBT0 cBT1 cBT2 cBX0 cBX1 cBX2 cBY0 cBY1 cBY2 cBG0 cBG1 cBG2
  have z13 : w12.heap.size + 0 ≤ w13.heap.size := (by have := hk.size; (try simp at this); omega)
  have Bel_15 : Hid (Below w.heap.size w w13) := Lib.hid (Bel_14.out.trans (hk.below (by omega) (by omega)))
  clear Bel_14
  have BA_15 : Hid (Bx w13 (w.heap.size) [.slice a0 D.length c0, .slice a1 n c1, .slice a2 V.length c2]) := Lib.hid (BA_14.out.kept hk (by first | exact .inl (by omega) | exact .inr (by omega) | omega))
  clear BA_14
  have BE_15 : Hid (Bx w13 ((w.heap.size + 1)) [.slice e0 E.length d0, .slice e1 m d1, .slice e2 U.length d2]) := Lib.hid (BE_14.out.kept hk (by first | exact .inl (by omega) | exact .inr (by omega) | omega))
  clear BE_14
  have Rt_12 : Hid (RivAt w13 lot hit Lt ta0 ta1 ta2 tc0 tc1 tc2 rn rD rM rV) := Lib.hid (Rt_11.out.kept hk (by first | exact .inl (by omega) | exact .inr (by omega) | omega))
  clear Rt_11
  have BT_12 : Hid (Bx w13 (pt) [.slice ta0 rD.length tc0, .slice ta1 rn tc1, .slice ta2 rV.length tc2]) := Lib.hid (BT_11.out.kept hk (by first | exact .inl (by omega) | exact .inr (by omega) | omega))
  clear BT_11
  have BX_10 : Hid (Bx w13 (w5.heap.size) [.slice xa0 D.length xc0, .slice xa1 n xc1, .slice xa2 V.length xc2]) := Lib.hid (BX_9.out.kept hk (by first | exact .inl (by omega) | exact .inr (by omega) | omega))
  clear BX_9
  have Qy_9 : Hid (RivAt w13 (w5.heap.size + 1) w6.heap.size yL ya0 ya1 ya2 yc0 yc1 yc2 m E N U) := Lib.hid (Qy_8.out.kept hk (by first | exact .inl (by omega) | exact .inr (by omega) | omega))
  clear Qy_8
  have BY_8 : Hid (Bx w13 (w6.heap.size) [.slice ya0 E.length yc0, .slice ya1 m yc1, .slice ya2 U.length yc2]) := Lib.hid (BY_7.out.kept hk (by first | exact .inl (by omega) | exact .inr (by omega) | omega))
  clear BY_7
  have Rg_7 : Hid (RivAt w13 log hig Lg ga0 ga1 ga2 gc0 gc1 gc2 rn rD rM rV) := Lib.hid (Rg_6.out.kept hk (by first | exact .inl (by omega) | exact .inr (by omega) | omega))
  clear Rg_6
  have BG_6 : Hid (Bx w13 (w7.heap.size) [.slice ga0 rD.length gc0, .slice ga1 rn gc1, .slice ga2 rV.length gc2]) := Lib.hid (BG_5.out.kept hk (by first | exact .inl (by omega) | exact .inr (by omega) | omega))
  clear BG_5
  clear hk
  clear hf
  have cBA0 := BA_15.out.c 0 rfl
  have cBA1 := BA_15.out.c 1 rfl
  have cBA2 := BA_15.out.c 2 rfl
  have cBE0 := BE_15.out.c 0 rfl
  have cBE1 := BE_15.out.c 1 rfl
  have cBE2 := BE_15.out.c 2 rfl
  have cBT0 := BT_12.out.c 0 rfl
  have cBT1 := BT_12.out.c 1 rfl
  have cBT2 := BT_12.out.c 2 rfl
  have cBX0 := BX_10.out.c 0 rfl
  have cBX1 := BX_10.out.c 1 rfl
  have cBX2 := BX_10.out.c 2 rfl
  have cBY0 := BY_8.out.c 0 rfl
  have cBY1 := BY_8.out.c 1 rfl
  have cBY2 := BY_8.out.c 2 rfl
  have cBG0 := BG_6.out.c 0 rfl
  have cBG1 := BG_6.out.c 1 rfl
  have cBG2 := BG_6.out.c 2 rfl
  go_wp2_with fail
  have hmk := markRiver_any2 (w5.heap.size + 1) w6.heap.size (1 + D.length + n * 4 + V.length) yL ya0 ya1 ya2 yc0 yc1 yc2 m E N U _ Qy_9.out hlE hlm hlU (by omega)
  clear Qy_9
  refine (hmk).mono ?_
  rintro e w14 ⟨rfl, hf, hk⟩
  clear cBA0 cBA1 cBA2 cBE0 cBE1 cBE2 cBT0 cBT1 cBT2 cBX0 cBX1 cBX2 cBY0 cBY1 cBY2 cBG0 cBG1 cBG2
  have z14 : w13.heap.size + 0 ≤ w14.heap.size := (by have := hk.size; (try simp at this); omega)
  have Bel_16 : Hid (Below w.heap.size w w14) := Lib.hid (Bel_15.out.trans (hk.below (by omega) (by omega)))
  clear Bel_15
  have BA_16 : Hid (Bx w14 (w.heap.size) [.slice a0 D.length c0, .slice a1 n c1, .slice a2 V.length c2]) := Lib.hid (BA_15.out.kept hk (by first | exact .inl (by omega) | exact .inr (by omega) | omega))
  clear BA_15
  have BE_16 : Hid (Bx w14 ((w.heap.size + 1)) [.slice e0 E.length d0, .slice e1 m d1, .slice e2 U.length d2]) := Lib.hid (BE_15.out.kept hk (by first | exact .inl (by omega) | exact .inr (by omega) | omega))
  clear BE_15
  have Rt_13 : Hid (RivAt w14 lot hit Lt ta0 ta1 ta2 tc0 tc1 tc2 rn rD rM rV) := Lib.hid (Rt_12.out.kept hk (by first | exact .inl (by omega) | exact .inr (by omega) | omega))
  clear Rt_12
  have BT_13 : Hid (Bx w14 (pt) [.slice ta0 rD.length tc0, .slice ta1 rn tc1, .slice ta2 rV.length tc2]) := Lib.hid (BT_12.out.kept hk (by first | exact .inl (by omega) | exact .inr (by omega) | omega))
  clear BT_12
  have BX_11 : Hid (Bx w14 (w5.heap.size) [.slice xa0 D.length xc0, .slice xa1 n xc1, .slice xa2 V.length xc2]) := Lib.hid (BX_10.out.kept hk (by first | exact .inl (by omega) | exact .inr (by omega) | omega))
  clear BX_10
  have BY_9 : Hid (Bx w14 (w6.heap.size) [.slice ya0 E.length yc0, .slice ya1 m yc1, .slice ya2 U.length yc2]) := Lib.hid (BY_8.out.kept hk (by first | exact .inl (by omega) | exact .inr (by omega) | omega))
  clear BY_8
  have Rg_8 : Hid (RivAt w14 log hig Lg ga0 ga1 ga2 gc0 gc1 gc2 rn rD rM rV) := Lib.hid (Rg_7.out.kept hk (by first | exact .inl (by omega) | exact .inr (by omega) | omega))
  clear Rg_7
  have BG_7 : Hid (Bx w14 (w7.heap.size) [.slice ga0 rD.length gc0, .slice ga1 rn gc1, .slice ga2 rV.length gc2]) := Lib.hid (BG_6.out.kept hk (by first | exact .inl (by omega) | exact .inr (by omega) | omega))
  clear BG_6
  clear hk
  clear hf
  have hcn : ¬ ((1 + D.length + n * 4 + V.length + E.length + m * 4 + U.length : Nat) : Int) < 0 := by omega
  have cBA0 := BA_16.out.c 0 rfl
  have cBA1 := BA_16.out.c 1 rfl
  have cBA2 := BA_16.out.c 2 rfl
  have cBE0 := BE_16.out.c 0 rfl
  have cBE1 := BE_16.out.c 1 rfl
  have cBE2 := BE_16.out.c 2 rfl
  have cBT0 := BT_13.out.c 0 rfl
  have cBT1 := BT_13.out.c 1 rfl
  have cBT2 := BT_13.out.c 2 rfl
  have cBX0 := BX_11.out.c 0 rfl
  have cBX1 := BX_11.out.c 1 rfl
  have cBX2 := BX_11.out.c 2 rfl
  have cBY0 := BY_9.out.c 0 rfl
  have cBY1 := BY_9.out.c 1 rfl
  have cBY2 := BY_9.out.c 2 rfl
  have cBG0 := BG_7.out.c 0 rfl
  have cBG1 := BG_7.out.c 1 rfl
  have cBG2 := BG_7.out.c 2 rfl
  go_wp2_with fail
  refine (eqRiver_any ga0 ga1 ga2 ta0 ta1 ta2 gc0 gc1 gc2 tc0 tc1 tc2 rn rD rM rV _ Rg_8.out.r0.row Rg_8.out.r1.row Rg_8.out.r2.row hlim.1 hlim.2.1 hlim.2.2 HRM.out Rt_13.out.r0.row Rt_13.out.r1.row Rt_13.out.r2.row).mono ?_
  rintro e w15 ⟨rfl, hb⟩
  clear cBA0 cBA1 cBA2 cBE0 cBE1 cBE2 cBT0 cBT1 cBT2 cBX0 cBX1 cBX2 cBY0 cBY1 cBY2 cBG0 cBG1 cBG2
  have z15 : w14.heap.size + 0 ≤ w15.heap.size := (by have := hb.size; (try simp at this); omega)
  have Bel_17 : Hid (Below w.heap.size w w15) := Lib.hid (Bel_16.out.trans (hb.mono Bel_16.out.size))
  clear Bel_16
  have BA_17 : Hid (Bx w15 (w.heap.size) [.slice a0 D.length c0, .slice a1 n c1, .slice a2 V.length c2]) := Lib.hid (BA_16.out.below hb BA_16.out.1)
  clear BA_16
  have BE_17 : Hid (Bx w15 ((w.heap.size + 1)) [.slice e0 E.length d0, .slice e1 m d1, .slice e2 U.length d2]) := Lib.hid (BE_16.out.below hb BE_16.out.1)
  clear BE_16
  have Rt_14 : Hid (RivAt w15 lot hit Lt ta0 ta1 ta2 tc0 tc1 tc2 rn rD rM rV) := Lib.hid (Rt_13.out.below hb Rt_13.out.lh)
  clear Rt_13
  have BT_14 : Hid (Bx w15 (pt) [.slice ta0 rD.length tc0, .slice ta1 rn tc1, .slice ta2 rV.length tc2]) := Lib.hid (BT_13.out.below hb BT_13.out.1)
  clear BT_13
  have BX_12 : Hid (Bx w15 (w5.heap.size) [.slice xa0 D.length xc0, .slice xa1 n xc1, .slice xa2 V.length xc2]) := Lib.hid (BX_11.out.below hb BX_11.out.1)
  clear BX_11
  have BY_10 : Hid (Bx w15 (w6.heap.size) [.slice ya0 E.length yc0, .slice ya1 m yc1, .slice ya2 U.length yc2]) := Lib.hid (BY_9.out.below hb BY_9.out.1)
  clear BY_9
  have Rg_9 : Hid (RivAt w15 log hig Lg ga0 ga1 ga2 gc0 gc1 gc2 rn rD rM rV) := Lib.hid (Rg_8.out.below hb Rg_8.out.lh)
  clear Rg_8
  have BG_8 : Hid (Bx w15 (w7.heap.size) [.slice ga0 rD.length gc0, .slice ga1 rn gc1, .slice ga2 rV.length gc2]) := Lib.hid (BG_7.out.below hb BG_7.out.1)
  clear BG_7
  clear hb
  have cBA0 := BA_17.out.c 0 rfl
  have cBA1 := BA_17.out.c 1 rfl
  have cBA2 := BA_17.out.c 2 rfl
  have cBE0 := BE_17.out.c 0 rfl
  have cBE1 := BE_17.out.c 1 rfl
  have cBE2 := BE_17.out.c 2 rfl
  have cBT0 := BT_14.out.c 0 rfl
  have cBT1 := BT_14.out.c 1 rfl
  have cBT2 := BT_14.out.c 2 rfl
  have cBX0 := BX_12.out.c 0 rfl
  have cBX1 := BX_12.out.c 1 rfl
  have cBX2 := BX_12.out.c 2 rfl
  have cBY0 := BY_10.out.c 0 rfl
  have cBY1 := BY_10.out.c 1 rfl
  have cBY2 := BY_10.out.c 2 rfl
  have cBG0 := BG_8.out.c 0 rfl
  have cBG1 := BG_8.out.c 1 rfl
  have cBG2 := BG_8.out.c 2 rfl
  go_wp2_with fail
  have hmk := markRiver_any log hig 1 Lg ga0 ga1 ga2 gc0 gc1 gc2 rn rD rM rV _ Rg_9.out hlim.1 hlim.2.1 hlim.2.2 (by omega)
  clear Rg_9
  refine (hmk).mono ?_
  rintro e w16 ⟨rfl, hf, hk⟩
  clear cBA0 cBA1 cBA2 cBE0 cBE1 cBE2 cBT0 cBT1 cBT2 cBX0 cBX1 cBX2 cBY0 cBY1 cBY2 cBG0 cBG1 cBG2
  have z16 : w15.heap.size + 0 ≤ w16.heap.size := (by have := hk.size; (try simp at this); omega)
  have Bel_18 : Hid (Below w.heap.size w w16) := Lib.hid (Bel_17.out.trans (hk.below (by omega) (by omega)))
  clear Bel_17
  have BA_18 : Hid (Bx w16 (w.heap.size) [.slice a0 D.length c0, .slice a1 n c1, .slice a2 V.length c2]) := Lib.hid (BA_17.out.kept hk (by first | exact .inl (by omega) | exact .inr (by omega) | omega))
  clear BA_17
  have BE_18 : Hid (Bx w16 ((w.heap.size + 1)) [.slice e0 E.length d0, .slice e1 m d1, .slice e2 U.length d2]) := Lib.hid (BE_17.out.kept hk (by first | exact .inl (by omega) | exact .inr (by omega) | omega))
  clear BE_17
  have Rt_15 : Hid (RivAt w16 lot hit Lt ta0 ta1 ta2 tc0 tc1 tc2 rn rD rM rV) := Lib.hid (Rt_14.out.kept hk (by first | exact .inl (by omega) | exact .inr (by omega) | omega))
  clear Rt_14
  have BT_15 : Hid (Bx w16 (pt) [.slice ta0 rD.length tc0, .slice ta1 rn tc1, .slice ta2 rV.length tc2]) := Lib.hid (BT_14.out.kept hk (by first | exact .inl (by omega) | exact .inr (by omega) | omega))
  clear BT_14
  have BX_13 : Hid (Bx w16 (w5.heap.size) [.slice xa0 D.length xc0, .slice xa1 n xc1, .slice xa2 V.length xc2]) := Lib.hid (BX_12.out.kept hk (by first | exact .inl (by omega) | exact .inr (by omega) | omega))
  clear BX_12
  have BY_11 : Hid (Bx w16 (w6.heap.size) [.slice ya0 E.length yc0, .slice ya1 m yc1, .slice ya2 U.length yc2]) := Lib.hid (BY_10.out.kept hk (by first | exact .inl (by omega) | exact .inr (by omega) | omega))
  clear BY_10
  have BG_9 : Hid (Bx w16 (w7.heap.size) [.slice ga0 rD.length gc0, .slice ga1 rn gc1, .slice ga2 rV.length gc2]) := Lib.hid (BG_8.out.kept hk (by first | exact .inl (by omega) | exact .inr (by omega) | omega))
  clear BG_8
  clear hk
  have Rg_0 : Hid (MarkedR w16 log hig Lg 1 ga0 ga1 ga2 gc0 gc1 gc2 rD.length rn rV.length) := Lib.hid (hf)
  clear hf
  have hcm : ¬ ((1 + rD.length + rn * 4 + rV.length : Nat) : Int) < 0 := by omega
  have cBA0 := BA_18.out.c 0 rfl
  have cBA1 := BA_18.out.c 1 rfl
  have cBA2 := BA_18.out.c 2 rfl
  have cBE0 := BE_18.out.c 0 rfl
  have cBE1 := BE_18.out.c 1 rfl
  have cBE2 := BE_18.out.c 2 rfl
  have cBT0 := BT_15.out.c 0 rfl
  have cBT1 := BT_15.out.c 1 rfl
  have cBT2 := BT_15.out.c 2 rfl
  have cBX0 := BX_13.out.c 0 rfl
  have cBX1 := BX_13.out.c 1 rfl
  have cBX2 := BX_13.out.c 2 rfl
  have cBY0 := BY_11.out.c 0 rfl
  have cBY1 := BY_11.out.c 1 rfl
  have cBY2 := BY_11.out.c 2 rfl
  have cBG0 := BG_9.out.c 0 rfl
  have cBG1 := BG_9.out.c 1 rfl
  have cBG2 := BG_9.out.c 2 rfl
  go_wp2_with fail
  refine (heldRiver_any log hig 1 Lg ga0 ga1 ga2 gc0 gc1 gc2 rD.length rn rV.length _ Rg_0.out hlim.1 hlim.2.1 hlim.2.2 (by omega)).mono ?_
  rintro e w17 ⟨rfl, hb⟩
  clear cBA0 cBA1 cBA2 cBE0 cBE1 cBE2 cBT0 cBT1 cBT2 cBX0 cBX1 cBX2 cBY0 cBY1 cBY2 cBG0 cBG1 cBG2
  have z17 : w16.heap.size + 0 ≤ w17.heap.size := (by have := hb.size; (try simp at this); omega)
  have Bel_19 : Hid (Below w.heap.size w w17) := Lib.hid (Bel_18.out.trans (hb.mono Bel_18.out.size))
  clear Bel_18
  have BA_19 : Hid (Bx w17 (w.heap.size) [.slice a0 D.length c0, .slice a1 n c1, .slice a2 V.length c2]) := Lib.hid (BA_18.out.below hb BA_18.out.1)
  clear BA_18
  have BE_19 : Hid (Bx w17 ((w.heap.size + 1)) [.slice e0 E.length d0, .slice e1 m d1, .slice e2 U.length d2]) := Lib.hid (BE_18.out.below hb BE_18.out.1)
  clear BE_18
  have Rt_16 : Hid (RivAt w17 lot hit Lt ta0 ta1 ta2 tc0 tc1 tc2 rn rD rM rV) := Lib.hid (Rt_15.out.below hb Rt_15.out.lh)
  clear Rt_15
  have BT_16 : Hid (Bx w17 (pt) [.slice ta0 rD.length tc0, .slice ta1 rn tc1, .slice ta2 rV.length tc2]) := Lib.hid (BT_15.out.below hb BT_15.out.1)
  clear BT_15
  have BX_14 : Hid (Bx w17 (w5.heap.size) [.slice xa0 D.length xc0, .slice xa1 n xc1, .slice xa2 V.length xc2]) := Lib.hid (BX_13.out.below hb BX_13.out.1)
  clear BX_13
  have BY_12 : Hid (Bx w17 (w6.heap.size) [.slice ya0 E.length yc0, .slice ya1 m yc1, .slice ya2 U.length yc2]) := Lib.hid (BY_11.out.below hb BY_11.out.1)
  clear BY_11
  have BG_10 : Hid (Bx w17 (w7.heap.size) [.slice ga0 rD.length gc0, .slice ga1 rn gc1, .slice ga2 rV.length gc2]) := Lib.hid (BG_9.out.below hb BG_9.out.1)
  clear BG_9
  have Rg_1 : Hid (MarkedR w17 log hig Lg 1 ga0 ga1 ga2 gc0 gc1 gc2 rD.length rn rV.length) := Lib.hid (Rg_0.out.below hb Rg_0.out.lh)
  clear Rg_0
  clear hb
  have cBA0 := BA_19.out.c 0 rfl
  have cBA1 := BA_19.out.c 1 rfl
  have cBA2 := BA_19.out.c 2 rfl
  have cBE0 := BE_19.out.c 0 rfl
  have cBE1 := BE_19.out.c 1 rfl
  have cBE2 := BE_19.out.c 2 rfl
  have cBT0 := BT_16.out.c 0 rfl
  have cBT1 := BT_16.out.c 1 rfl
  have cBT2 := BT_16.out.c 2 rfl
  have cBX0 := BX_14.out.c 0 rfl
  have cBX1 := BX_14.out.c 1 rfl
  have cBX2 := BX_14.out.c 2 rfl
  have cBY0 := BY_12.out.c 0 rfl
  have cBY1 := BY_12.out.c 1 rfl
  have cBY2 := BY_12.out.c 2 rfl
  have cBG0 := BG_10.out.c 0 rfl
  have cBG1 := BG_10.out.c 1 rfl
  have cBG2 := BG_10.out.c 2 rfl
  go_wp2_with fail
  clear cBA0 cBA1 cBA2 cBE0 cBE1 cBE2 cBT0 cBT1 cBT2 cBX0 cBX1 cBX2 cBY0 cBY1 cBY2 cBG0 cBG1 cBG2
  refine wp_region_inv (id := 31) (joinSh (w17) _ _ _ _ _ _ _ _ _ _ _ _ _ _ _ _ _ _ _ _ _ _ _ _ _ _ _ _ _ _ _ _ _ _ _ _ _ _ _ _ _ _ _ _ _ _ _ _ _ _ _ _ _ _ _ _ _ _ _ _ _ _ _ _ _ _ _ _ _ _ _ _ _ _ _ _ _ _ _ _ _ _ _ _ _ _ _ _ _ _ _ _ _ _ _ _ _ _ _ _ _ _ _ _ _ _ _ _ _ _ _ _ _ a0 a1 a2 e0 e1 e2 c0 c1 c2 d0 d1 d2 n m D M V E N U i B rn rD rM rV) (by kernel_rfl) (by kernel_rfl) ⟨⟨_, _, _, _, _, _, _, _, _, _, _, none, none, none, none, none, none, 0, 0, 0, 0, 0, 0, 0, 0, ⟨0, 0, 0, 0, 0, 0⟩, none, none, none, 0, 0, 0, 0, rfl, .start, .start, .start, .start, .start, .start, .start, .start, .start, .start, .start, .start, .start, .start, .start, .start, .start, .start, beld (Below.refl _ _) 1⟩⟩ ?hendh ?hstepsh
  rotate_left
  case hstepsh =>
    refine .cons 1 rfl ?_ ?_
    · intro d a w9 hsz hcl hinv hd hdep
      obtain ⟨⟨u17, u18, u98, u99, u100, u101, u102, u103, u104, u105, u106, x1a0, x1a1, x1a2, x3a0, x3a1, x3a2, x1c0, x1c1, x1c2, x3c0, x3c1, x3c2, lo, hi, L, ta0, ta1, ta2, tc0, tc1, tc2, p, rfl, f0, f1, f2, f3, f4, f5, f6, f7, f8, f9, f11, r1, r3, rf, s8, n8, b8, b9, hbel⟩⟩ := hinv
      have bx := BA_19.out.below hbel BA_19.out.1
      have k0_ := bx.c 0 rfl
      have k1_ := bx.c 1 rfl
      have k2_ := bx.c 2 rfl
      go_wp2_with fail
      exact ⟨⟨u17, u18, u98, (.agg #[.slice a0 D.length c0, .slice a1 n c1, .slice a2 V.length c2]), u100, u101, u102, u103, u104, u105, u106, x1a0, x1a1, x1a2, x3a0, x3a1, x3a2, x1c0, x1c1, x1c2, x3c0, x3c1, x3c2, lo, hi, L, ta0, ta1, ta2, tc0, tc1, tc2, p, rfl, Gd.new (by first | rfl | simp), (f1.keep (i := 0) (by decide)), (f2.keep (i := 0) (by decide)), (f3.keep (i := 0) (by decide)), (f4.keep (i := 0) (by decide)), (f5.keep (i := 0) (by decide)), (f6.keep (i := 0) (by decide)), (f7.keep (i := 0) (by decide)), (f8.keep (i := 0) (by decide)), (f9.keep (i := 0) (by decide)), (f11.keep (i := 0) (by decide)), (Gd.keep (i := 0) (r1.imp fun h => Ng.keep (i := 0) h (by decide)) (by decide)), (Gd.keep (i := 0) (r3.imp fun h => Ng.keep (i := 0) h (by decide)) (by decide)), (rf.keep (i := 0) (by decide)), (s8.keep (i := 0) (by decide)), (Gd.keep (i := 0) (n8.imp fun h => Gd.keep (i := 0) h (by decide)) (by decide)), (Gd.keep (i := 0) (b8.imp fun h => Ng.keep (i := 0) h (by decide)) (by decide)), (b9.keep (i := 0) (by decide)), hbel⟩⟩
    refine .cons 2 rfl ?_ ?_
    · intro d a w9 hsz hcl hinv hd hdep
      obtain ⟨⟨u17, u18, u98, u99, u100, u101, u102, u103, u104, u105, u106, x1a0, x1a1, x1a2, x3a0, x3a1, x3a2, x1c0, x1c1, x1c2, x3c0, x3c1, x3c2, lo, hi, L, ta0, ta1, ta2, tc0, tc1, tc2, p, rfl, f0, f1, f2, f3, f4, f5, f6, f7, f8, f9, f11, r1, r3, rf, s8, n8, b8, b9, hbel⟩⟩ := hinv
      have e0 := f0 (hdep.get 0 rfl)
      subst e0
      have q1 := hd
      have q5 := hcl.not q1 5 _ rfl rfl
      have q6 := hcl.not q5 6 _ rfl rfl
      have q7 := hcl.not q6 7 _ rfl rfl
      have q8 := hcl.not q6 8 _ rfl rfl
      have q10 := hcl.not q7 10 _ rfl rfl
      have q11 := hcl.not q8 11 _ rfl rfl
      go_wp2_with fail
      refine (toRiver_any a0 a1 a2 c0 c1 c2 n D M V _ (HA0.out.below (Bel_19.out.trans (hbel.mono Bel_19.out.size)) (Nat.le_refl _)) (HA1.out.below (Bel_19.out.trans (hbel.mono Bel_19.out.size)) (Nat.le_refl _)) (HA2.out.below (Bel_19.out.trans (hbel.mono Bel_19.out.size)) (Nat.le_refl _)) hlD hln hlV HM.out).mono ?_
      rintro e w8 ⟨ya0, yc0, ya1, yc1, ya2, yc2, yL, rfl, hb, hr⟩
      go_wp2_with fail
      exact ⟨⟨u17, u18, u98, (.agg #[.slice a0 D.length c0, .slice a1 n c1, .slice a2 V.length c2]), (.agg #[.slice ya0 D.length yc0, .slice ya1 n yc1, .slice ya2 V.length yc2]), u101, u102, u103, u104, u105, u106, ya0, ya1, ya2, x3a0, x3a1, x3a2, yc0, yc1, yc2, x3c0, x3c1, x3c2, lo, hi, L, ta0, ta1, ta2, tc0, tc1, tc2, p, rfl, Gd.new rfl, Gd.new rfl, (f2.keep (i := 1) (by decide)), (f3.keep (i := 1) (by decide)), (f4.keep (i := 1) (by decide)), (Gd.undone (i := 1) (q5) (by decide)), (Gd.undone (i := 1) (q6) (by decide)), (Gd.undone (i := 1) (q7) (by decide)), (Gd.undone (i := 1) (q8) (by decide)), (f9.keep (i := 1) (by decide)), (Gd.undone (i := 1) (q11) (by decide)), Gd.new (fun _ => ⟨hr.r0.row, hr.r1.row, hr.r2.row⟩), (Gd.keep (i := 1) (fun h9 => Ng.keep (i := 1) (fun h8 => have h := r3 h9 h8; ⟨h.1.below hb (Nat.le_refl _), h.2.1.below hb (Nat.le_refl _), h.2.2.below hb (Nat.le_refl _)⟩) (by decide)) (by decide)), (Gd.undone (i := 1) (q5) (by decide)), (Gd.keep (i := 1) (fun h9 => ⟨Nat.lt_of_lt_of_le (s8 h9).1 hb.size, (s8 h9).2⟩) (by decide)), (Gd.undone (i := 1) (q5) (by decide)), (Gd.keep (i := 1) (fun h9 => Ng.keep (i := 1) (fun h8 => (b8 h9 h8).below hb (s8 h9).1) (by decide)) (by decide)), (Gd.undone (i := 1) (q10) (by decide)), (hbel.trans (hb.mono hbel.size))⟩⟩
    refine .cons 3 rfl ?_ ?_
    · intro d a w9 hsz hcl hinv hd hdep
      obtain ⟨⟨u17, u18, u98, u99, u100, u101, u102, u103, u104, u105, u106, x1a0, x1a1, x1a2, x3a0, x3a1, x3a2, x1c0, x1c1, x1c2, x3c0, x3c1, x3c2, lo, hi, L, ta0, ta1, ta2, tc0, tc1, tc2, p, rfl, f0, f1, f2, f3, f4, f5, f6, f7, f8, f9, f11, r1, r3, rf, s8, n8, b8, b9, hbel⟩⟩ := hinv
      have bx := BE_19.out.below hbel BE_19.out.1
      have k0_ := bx.c 0 rfl
      have k1_ := bx.c 1 rfl
      have k2_ := bx.c 2 rfl
      go_wp2_with fail
      exact ⟨⟨u17, u18, u98, u99, u100, (.agg #[.slice e0 E.length d0, .slice e1 m d1, .slice e2 U.length d2]), u102, u103, u104, u105, u106, x1a0, x1a1, x1a2, x3a0, x3a1, x3a2, x1c0, x1c1, x1c2, x3c0, x3c1, x3c2, lo, hi, L, ta0, ta1, ta2, tc0, tc1, tc2, p, rfl, (f0.keep (i := 2) (by decide)), (f1.keep (i := 2) (by decide)), Gd.new (by first | rfl | simp), (f3.keep (i := 2) (by decide)), (f4.keep (i := 2) (by decide)), (f5.keep (i := 2) (by decide)), (f6.keep (i := 2) (by decide)), (f7.keep (i := 2) (by decide)), (f8.keep (i := 2) (by decide)), (f9.keep (i := 2) (by decide)), (f11.keep (i := 2) (by decide)), (Gd.keep (i := 2) (r1.imp fun h => Ng.keep (i := 2) h (by decide)) (by decide)), (Gd.keep (i := 2) (r3.imp fun h => Ng.keep (i := 2) h (by decide)) (by decide)), (rf.keep (i := 2) (by decide)), (s8.keep (i := 2) (by decide)), (Gd.keep (i := 2) (n8.imp fun h => Gd.keep (i := 2) h (by decide)) (by decide)), (Gd.keep (i := 2) (b8.imp fun h => Ng.keep (i := 2) h (by decide)) (by decide)), (b9.keep (i := 2) (by decide)), hbel⟩⟩
    refine .cons 4 rfl ?_ ?_
    · intro d a w9 hsz hcl hinv hd hdep
      obtain ⟨⟨u17, u18, u98, u99, u100, u101, u102, u103, u104, u105, u106, x1a0, x1a1, x1a2, x3a0, x3a1, x3a2, x1c0, x1c1, x1c2, x3c0, x3c1, x3c2, lo, hi, L, ta0, ta1, ta2, tc0, tc1, tc2, p, rfl, f0, f1, f2, f3, f4, f5, f6, f7, f8, f9, f11, r1, r3, rf, s8, n8, b8, b9, hbel⟩⟩ := hinv
      have e2 := f2 (hdep.get 2 rfl)
      subst e2
      have q3 := hd
      have q5 := hcl.not q3 5 _ rfl rfl
      have q6 := hcl.not q5 6 _ rfl rfl
      have q7 := hcl.not q6 7 _ rfl rfl
      have q8 := hcl.not q6 8 _ rfl rfl
      have q10 := hcl.not q7 10 _ rfl rfl
      have q11 := hcl.not q8 11 _ rfl rfl
      go_wp2_with fail
      refine (toRiver_any e0 e1 e2 d0 d1 d2 m E N U _ (HE0.out.below (Bel_19.out.trans (hbel.mono Bel_19.out.size)) (Nat.le_refl _)) (HE1.out.below (Bel_19.out.trans (hbel.mono Bel_19.out.size)) (Nat.le_refl _)) (HE2.out.below (Bel_19.out.trans (hbel.mono Bel_19.out.size)) (Nat.le_refl _)) hlE hlm hlU HN.out).mono ?_
      rintro e w8 ⟨ya0, yc0, ya1, yc1, ya2, yc2, yL, rfl, hb, hr⟩
      go_wp2_with fail
      exact ⟨⟨u17, u18, u98, u99, u100, (.agg #[.slice e0 E.length d0, .slice e1 m d1, .slice e2 U.length d2]), (.agg #[.slice ya0 E.length yc0, .slice ya1 m yc1, .slice ya2 U.length yc2]), u103, u104, u105, u106, x1a0, x1a1, x1a2, ya0, ya1, ya2, x1c0, x1c1, x1c2, yc0, yc1, yc2, lo, hi, L, ta0, ta1, ta2, tc0, tc1, tc2, p, rfl, (f0.keep (i := 3) (by decide)), (f1.keep (i := 3) (by decide)), Gd.new rfl, Gd.new rfl, (f4.keep (i := 3) (by decide)), (Gd.undone (i := 3) (q5) (by decide)), (Gd.undone (i := 3) (q6) (by decide)), (Gd.undone (i := 3) (q7) (by decide)), (Gd.undone (i := 3) (q8) (by decide)), (f9.keep (i := 3) (by decide)), (Gd.undone (i := 3) (q11) (by decide)), (Gd.keep (i := 3) (fun h9 => Ng.keep (i := 3) (fun h8 => have h := r1 h9 h8; ⟨h.1.below hb (Nat.le_refl _), h.2.1.below hb (Nat.le_refl _), h.2.2.below hb (Nat.le_refl _)⟩) (by decide)) (by decide)), Gd.new (fun _ => ⟨hr.r0.row, hr.r1.row, hr.r2.row⟩), (Gd.undone (i := 3) (q5) (by decide)), (Gd.keep (i := 3) (fun h9 => ⟨Nat.lt_of_lt_of_le (s8 h9).1 hb.size, (s8 h9).2⟩) (by decide)), (Gd.undone (i := 3) (q5) (by decide)), (Gd.keep (i := 3) (fun h9 => Ng.keep (i := 3) (fun h8 => (b8 h9 h8).below hb (s8 h9).1) (by decide)) (by decide)), (Gd.undone (i := 3) (q10) (by decide)), (hbel.trans (hb.mono hbel.size))⟩⟩
    refine .cons 5 rfl ?_ ?_
    · intro d a w9 hsz hcl hinv hd hdep
      obtain ⟨⟨u17, u18, u98, u99, u100, u101, u102, u103, u104, u105, u106, x1a0, x1a1, x1a2, x3a0, x3a1, x3a2, x1c0, x1c1, x1c2, x3c0, x3c1, x3c2, lo, hi, L, ta0, ta1, ta2, tc0, tc1, tc2, p, rfl, f0, f1, f2, f3, f4, f5, f6, f7, f8, f9, f11, r1, r3, rf, s8, n8, b8, b9, hbel⟩⟩ := hinv
      go_wp2_with fail
      exact ⟨⟨u17, u18, u98, u99, u100, u101, u102, (.int .i64 i), u104, u105, u106, x1a0, x1a1, x1a2, x3a0, x3a1, x3a2, x1c0, x1c1, x1c2, x3c0, x3c1, x3c2, lo, hi, L, ta0, ta1, ta2, tc0, tc1, tc2, p, rfl, (f0.keep (i := 4) (by decide)), (f1.keep (i := 4) (by decide)), (f2.keep (i := 4) (by decide)), (f3.keep (i := 4) (by decide)), Gd.new (by first | rfl | simp), (f5.keep (i := 4) (by decide)), (f6.keep (i := 4) (by decide)), (f7.keep (i := 4) (by decide)), (f8.keep (i := 4) (by decide)), (f9.keep (i := 4) (by decide)), (f11.keep (i := 4) (by decide)), (Gd.keep (i := 4) (r1.imp fun h => Ng.keep (i := 4) h (by decide)) (by decide)), (Gd.keep (i := 4) (r3.imp fun h => Ng.keep (i := 4) h (by decide)) (by decide)), (rf.keep (i := 4) (by decide)), (s8.keep (i := 4) (by decide)), (Gd.keep (i := 4) (n8.imp fun h => Gd.keep (i := 4) h (by decide)) (by decide)), (Gd.keep (i := 4) (b8.imp fun h => Ng.keep (i := 4) h (by decide)) (by decide)), (b9.keep (i := 4) (by decide)), hbel⟩⟩
    refine .cons 6 rfl ?_ ?_
    · intro d a w9 hsz hcl hinv hd hdep
      obtain ⟨⟨u17, u18, u98, u99, u100, u101, u102, u103, u104, u105, u106, x1a0, x1a1, x1a2, x3a0, x3a1, x3a2, x1c0, x1c1, x1c2, x3c0, x3c1, x3c2, lo, hi, L, ta0, ta1, ta2, tc0, tc1, tc2, p, rfl, f0, f1, f2, f3, f4, f5, f6, f7, f8, f9, f11, r1, r3, rf, s8, n8, b8, b9, hbel⟩⟩ := hinv
      have e1 := f1 (hdep.get 1 rfl)
      subst e1
      have e3 := f3 (hdep.get 3 rfl)
      subst e3
      have e4 := f4 (hdep.get 4 rfl)
      subst e4
      have q5 := hd
      have q6 := hcl.not q5 6 _ rfl rfl
      have q7 := hcl.not q6 7 _ rfl rfl
      have q8 := hcl.not q6 8 _ rfl rfl
      have q10 := hcl.not q7 10 _ rfl rfl
      have q11 := hcl.not q8 11 _ rfl rfl
      have hr1 := r1 (hdep.get 1 rfl) hd
      have hr3 := r3 (hdep.get 3 rfl) hd
      go_wp2_with fail
      refine (HI.out x1a0 x1a1 x1a2 x1c0 x1c1 x1c2 x3a0 x3a1 x3a2 x3c0 x3c1 x3c2 _ hr1.1 hr1.2.1 hr1.2.2 hr3.1 hr3.2.1 hr3.2.2).mono ?_
      rintro e w8 ⟨lo8, hi8, L8, ya0, yc0, ya1, yc1, ya2, yc2, rfl, hb, hr, hlo⟩
      simp only at hr
      go_wp2_with fail
      exact ⟨⟨u17, u18, u98, u99, (.agg #[.slice x1a0 D.length x1c0, .slice x1a1 n x1c1, .slice x1a2 V.length x1c2]), u101, (.agg #[.slice x3a0 E.length x3c0, .slice x3a1 m x3c1, .slice x3a2 U.length x3c2]), (.int .i64 i), (.tuple #[.agg #[.slice ya0 rD.length yc0, .slice ya1 rn yc1, .slice ya2 rV.length yc2], .bool B]), u105, u106, x1a0, x1a1, x1a2, x3a0, x3a1, x3a2, x1c0, x1c1, x1c2, x3c0, x3c1, x3c2, lo8, hi8, L8, ya0, ya1, ya2, yc0, yc1, yc2, p, rfl, (f0.keep (i := 5) (by decide)), Gd.new rfl, (f2.keep (i := 5) (by decide)), Gd.new rfl, Gd.new rfl, Gd.new rfl, (Gd.undone (i := 5) (q6) (by decide)), (Gd.undone (i := 5) (q7) (by decide)), (Gd.undone (i := 5) (q8) (by decide)), (f9.keep (i := 5) (by decide)), (Gd.undone (i := 5) (q11) (by decide)), (Gd.keep (i := 5) (fun h9 => Ng.new (by rw [hsz]; exact (by decide : 5 < 12))) (by decide)), (Gd.keep (i := 5) (fun h9 => Ng.new (by rw [hsz]; exact (by decide : 5 < 12))) (by decide)), Gd.new ⟨hr, Nat.le_trans hbel.size hlo⟩, (Gd.keep (i := 5) (fun h9 => ⟨Nat.lt_of_lt_of_le (s8 h9).1 hb.size, (s8 h9).2⟩) (by decide)), (fun _ hj => .inl (by rw [set_ne (by decide)] at hj; have h7 := (s8 hj).1; omega)), (Gd.keep (i := 5) (fun h9 => Ng.keep (i := 5) (fun h8 => (b8 h9 h8).below hb (s8 h9).1) (by decide)) (by decide)), (Gd.undone (i := 5) (q10) (by decide)), (hbel.trans (hb.mono hbel.size))⟩⟩
    refine .cons 7 rfl ?_ ?_
    · intro d a w9 hsz hcl hinv hd hdep
      obtain ⟨⟨u17, u18, u98, u99, u100, u101, u102, u103, u104, u105, u106, x1a0, x1a1, x1a2, x3a0, x3a1, x3a2, x1c0, x1c1, x1c2, x3c0, x3c1, x3c2, lo, hi, L, ta0, ta1, ta2, tc0, tc1, tc2, p, rfl, f0, f1, f2, f3, f4, f5, f6, f7, f8, f9, f11, r1, r3, rf, s8, n8, b8, b9, hbel⟩⟩ := hinv
      have e5 := f5 (hdep.get 5 rfl)
      subst e5
      go_wp2_with fail
      exact ⟨⟨u17, u18, (.tuple #[.agg #[.slice ta0 rD.length tc0, .slice ta1 rn tc1, .slice ta2 rV.length tc2], .bool B]), u99, u100, u101, u102, u103, (.tuple #[.agg #[.slice ta0 rD.length tc0, .slice ta1 rn tc1, .slice ta2 rV.length tc2], .bool B]), u105, u106, x1a0, x1a1, x1a2, x3a0, x3a1, x3a2, x1c0, x1c1, x1c2, x3c0, x3c1, x3c2, lo, hi, L, ta0, ta1, ta2, tc0, tc1, tc2, p, rfl, (f0.keep (i := 6) (by decide)), (f1.keep (i := 6) (by decide)), (f2.keep (i := 6) (by decide)), (f3.keep (i := 6) (by decide)), (f4.keep (i := 6) (by decide)), Gd.new rfl, Gd.new (by first | rfl | simp), (f7.keep (i := 6) (by decide)), (f8.keep (i := 6) (by decide)), (f9.keep (i := 6) (by decide)), (f11.keep (i := 6) (by decide)), (Gd.keep (i := 6) (r1.imp fun h => Ng.keep (i := 6) h (by decide)) (by decide)), (Gd.keep (i := 6) (r3.imp fun h => Ng.keep (i := 6) h (by decide)) (by decide)), (rf.keep (i := 6) (by decide)), (s8.keep (i := 6) (by decide)), (Gd.keep (i := 6) (n8.imp fun h => Gd.keep (i := 6) h (by decide)) (by decide)), (Gd.keep (i := 6) (b8.imp fun h => Ng.keep (i := 6) h (by decide)) (by decide)), (b9.keep (i := 6) (by decide)), hbel⟩⟩
    refine .cons 8 rfl ?_ ?_
    · intro d a w9 hsz hcl hinv hd hdep
      obtain ⟨⟨u17, u18, u98, u99, u100, u101, u102, u103, u104, u105, u106, x1a0, x1a1, x1a2, x3a0, x3a1, x3a2, x1c0, x1c1, x1c2, x3c0, x3c1, x3c2, lo, hi, L, ta0, ta1, ta2, tc0, tc1, tc2, p, rfl, f0, f1, f2, f3, f4, f5, f6, f7, f8, f9, f11, r1, r3, rf, s8, n8, b8, b9, hbel⟩⟩ := hinv
      have e6 := f6 (hdep.get 6 rfl)
      subst e6
      go_wp2_with fail
      exact ⟨⟨u17, u18, (.tuple #[.agg #[.slice ta0 rD.length tc0, .slice ta1 rn tc1, .slice ta2 rV.length tc2], .bool B]), u99, u100, u101, u102, u103, u104, (.agg #[.slice ta0 rD.length tc0, .slice ta1 rn tc1, .slice ta2 rV.length tc2]), u106, x1a0, x1a1, x1a2, x3a0, x3a1, x3a2, x1c0, x1c1, x1c2, x3c0, x3c1, x3c2, lo, hi, L, ta0, ta1, ta2, tc0, tc1, tc2, p, rfl, (f0.keep (i := 7) (by decide)), (f1.keep (i := 7) (by decide)), (f2.keep (i := 7) (by decide)), (f3.keep (i := 7) (by decide)), (f4.keep (i := 7) (by decide)), (f5.keep (i := 7) (by decide)), Gd.new rfl, Gd.new (by first | rfl | simp), (f8.keep (i := 7) (by decide)), (f9.keep (i := 7) (by decide)), (f11.keep (i := 7) (by decide)), (Gd.keep (i := 7) (r1.imp fun h => Ng.keep (i := 7) h (by decide)) (by decide)), (Gd.keep (i := 7) (r3.imp fun h => Ng.keep (i := 7) h (by decide)) (by decide)), (rf.keep (i := 7) (by decide)), (s8.keep (i := 7) (by decide)), (Gd.keep (i := 7) (n8.imp fun h => Gd.keep (i := 7) h (by decide)) (by decide)), (Gd.keep (i := 7) (b8.imp fun h => Ng.keep (i := 7) h (by decide)) (by decide)), (b9.keep (i := 7) (by decide)), hbel⟩⟩
    refine .cons 9 rfl ?_ ?_
    · intro d a w9 hsz hcl hinv hd hdep
      obtain ⟨⟨u17, u18, u98, u99, u100, u101, u102, u103, u104, u105, u106, x1a0, x1a1, x1a2, x3a0, x3a1, x3a2, x1c0, x1c1, x1c2, x3c0, x3c1, x3c2, lo, hi, L, ta0, ta1, ta2, tc0, tc1, tc2, p, rfl, f0, f1, f2, f3, f4, f5, f6, f7, f8, f9, f11, r1, r3, rf, s8, n8, b8, b9, hbel⟩⟩ := hinv
      have e6 := f6 (hdep.get 6 rfl)
      subst e6
      go_wp2_with fail
      exact ⟨⟨u17, u18, (.tuple #[.agg #[.slice ta0 rD.length tc0, .slice ta1 rn tc1, .slice ta2 rV.length tc2], .bool B]), u99, u100, u101, u102, u103, u104, u105, (.bool B), x1a0, x1a1, x1a2, x3a0, x3a1, x3a2, x1c0, x1c1, x1c2, x3c0, x3c1, x3c2, lo, hi, L, ta0, ta1, ta2, tc0, tc1, tc2, p, rfl, (f0.keep (i := 8) (by decide)), (f1.keep (i := 8) (by decide)), (f2.keep (i := 8) (by decide)), (f3.keep (i := 8) (by decide)), (f4.keep (i := 8) (by decide)), (f5.keep (i := 8) (by decide)), Gd.new rfl, (f7.keep (i := 8) (by decide)), Gd.new (by first | rfl | simp), (f9.keep (i := 8) (by decide)), (f11.keep (i := 8) (by decide)), (Gd.keep (i := 8) (r1.imp fun h => Ng.keep (i := 8) h (by decide)) (by decide)), (Gd.keep (i := 8) (r3.imp fun h => Ng.keep (i := 8) h (by decide)) (by decide)), (rf.keep (i := 8) (by decide)), (s8.keep (i := 8) (by decide)), (Gd.keep (i := 8) (n8.imp fun h => Gd.keep (i := 8) h (by decide)) (by decide)), (Gd.keep (i := 8) (b8.imp fun h => Ng.keep (i := 8) h (by decide)) (by decide)), (b9.keep (i := 8) (by decide)), hbel⟩⟩
    refine .cons 10 rfl ?_ ?_
    · intro d a w9 hsz hcl hinv hd hdep
      obtain ⟨⟨u17, u18, u98, u99, u100, u101, u102, u103, u104, u105, u106, x1a0, x1a1, x1a2, x3a0, x3a1, x3a2, x1c0, x1c1, x1c2, x3c0, x3c1, x3c2, lo, hi, L, ta0, ta1, ta2, tc0, tc1, tc2, p, rfl, f0, f1, f2, f3, f4, f5, f6, f7, f8, f9, f11, r1, r3, rf, s8, n8, b8, b9, hbel⟩⟩ := hinv
      have q10 := hcl.not hd 10 _ rfl rfl
      go_wp2_with fail
      exact ⟨⟨(.pointer (some ⟨w9.heap.size, 0, none⟩)), u18, u98, u99, u100, u101, u102, u103, u104, u105, u106, x1a0, x1a1, x1a2, x3a0, x3a1, x3a2, x1c0, x1c1, x1c2, x3c0, x3c1, x3c2, lo, hi, L, ta0, ta1, ta2, tc0, tc1, tc2, w9.heap.size, rfl, (f0.keep (i := 9) (by decide)), (f1.keep (i := 9) (by decide)), (f2.keep (i := 9) (by decide)), (f3.keep (i := 9) (by decide)), (f4.keep (i := 9) (by decide)), (f5.keep (i := 9) (by decide)), (f6.keep (i := 9) (by decide)), (f7.keep (i := 9) (by decide)), (f8.keep (i := 9) (by decide)), Gd.new (by first | rfl | simp), (f11.keep (i := 9) (by decide)), (Gd.keep (i := 9) (fun h9 => Ng.keep (i := 9) (fun h8 => have h := r1 h9 h8; ⟨h.1.below (bel1 w9 _) (Nat.le_refl _), h.2.1.below (bel1 w9 _) (Nat.le_refl _), h.2.2.below (bel1 w9 _) (Nat.le_refl _)⟩) (by decide)) (by decide)), (Gd.keep (i := 9) (fun h9 => Ng.keep (i := 9) (fun h8 => have h := r3 h9 h8; ⟨h.1.below (bel1 w9 _) (Nat.le_refl _), h.2.1.below (bel1 w9 _) (Nat.le_refl _), h.2.2.below (bel1 w9 _) (Nat.le_refl _)⟩) (by decide)) (by decide)), (Gd.keep (i := 9) (fun h9 => ⟨(rf h9).1.alloc _, (rf h9).2⟩) (by decide)), Gd.new ⟨by simp, hbel.size⟩, (fun hj _ => .inr (by rw [set_ne (by decide)] at hj; exact (rf hj).1.lh)), Gd.new (fun _ => Bw.new w9 [.slice none 0 0, .slice none 0 0, .slice none 0 0] _), (Gd.undone (i := 9) (q10) (by decide)), (hbel.alloc hbel.size _)⟩⟩
    refine .cons 11 rfl ?_ ?_
    · intro d a w9 hsz hcl hinv hd hdep
      obtain ⟨⟨u17, u18, u98, u99, u100, u101, u102, u103, u104, u105, u106, x1a0, x1a1, x1a2, x3a0, x3a1, x3a2, x1c0, x1c1, x1c2, x3c0, x3c1, x3c2, lo, hi, L, ta0, ta1, ta2, tc0, tc1, tc2, p, rfl, f0, f1, f2, f3, f4, f5, f6, f7, f8, f9, f11, r1, r3, rf, s8, n8, b8, b9, hbel⟩⟩ := hinv
      have e9 := f9 (hdep.get 9 rfl)
      subst e9
      have e7 := f7 (hdep.get 7 rfl)
      subst e7
      have hal := hdep.get 9 rfl
      have hex := hdep.get 7 rfl
      have hmv := (hcl 7 _ rfl hex).get 6 rfl
      have hF := (hcl 6 _ rfl hmv).get 5 rfl
      have hbp := b8 hal hd
      have hc0 := hbp.c 0 rfl
      have hc1 := hbp.c 1 rfl
      have hc2 := hbp.c 2 rfl
      have hf0 := hbp.f 0 (by simp)
      have hf1 := hbp.f 1 (by simp)
      have hf2 := hbp.f 2 (by simp)
      have hp9 := s8 hal
      have hn9 := n8 hF hal
      go_wp2_with fail
      exact ⟨⟨(.pointer (some ⟨p, 0, none⟩)), u18, u98, u99, u100, u101, u102, u103, u104, (.agg #[.slice ta0 rD.length tc0, .slice ta1 rn tc1, .slice ta2 rV.length tc2]), u106, x1a0, x1a1, x1a2, x3a0, x3a1, x3a2, x1c0, x1c1, x1c2, x3c0, x3c1, x3c2, lo, hi, L, ta0, ta1, ta2, tc0, tc1, tc2, p, rfl, (f0.keep (i := 10) (by decide)), (f1.keep (i := 10) (by decide)), (f2.keep (i := 10) (by decide)), (f3.keep (i := 10) (by decide)), (f4.keep (i := 10) (by decide)), (f5.keep (i := 10) (by decide)), (f6.keep (i := 10) (by decide)), Gd.new rfl, (f8.keep (i := 10) (by decide)), Gd.new rfl, (f11.keep (i := 10) (by decide)), (Gd.keep (i := 10) (fun h9 => (fun h8 => by rw [set_ne (by decide), hF] at h8; cases h8)) (by decide)), (Gd.keep (i := 10) (fun h9 => (fun h8 => by rw [set_ne (by decide), hF] at h8; cases h8)) (by decide)), (Gd.keep (i := 10) (fun h9 => ⟨((((rf h9).1.setFar hn9 (.slice ta0 rD.length tc0)).setFar hn9 (.slice ta1 rn tc1)).setFar hn9 (.slice ta2 rV.length tc2)), (rf h9).2⟩) (by decide)), (Gd.keep (i := 10) (fun h9 => ⟨by simp; exact (s8 h9).1, (s8 h9).2⟩) (by decide)), (Gd.keep (i := 10) (n8.imp fun h => Gd.keep (i := 10) h (by decide)) (by decide)), (Gd.keep (i := 10) (fun h9 => Ng.new (by rw [hsz]; exact (by decide : 10 < 12))) (by decide)), Gd.new (((hbp.put 0 (by simp) (.slice ta0 rD.length tc0)).put 1 (by simp) (.slice ta1 rn tc1)).put 2 (by simp) (.slice ta2 rV.length tc2)), (((hbel.setCell hp9.2 _).setCell hp9.2 _).setCell hp9.2 _)⟩⟩
    refine .cons 12 rfl ?_ trivial
    · intro d a w9 hsz hcl hinv hd hdep
      obtain ⟨⟨u17, u18, u98, u99, u100, u101, u102, u103, u104, u105, u106, x1a0, x1a1, x1a2, x3a0, x3a1, x3a2, x1c0, x1c1, x1c2, x3c0, x3c1, x3c2, lo, hi, L, ta0, ta1, ta2, tc0, tc1, tc2, p, rfl, f0, f1, f2, f3, f4, f5, f6, f7, f8, f9, f11, r1, r3, rf, s8, n8, b8, b9, hbel⟩⟩ := hinv
      have e8 := f8 (hdep.get 8 rfl)
      subst e8
      go_wp2_with fail
      exact ⟨⟨u17, (.bool B), u98, u99, u100, u101, u102, u103, u104, u105, (.bool B), x1a0, x1a1, x1a2, x3a0, x3a1, x3a2, x1c0, x1c1, x1c2, x3c0, x3c1, x3c2, lo, hi, L, ta0, ta1, ta2, tc0, tc1, tc2, p, rfl, (f0.keep (i := 11) (by decide)), (f1.keep (i := 11) (by decide)), (f2.keep (i := 11) (by decide)), (f3.keep (i := 11) (by decide)), (f4.keep (i := 11) (by decide)), (f5.keep (i := 11) (by decide)), (f6.keep (i := 11) (by decide)), (f7.keep (i := 11) (by decide)), Gd.new rfl, (f9.keep (i := 11) (by decide)), Gd.new (by first | rfl | simp), (Gd.keep (i := 11) (r1.imp fun h => Ng.keep (i := 11) h (by decide)) (by decide)), (Gd.keep (i := 11) (r3.imp fun h => Ng.keep (i := 11) h (by decide)) (by decide)), (rf.keep (i := 11) (by decide)), (s8.keep (i := 11) (by decide)), (Gd.keep (i := 11) (n8.imp fun h => Gd.keep (i := 11) h (by decide)) (by decide)), (Gd.keep (i := 11) (b8.imp fun h => Ng.keep (i := 11) h (by decide)) (by decide)), (b9.keep (i := 11) (by decide)), hbel⟩⟩
  case hendh =>
  intro d a w18 hinv hall
  obtain ⟨⟨u17, u18, u98, u99, u100, u101, u102, u103, u104, u105, u106, h_x1a0, h_x1a1, h_x1a2, h_x3a0, h_x3a1, h_x3a2, h_x1c0, h_x1c1, h_x1c2, h_x3c0, h_x3c1, h_x3c2, loh, hih, Lh, ha0, ha1, ha2, hc0, hc1, hc2, ph, rfl, f0, f1, f2, f3, f4, f5, f6, f7, f8, f9, f11, r1, r3, rf, s8, n8, b8, b9, hbel⟩⟩ := hinv
  have e0 := f0 (hall 0 (by decide))
  subst e0
  have e1 := f1 (hall 1 (by decide))
  subst e1
  have e2 := f2 (hall 2 (by decide))
  subst e2
  have e3 := f3 (hall 3 (by decide))
  subst e3
  have e4 := f4 (hall 4 (by decide))
  subst e4
  have e5 := f5 (hall 5 (by decide))
  subst e5
  have e6 := f6 (hall 6 (by decide))
  subst e6
  have e7 := f7 (hall 7 (by decide))
  subst e7
  have e8 := f8 (hall 8 (by decide))
  subst e8
  have e9 := f9 (hall 9 (by decide))
  subst e9
  have e11 := f11 (hall 11 (by decide))
  subst e11
  have hrf := rf (hall 5 (by decide))
  have hs8h := s8 (hall 9 (by decide))
  have hn8h := n8 (hall 5 (by decide)) (hall 9 (by decide))
  have hb9 := b9 (hall 10 (by decide))
  have hb := hbel
  clear f0 f1 f2 f3 f4 f5 f6 f7 f8 f9 f11 r1 r3 rf s8 n8 b8 b9 hbel
  have z18 : w17.heap.size + 0 ≤ w18.heap.size := (by have := hb.size; (try simp at this); omega)
  have Bel_20 : Hid (Below w.heap.size w w18) := Lib.hid (Bel_19.out.trans (hb.mono Bel_19.out.size))
  clear Bel_19
  have BA_20 : Hid (Bx w18 (w.heap.size) [.slice a0 D.length c0, .slice a1 n c1, .slice a2 V.length c2]) := Lib.hid (BA_19.out.below hb BA_19.out.1)
  clear BA_19
  have BE_20 : Hid (Bx w18 ((w.heap.size + 1)) [.slice e0 E.length d0, .slice e1 m d1, .slice e2 U.length d2]) := Lib.hid (BE_19.out.below hb BE_19.out.1)
  clear BE_19
  have Rt_17 : Hid (RivAt w18 lot hit Lt ta0 ta1 ta2 tc0 tc1 tc2 rn rD rM rV) := Lib.hid (Rt_16.out.below hb Rt_16.out.lh)
  clear Rt_16
  have BT_17 : Hid (Bx w18 (pt) [.slice ta0 rD.length tc0, .slice ta1 rn tc1, .slice ta2 rV.length tc2]) := Lib.hid (BT_16.out.below hb BT_16.out.1)
  clear BT_16
  have BX_15 : Hid (Bx w18 (w5.heap.size) [.slice xa0 D.length xc0, .slice xa1 n xc1, .slice xa2 V.length xc2]) := Lib.hid (BX_14.out.below hb BX_14.out.1)
  clear BX_14
  have BY_13 : Hid (Bx w18 (w6.heap.size) [.slice ya0 E.length yc0, .slice ya1 m yc1, .slice ya2 U.length yc2]) := Lib.hid (BY_12.out.below hb BY_12.out.1)
  clear BY_12
  have BG_11 : Hid (Bx w18 (w7.heap.size) [.slice ga0 rD.length gc0, .slice ga1 rn gc1, .slice ga2 rV.length gc2]) := Lib.hid (BG_10.out.below hb BG_10.out.1)
  clear BG_10
  have Rg_2 : Hid (MarkedR w18 log hig Lg 1 ga0 ga1 ga2 gc0 gc1 gc2 rD.length rn rV.length) := Lib.hid (Rg_1.out.below hb Rg_1.out.lh)
  clear Rg_1
  have hlh : w17.heap.size + 0 ≤ loh := (by have h9 := hrf.2; (try simp at h9); omega)
  have hhh : hih ≤ w18.heap.size := hrf.1.lh
  have hp1h := hs8h.1
  have hp2h : w17.heap.size + 0 ≤ ph := (by have h9 := hs8h.2; (try simp at h9); omega)
  have Rh_0 : Hid (RivAt w18 loh hih Lh ha0 ha1 ha2 hc0 hc1 hc2 rn rD rM rV) := Lib.hid (hrf.1)
  have BH_0 : Hid (Bx w18 (ph) [.slice ha0 rD.length hc0, .slice ha1 rn hc1, .slice ha2 rV.length hc2]) := Lib.hid (hb9.1)
  clear hb hrf hb9 hs8h
  have cBA0 := BA_20.out.c 0 rfl
  have cBA1 := BA_20.out.c 1 rfl
  have cBA2 := BA_20.out.c 2 rfl
  have cBE0 := BE_20.out.c 0 rfl
  have cBE1 := BE_20.out.c 1 rfl
  have cBE2 := BE_20.out.c 2 rfl
  have cBT0 := BT_17.out.c 0 rfl
  have cBT1 := BT_17.out.c 1 rfl
  have cBT2 := BT_17.out.c 2 rfl
  have cBX0 := BX_15.out.c 0 rfl
  have cBX1 := BX_15.out.c 1 rfl
  have cBX2 := BX_15.out.c 2 rfl
  have cBY0 := BY_13.out.c 0 rfl
  have cBY1 := BY_13.out.c 1 rfl
  have cBY2 := BY_13.out.c 2 rfl
  have cBG0 := BG_11.out.c 0 rfl
  have cBG1 := BG_11.out.c 1 rfl
  have cBG2 := BG_11.out.c 2 rfl
  have cBH0 := BH_0.out.c 0 rfl
  have cBH1 := BH_0.out.c 1 rfl
  have cBH2 := BH_0.out.c 2 rfl
  go_wp2_with fail
  refine (eqRiver_any ha0 ha1 ha2 ta0 ta1 ta2 hc0 hc1 hc2 tc0 tc1 tc2 rn rD rM rV _ Rh_0.out.r0.row Rh_0.out.r1.row Rh_0.out.r2.row hlim.1 hlim.2.1 hlim.2.2 HRM.out Rt_17.out.r0.row Rt_17.out.r1.row Rt_17.out.r2.row).mono ?_
  rintro e w19 ⟨rfl, hb⟩
  clear cBA0 cBA1 cBA2 cBE0 cBE1 cBE2 cBT0 cBT1 cBT2 cBX0 cBX1 cBX2 cBY0 cBY1 cBY2 cBG0 cBG1 cBG2 cBH0 cBH1 cBH2
  have z19 : w18.heap.size + 0 ≤ w19.heap.size := (by have := hb.size; (try simp at this); omega)
  have Bel_21 : Hid (Below w.heap.size w w19) := Lib.hid (Bel_20.out.trans (hb.mono Bel_20.out.size))
  clear Bel_20
  have BA_21 : Hid (Bx w19 (w.heap.size) [.slice a0 D.length c0, .slice a1 n c1, .slice a2 V.length c2]) := Lib.hid (BA_20.out.below hb BA_20.out.1)
  clear BA_20
  have BE_21 : Hid (Bx w19 ((w.heap.size + 1)) [.slice e0 E.length d0, .slice e1 m d1, .slice e2 U.length d2]) := Lib.hid (BE_20.out.below hb BE_20.out.1)
  clear BE_20
  have Rt_18 : Hid (RivAt w19 lot hit Lt ta0 ta1 ta2 tc0 tc1 tc2 rn rD rM rV) := Lib.hid (Rt_17.out.below hb Rt_17.out.lh)
  clear Rt_17
  have BT_18 : Hid (Bx w19 (pt) [.slice ta0 rD.length tc0, .slice ta1 rn tc1, .slice ta2 rV.length tc2]) := Lib.hid (BT_17.out.below hb BT_17.out.1)
  clear BT_17
  have BX_16 : Hid (Bx w19 (w5.heap.size) [.slice xa0 D.length xc0, .slice xa1 n xc1, .slice xa2 V.length xc2]) := Lib.hid (BX_15.out.below hb BX_15.out.1)
  clear BX_15
  have BY_14 : Hid (Bx w19 (w6.heap.size) [.slice ya0 E.length yc0, .slice ya1 m yc1, .slice ya2 U.length yc2]) := Lib.hid (BY_13.out.below hb BY_13.out.1)
  clear BY_13
  have BG_12 : Hid (Bx w19 (w7.heap.size) [.slice ga0 rD.length gc0, .slice ga1 rn gc1, .slice ga2 rV.length gc2]) := Lib.hid (BG_11.out.below hb BG_11.out.1)
  clear BG_11
  have Rg_3 : Hid (MarkedR w19 log hig Lg 1 ga0 ga1 ga2 gc0 gc1 gc2 rD.length rn rV.length) := Lib.hid (Rg_2.out.below hb Rg_2.out.lh)
  clear Rg_2
  have Rh_1 : Hid (RivAt w19 loh hih Lh ha0 ha1 ha2 hc0 hc1 hc2 rn rD rM rV) := Lib.hid (Rh_0.out.below hb Rh_0.out.lh)
  clear Rh_0
  have BH_1 : Hid (Bx w19 (ph) [.slice ha0 rD.length hc0, .slice ha1 rn hc1, .slice ha2 rV.length hc2]) := Lib.hid (BH_0.out.below hb BH_0.out.1)
  clear BH_0
  clear hb
  have cBA0 := BA_21.out.c 0 rfl
  have cBA1 := BA_21.out.c 1 rfl
  have cBA2 := BA_21.out.c 2 rfl
  have cBE0 := BE_21.out.c 0 rfl
  have cBE1 := BE_21.out.c 1 rfl
  have cBE2 := BE_21.out.c 2 rfl
  have cBT0 := BT_18.out.c 0 rfl
  have cBT1 := BT_18.out.c 1 rfl
  have cBT2 := BT_18.out.c 2 rfl
  have cBX0 := BX_16.out.c 0 rfl
  have cBX1 := BX_16.out.c 1 rfl
  have cBX2 := BX_16.out.c 2 rfl
  have cBY0 := BY_14.out.c 0 rfl
  have cBY1 := BY_14.out.c 1 rfl
  have cBY2 := BY_14.out.c 2 rfl
  have cBG0 := BG_12.out.c 0 rfl
  have cBG1 := BG_12.out.c 1 rfl
  have cBG2 := BG_12.out.c 2 rfl
  have cBH0 := BH_1.out.c 0 rfl
  have cBH1 := BH_1.out.c 1 rfl
  have cBH2 := BH_1.out.c 2 rfl
  go_wp2_with fail
  refine (heldRiver_any log hig 1 Lg ga0 ga1 ga2 gc0 gc1 gc2 rD.length rn rV.length _ Rg_3.out hlim.1 hlim.2.1 hlim.2.2 (by omega)).mono ?_
  rintro e w20 ⟨rfl, hb⟩
  clear cBA0 cBA1 cBA2 cBE0 cBE1 cBE2 cBT0 cBT1 cBT2 cBX0 cBX1 cBX2 cBY0 cBY1 cBY2 cBG0 cBG1 cBG2 cBH0 cBH1 cBH2
  have z20 : w19.heap.size + 0 ≤ w20.heap.size := (by have := hb.size; (try simp at this); omega)
  have Bel_22 : Hid (Below w.heap.size w w20) := Lib.hid (Bel_21.out.trans (hb.mono Bel_21.out.size))
  clear Bel_21
  have BA_22 : Hid (Bx w20 (w.heap.size) [.slice a0 D.length c0, .slice a1 n c1, .slice a2 V.length c2]) := Lib.hid (BA_21.out.below hb BA_21.out.1)
  clear BA_21
  have BE_22 : Hid (Bx w20 ((w.heap.size + 1)) [.slice e0 E.length d0, .slice e1 m d1, .slice e2 U.length d2]) := Lib.hid (BE_21.out.below hb BE_21.out.1)
  clear BE_21
  have Rt_19 : Hid (RivAt w20 lot hit Lt ta0 ta1 ta2 tc0 tc1 tc2 rn rD rM rV) := Lib.hid (Rt_18.out.below hb Rt_18.out.lh)
  clear Rt_18
  have BT_19 : Hid (Bx w20 (pt) [.slice ta0 rD.length tc0, .slice ta1 rn tc1, .slice ta2 rV.length tc2]) := Lib.hid (BT_18.out.below hb BT_18.out.1)
  clear BT_18
  have BX_17 : Hid (Bx w20 (w5.heap.size) [.slice xa0 D.length xc0, .slice xa1 n xc1, .slice xa2 V.length xc2]) := Lib.hid (BX_16.out.below hb BX_16.out.1)
  clear BX_16
  have BY_15 : Hid (Bx w20 (w6.heap.size) [.slice ya0 E.length yc0, .slice ya1 m yc1, .slice ya2 U.length yc2]) := Lib.hid (BY_14.out.below hb BY_14.out.1)
  clear BY_14
  have BG_13 : Hid (Bx w20 (w7.heap.size) [.slice ga0 rD.length gc0, .slice ga1 rn gc1, .slice ga2 rV.length gc2]) := Lib.hid (BG_12.out.below hb BG_12.out.1)
  clear BG_12
  have Rg_4 : Hid (MarkedR w20 log hig Lg 1 ga0 ga1 ga2 gc0 gc1 gc2 rD.length rn rV.length) := Lib.hid (Rg_3.out.below hb Rg_3.out.lh)
  clear Rg_3
  have Rh_2 : Hid (RivAt w20 loh hih Lh ha0 ha1 ha2 hc0 hc1 hc2 rn rD rM rV) := Lib.hid (Rh_1.out.below hb Rh_1.out.lh)
  clear Rh_1
  have BH_2 : Hid (Bx w20 (ph) [.slice ha0 rD.length hc0, .slice ha1 rn hc1, .slice ha2 rV.length hc2]) := Lib.hid (BH_1.out.below hb BH_1.out.1)
  clear BH_1
  clear hb
  have cBA0 := BA_22.out.c 0 rfl
  have cBA1 := BA_22.out.c 1 rfl
  have cBA2 := BA_22.out.c 2 rfl
  have cBE0 := BE_22.out.c 0 rfl
  have cBE1 := BE_22.out.c 1 rfl
  have cBE2 := BE_22.out.c 2 rfl
  have cBT0 := BT_19.out.c 0 rfl
  have cBT1 := BT_19.out.c 1 rfl
  have cBT2 := BT_19.out.c 2 rfl
  have cBX0 := BX_17.out.c 0 rfl
  have cBX1 := BX_17.out.c 1 rfl
  have cBX2 := BX_17.out.c 2 rfl
  have cBY0 := BY_15.out.c 0 rfl
  have cBY1 := BY_15.out.c 1 rfl
  have cBY2 := BY_15.out.c 2 rfl
  have cBG0 := BG_13.out.c 0 rfl
  have cBG1 := BG_13.out.c 1 rfl
  have cBG2 := BG_13.out.c 2 rfl
  have cBH0 := BH_2.out.c 0 rfl
  have cBH1 := BH_2.out.c 1 rfl
  have cBH2 := BH_2.out.c 2 rfl
  go_wp2_with fail
  go_ret
  exact ⟨rfl, Bel_22.out⟩

set_option maxHeartbeats 4000000 in
theorem joinRiversLaw_not (a0 a1 a2 e0 e1 e2 : Option Addr) (c0 c1 c2 d0 d1 d2 n m : Nat) (D M V E N U : List Int) (i : Int) (w : World) (hmx : D.length ≤ maxLen ∧ n ≤ maxLen ∧ V.length ≤ maxLen ∧ E.length ≤ maxLen ∧ m ≤ maxLen ∧ U.length ≤ maxLen) (h : ¬ ((D.length : Int) + (n : Int) + (V.length : Int) ≤ 1048576 ∧ (E.length : Int) + (m : Int) + (U.length : Int) ≤ 1048576 - ((D.length : Int) + (n : Int) + (V.length : Int)))) :
    Calls Try.prog 6 #[.agg #[.slice a0 D.length c0, .slice a1 n c1, .slice a2 V.length c2], .agg #[.slice e0 E.length d0, .slice e1 m d1, .slice e2 U.length d2], .int .i64 i] w fun e w' => e = .returned (.bool true) ∧ Below w.heap.size w w' := by
  unfold maxLen at hmx
  have hneg : ((-1 : Int) < 0) := by decide
  by_cases h1 : (D.length : Int) + (n : Int) + (V.length : Int) ≤ 1048576
  · have g1 : ¬ (1048576 : Int) - (D.length : Int) - (n : Int) - (V.length : Int) < 0 := by omega
    obtain ⟨W1, hW1⟩ : ∃ W, ((w.alloc (.cells #[.slice a0 D.length c0, .slice a1 n c1, .slice a2 V.length c2] 25)).alloc (.cells #[.slice e0 E.length d0, .slice e1 m d1, .slice e2 U.length d2] 25)) = W := ⟨_, rfl⟩
    have P1 : Hid (Bx W1 w.heap.size [.slice a0 D.length c0, .slice a1 n c1, .slice a2 V.length c2]) := Lib.hid (by rw [← hW1]; exact (Bx.new w [.slice a0 D.length c0, .slice a1 n c1, .slice a2 V.length c2] _).alloc _)
    have O1 : Hid (Bx W1 (w.heap.size + 1) [.slice e0 E.length d0, .slice e1 m d1, .slice e2 U.length d2]) := Lib.hid (by rw [← hW1]; exact Bx.new1G w _ [.slice e0 E.length d0, .slice e1 m d1, .slice e2 U.length d2] _)
    have HB1 : Hid (Below w.heap.size w W1) := Lib.hid (by rw [← hW1]; exact below2 w _ _)
    have HW1 := Lib.hid hW1
    clear hW1
    have p0 := P1.out.c 0 rfl
    have q0 := O1.out.c 0 rfl
    have p1 := P1.out.c 1 rfl
    have q1 := O1.out.c 1 rfl
    have p2 := P1.out.c 2 rfl
    have q2 := O1.out.c 2 rfl
    go_enter Try.func6, Try.ntmps6
    go_upto_region 1 with fail
    rw [HW1.out]
    clear HW1
    go_wp2_with fail
    refine (szRiver_fits a0 a1 a2 D.length n V.length c0 c1 c2 1048576 (by omega) (by omega) _).mono ?_
    rintro e w2 ⟨rfl, hb⟩
    clear p0 p1 p2 q0 q1 q2
    have HB2 : Hid (Below w.heap.size w _) := Lib.hid (HB1.out.trans (hb.mono HB1.out.size))
    have P2 := Lib.hid (P1.out.below hb P1.out.1)
    have O2 := Lib.hid (O1.out.below hb O1.out.1)
    clear hb P1 O1
    have p0 := P2.out.c 0 rfl
    have q0 := O2.out.c 0 rfl
    have p1 := P2.out.c 1 rfl
    have q1 := O2.out.c 1 rfl
    have p2 := P2.out.c 2 rfl
    have q2 := O2.out.c 2 rfl
    go_wp2_with fail
    refine (szRiver_not e0 e1 e2 E.length m U.length d0 d1 d2 _ (by omega) (by omega) (by omega) (by omega) (by omega) (by omega) _).mono ?_
    rintro e w3 ⟨rfl, hb⟩
    have HB3 : Hid (Below w.heap.size w w3) := Lib.hid (HB2.out.trans (hb.mono HB2.out.size))
    clear hb
    go_wp2_with fail
    go_ret
    exact ⟨rfl, HB3.out⟩
  · obtain ⟨W1, hW1⟩ : ∃ W, ((w.alloc (.cells #[.slice a0 D.length c0, .slice a1 n c1, .slice a2 V.length c2] 25)).alloc (.cells #[.slice e0 E.length d0, .slice e1 m d1, .slice e2 U.length d2] 25)) = W := ⟨_, rfl⟩
    have P1 : Hid (Bx W1 w.heap.size [.slice a0 D.length c0, .slice a1 n c1, .slice a2 V.length c2]) := Lib.hid (by rw [← hW1]; exact (Bx.new w [.slice a0 D.length c0, .slice a1 n c1, .slice a2 V.length c2] _).alloc _)
    have O1 : Hid (Bx W1 (w.heap.size + 1) [.slice e0 E.length d0, .slice e1 m d1, .slice e2 U.length d2]) := Lib.hid (by rw [← hW1]; exact Bx.new1G w _ [.slice e0 E.length d0, .slice e1 m d1, .slice e2 U.length d2] _)
    have HB1 : Hid (Below w.heap.size w W1) := Lib.hid (by rw [← hW1]; exact below2 w _ _)
    have HW1 := Lib.hid hW1
    clear hW1
    have p0 := P1.out.c 0 rfl
    have q0 := O1.out.c 0 rfl
    have p1 := P1.out.c 1 rfl
    have q1 := O1.out.c 1 rfl
    have p2 := P1.out.c 2 rfl
    have q2 := O1.out.c 2 rfl
    go_enter Try.func6, Try.ntmps6
    go_upto_region 1 with fail
    rw [HW1.out]
    clear HW1
    go_wp2_with fail
    refine (szRiver_not a0 a1 a2 D.length n V.length c0 c1 c2 _ (by omega) (by omega) (by omega) (by omega) (by omega) (by omega) _).mono ?_
    rintro e w2 ⟨rfl, hb⟩
    clear p0 p1 p2 q0 q1 q2
    have HB2 : Hid (Below w.heap.size w _) := Lib.hid (HB1.out.trans (hb.mono HB1.out.size))
    have P2 := Lib.hid (P1.out.below hb P1.out.1)
    have O2 := Lib.hid (O1.out.below hb O1.out.1)
    clear hb P1 O1
    have p0 := P2.out.c 0 rfl
    have q0 := O2.out.c 0 rfl
    have p1 := P2.out.c 1 rfl
    have q1 := O2.out.c 1 rfl
    have p2 := P2.out.c 2 rfl
    have q2 := O2.out.c 2 rfl
    go_wp2_with fail
    go_ret
    exact ⟨rfl, HB2.out⟩
theorem walk_FnExactJoinRivers (a0 a1 a2 : Option Addr) (l0 n l2 c0 c1 c2 : Nat) (D M V : List Int) (e0 e1 e2 : Option Addr) (k0 m k2 d0 d1 d2 : Nat) (E N U : List Int) (i : Int) (w : World) (ha : IsRiv w a0 a1 a2 l0 n l2 c0 c1 c2 D M V) (he : IsRiv w e0 e1 e2 k0 m k2 d0 d1 d2 E N U) (hwi : (Lit.int .i64 i).wf = true) :
    Calls Try.prog 6 #[.agg #[.slice a0 l0 c0, .slice a1 n c1, .slice a2 l2 c2], .agg #[.slice e0 k0 d0, .slice e1 m d1, .slice e2 k2 d2], .int .i64 i] w fun e w' => e = .returned (.bool true) ∧ Below w.heap.size w w' := by
  obtain ⟨⟨hl0, hc0, hx0, hr0, _⟩, ⟨hl1, hc1, hx1, hr1, _⟩, ⟨hl2, hc2, hx2, hr2, _⟩⟩ := ha
  obtain ⟨⟨gl0, gc0, gx0, gr0, _⟩, ⟨gl1, gc1, gx1, gr1, _⟩, ⟨gl2, gc2, gx2, gr2, _⟩⟩ := he
  rw [Nat.mul_one] at hl0 hl2 gl0 gl2
  subst hl0; subst hl2; subst gl0; subst gl2
  by_cases h : (D.length : Int) + (n : Int) + (V.length : Int) ≤ 1048576 ∧ (E.length : Int) + (m : Int) + (U.length : Int) ≤ 1048576 - ((D.length : Int) + (n : Int) + (V.length : Int))
  · exact joinRiversLaw_fits a0 a1 a2 e0 e1 e2 c0 c1 c2 d0 d1 d2 n m D M V E N U i w hr0 hr1 hr2 gr0 gr1 gr2 hl1 gl1 hwi h.1 h.2
  · exact joinRiversLaw_not a0 a1 a2 e0 e1 e2 c0 c1 c2 d0 d1 d2 n m D M V E N U i w ⟨by omega, by omega, by omega, by omega, by omega, by omega⟩ h
end Go.Proofs.Ytnmmhaadkclogaa
