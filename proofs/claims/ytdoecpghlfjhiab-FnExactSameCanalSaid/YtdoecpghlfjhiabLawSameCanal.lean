/- The walk of the law on SameCanal. -/
import Derived.Test.YtdoecpghlfjhiabSameCanalC
import Derived.Test.YtdoecpghlfjhiabCanalH
import Derived.Test.YtdoecpghlfjhiabRegionI
namespace Go.Proofs.Ytdoecpghlfjhiab
open Go.RowKit
set_option linter.unusedVariables false
set_option linter.unusedSimpArgs false
set_option maxRecDepth 100000
attribute [local irreducible] wpV wpList Code.wp

theorem sameCanal_gs {n j : Nat} {p : Prop} : Gd (Array.replicate n false) j p := fun h => by rw [getD_replicate_false] at h; cases h
theorem sameCanal_ng {l : Array Bool} {j : Nat} {p : Prop} (h : p) : Ng l j p := fun _ => h
theorem sameCanal_gu {l : Array Bool} {i j : Nat} {p : Prop} (h : l.getD j false = false) (hne : i ≠ j) : Gd (l.setIfInBounds i true) j p := fun h9 => by rw [set_ne hne, h] at h9; cases h9
theorem sameCanal_sc {P : Program} {l : List Oper} {Inv : Array Bool → Act → World → Prop} {k : Nat} {o : Oper} {rest : List Oper} (j : Nat) (hj : k + 1 = j)
    (h : ∀ d a w, d.size = l.length → Closed l d → Inv d a w → d.getD k false = false → Deps d o.after.toList → wpList P l.toArray (QI fun a' w' => Inv (d.setIfInBounds k true) a' w') [o] a w) (hr : StepAll P l Inv j rest) : StepAll P l Inv k (o :: rest) := by
  subst hj; exact ⟨h, hr⟩

structure sameCanalPS (w0 : World) (t0_ t1_ t2_ t3_ t4_ t5_ t7_ t8_ t9_ t10_ t11_ t12_ t13_ t14_ t15_ t16_ t17_ t18_ t19_ t25_ t26_ t27_ t28_ t29_ t30_ t31_ t32_ t33_ t34_ t35_ t36_ t37_ t38_ t39_ t40_ t41_ t42_ t43_ t44_ : Value) (n0 n1 n2 m0 m1 m2 : Nat) (a0 a1 b0 b1 : Option Addr) (c0 c1 d0 d1 : Nat) (zs0 zs1 ys0 ys1 : List Nat) (bv : Bool) (d : Array Bool) (a : Act) (w : World) where
  u6 : Value
  u20 : Value
  u21 : Value
  u22 : Value
  u23 : Value
  u24 : Value
  ea : a = ⟨#[t0_, t1_, t2_, t3_, t4_, t5_, u6, t7_, t8_, t9_, t10_, t11_, t12_, t13_, t14_, t15_, t16_, t17_, t18_, t19_, u20, u21, u22, u23, u24, t25_, t26_, t27_, t28_, t29_, t30_, t31_, t32_, t33_, t34_, t35_, t36_, t37_, t38_, t39_, t40_, t41_, t42_, t43_, t44_], []⟩
  f0 : Gd d 0 (u20 = .agg #[.float .f32 n0, .float .f32 n1, .float .f32 n2, .slice a0 zs0.length c0, .slice a1 zs1.length c1])
  f1 : Gd d 1 (∃ e0 e1 k0 k1, u21 = .agg #[.float .f32 n0, .float .f32 n1, .float .f32 n2, .slice e0 zs0.length k0, .slice e1 zs1.length k1] ∧ RowF .f32 w e0 zs0 ∧ RowF .f32 w e1 zs1)
  f2 : Gd d 2 (u22 = .agg #[.float .f32 m0, .float .f32 m1, .float .f32 m2, .slice b0 ys0.length d0, .slice b1 ys1.length d1])
  f3 : Gd d 3 (∃ e0 e1 k0 k1, u23 = .agg #[.float .f32 m0, .float .f32 m1, .float .f32 m2, .slice e0 ys0.length k0, .slice e1 ys1.length k1] ∧ RowF .f32 w e0 ys0 ∧ RowF .f32 w e1 ys1)
  f4 : Gd d 4 (u24 = .bool bv)
  f5 : Gd d 5 (u6 = .bool bv)
  hbel : Below w0.heap.size w0 w
def sameCanalP (w0 : World) (t0_ t1_ t2_ t3_ t4_ t5_ t7_ t8_ t9_ t10_ t11_ t12_ t13_ t14_ t15_ t16_ t17_ t18_ t19_ t25_ t26_ t27_ t28_ t29_ t30_ t31_ t32_ t33_ t34_ t35_ t36_ t37_ t38_ t39_ t40_ t41_ t42_ t43_ t44_ : Value) (n0 n1 n2 m0 m1 m2 : Nat) (a0 a1 b0 b1 : Option Addr) (c0 c1 d0 d1 : Nat) (zs0 zs1 ys0 ys1 : List Nat) (bv : Bool) (d : Array Bool) (a : Act) (w : World) : Prop := Nonempty (sameCanalPS w0 t0_ t1_ t2_ t3_ t4_ t5_ t7_ t8_ t9_ t10_ t11_ t12_ t13_ t14_ t15_ t16_ t17_ t18_ t19_ t25_ t26_ t27_ t28_ t29_ t30_ t31_ t32_ t33_ t34_ t35_ t36_ t37_ t38_ t39_ t40_ t41_ t42_ t43_ t44_ n0 n1 n2 m0 m1 m2 a0 a1 b0 b1 c0 c1 d0 d1 zs0 zs1 ys0 ys1 bv d a w)

structure sameCanalQS (w0 : World) (t0_ t1_ t2_ t3_ t4_ t5_ t6_ t7_ t8_ t9_ t10_ t11_ t12_ t13_ t14_ t15_ t16_ t17_ t18_ t19_ t20_ t21_ t22_ t23_ t24_ t25_ t26_ t27_ t28_ t29_ t30_ t31_ t32_ t33_ t34_ t40_ t41_ t42_ t43_ t44_ : Value) (n0 n1 n2 : Nat) (x0 x1 a0 a1 : Option Addr) (k0 k1 c0 c1 : Nat) (zs0 zs1 : List Nat) (d : Array Bool) (a : Act) (w : World) where
  u35 : Value
  u36 : Value
  u37 : Value
  u38 : Value
  u39 : Value
  ea : a = ⟨#[t0_, t1_, t2_, t3_, t4_, t5_, t6_, t7_, t8_, t9_, t10_, t11_, t12_, t13_, t14_, t15_, t16_, t17_, t18_, t19_, t20_, t21_, t22_, t23_, t24_, t25_, t26_, t27_, t28_, t29_, t30_, t31_, t32_, t33_, t34_, u35, u36, u37, u38, u39, t40_, t41_, t42_, t43_, t44_], []⟩
  f0 : Gd d 0 (u35 = .agg #[.float .f32 n0, .float .f32 n1, .float .f32 n2, .slice x0 zs0.length k0, .slice x1 zs1.length k1])
  f1 : Gd d 1 (u36 = .agg #[.float .f32 n0, .float .f32 n1, .float .f32 n2, .slice a0 zs0.length c0, .slice a1 zs1.length c1])
  f2 : Gd d 2 (∃ e0 e1 q0 q1, u37 = .agg #[.float .f32 n0, .float .f32 n1, .float .f32 n2, .slice e0 zs0.length q0, .slice e1 zs1.length q1] ∧ RowF .f32 w e0 zs0 ∧ RowF .f32 w e1 zs1)
  f3 : Gd d 3 (u38 = .bool true)
  f4 : Gd d 4 (u39 = .bool false)
  hbel : Below w0.heap.size w0 w
def sameCanalQ (w0 : World) (t0_ t1_ t2_ t3_ t4_ t5_ t6_ t7_ t8_ t9_ t10_ t11_ t12_ t13_ t14_ t15_ t16_ t17_ t18_ t19_ t20_ t21_ t22_ t23_ t24_ t25_ t26_ t27_ t28_ t29_ t30_ t31_ t32_ t33_ t34_ t40_ t41_ t42_ t43_ t44_ : Value) (n0 n1 n2 : Nat) (x0 x1 a0 a1 : Option Addr) (k0 k1 c0 c1 : Nat) (zs0 zs1 : List Nat) (d : Array Bool) (a : Act) (w : World) : Prop := Nonempty (sameCanalQS w0 t0_ t1_ t2_ t3_ t4_ t5_ t6_ t7_ t8_ t9_ t10_ t11_ t12_ t13_ t14_ t15_ t16_ t17_ t18_ t19_ t20_ t21_ t22_ t23_ t24_ t25_ t26_ t27_ t28_ t29_ t30_ t31_ t32_ t33_ t34_ t40_ t41_ t42_ t43_ t44_ n0 n1 n2 x0 x1 a0 a1 k0 k1 c0 c1 zs0 zs1 d a w)

structure sameCanalRS (w0 : World) (t0_ t1_ t2_ t3_ t4_ t5_ t6_ t7_ t8_ t9_ t10_ t11_ t12_ t13_ t14_ t15_ t16_ t17_ t18_ t19_ t20_ t21_ t22_ t23_ t24_ t25_ t26_ t27_ t28_ t29_ t30_ t31_ t32_ t33_ t34_ t35_ t36_ t37_ t38_ t39_ : Value) (m0 m1 m2 : Nat) (x0 x1 a0 a1 : Option Addr) (k0 k1 c0 c1 : Nat) (ys0 ys1 : List Nat) (d : Array Bool) (a : Act) (w : World) where
  u40 : Value
  u41 : Value
  u42 : Value
  u43 : Value
  u44 : Value
  ea : a = ⟨#[t0_, t1_, t2_, t3_, t4_, t5_, t6_, t7_, t8_, t9_, t10_, t11_, t12_, t13_, t14_, t15_, t16_, t17_, t18_, t19_, t20_, t21_, t22_, t23_, t24_, t25_, t26_, t27_, t28_, t29_, t30_, t31_, t32_, t33_, t34_, t35_, t36_, t37_, t38_, t39_, u40, u41, u42, u43, u44], []⟩
  f0 : Gd d 0 (u40 = .agg #[.float .f32 m0, .float .f32 m1, .float .f32 m2, .slice x0 ys0.length k0, .slice x1 ys1.length k1])
  f1 : Gd d 1 (u41 = .agg #[.float .f32 m0, .float .f32 m1, .float .f32 m2, .slice a0 ys0.length c0, .slice a1 ys1.length c1])
  f2 : Gd d 2 (∃ e0 e1 q0 q1, u42 = .agg #[.float .f32 m0, .float .f32 m1, .float .f32 m2, .slice e0 ys0.length q0, .slice e1 ys1.length q1] ∧ RowF .f32 w e0 ys0 ∧ RowF .f32 w e1 ys1)
  f3 : Gd d 3 (u43 = .bool true)
  f4 : Gd d 4 (u44 = .bool false)
  hbel : Below w0.heap.size w0 w
def sameCanalR (w0 : World) (t0_ t1_ t2_ t3_ t4_ t5_ t6_ t7_ t8_ t9_ t10_ t11_ t12_ t13_ t14_ t15_ t16_ t17_ t18_ t19_ t20_ t21_ t22_ t23_ t24_ t25_ t26_ t27_ t28_ t29_ t30_ t31_ t32_ t33_ t34_ t35_ t36_ t37_ t38_ t39_ : Value) (m0 m1 m2 : Nat) (x0 x1 a0 a1 : Option Addr) (k0 k1 c0 c1 : Nat) (ys0 ys1 : List Nat) (d : Array Bool) (a : Act) (w : World) : Prop := Nonempty (sameCanalRS w0 t0_ t1_ t2_ t3_ t4_ t5_ t6_ t7_ t8_ t9_ t10_ t11_ t12_ t13_ t14_ t15_ t16_ t17_ t18_ t19_ t20_ t21_ t22_ t23_ t24_ t25_ t26_ t27_ t28_ t29_ t30_ t31_ t32_ t33_ t34_ t35_ t36_ t37_ t38_ t39_ m0 m1 m2 x0 x1 a0 a1 k0 k1 c0 c1 ys0 ys1 d a w)

set_option maxHeartbeats 8000000 in
theorem sameCanalLaw_fits (n0 n1 n2 m0 m1 m2 : Nat) (a0 a1 b0 b1 : Option Addr) (c0 c1 d0 d1 : Nat) (zs0 zs1 ys0 ys1 : List Nat) (w : World) (hn0 : n0 < 4294967296) (hn1 : n1 < 4294967296) (hn2 : n2 < 4294967296) (hm0 : m0 < 4294967296) (hm1 : m1 < 4294967296) (hm2 : m2 < 4294967296) (ra0 : RowF .f32 w a0 zs0) (za0 : ∀ z ∈ zs0, z < 4294967296) (ra1 : RowF .f32 w a1 zs1) (za1 : ∀ z ∈ zs1, z < 4294967296) (rb0 : RowF .f32 w b0 ys0) (zb0 : ∀ z ∈ ys0, z < 4294967296) (rb1 : RowF .f32 w b1 ys1) (zb1 : ∀ z ∈ ys1, z < 4294967296) (hsum : zs0.length + zs1.length + ys0.length + ys1.length ≤ 1048576) :
    Calls Try.prog 10 #[.agg #[.float .f32 n0, .float .f32 n1, .float .f32 n2, .slice a0 zs0.length c0, .slice a1 zs1.length c1], .agg #[.float .f32 m0, .float .f32 m1, .float .f32 m2, .slice b0 ys0.length d0, .slice b1 ys1.length d1]] w fun e w' => e = .returned (.bool true) ∧ Below w.heap.size w w' := by
  have la0 : zs0.length ≤ 1048576 := by omega
  have la1 : zs1.length ≤ 1048576 := by omega
  have lb0 : ys0.length ≤ 1048576 := by omega
  have lb1 : ys1.length ≤ 1048576 := by omega
  obtain ⟨bv, hR⟩ : ∃ bv : Bool, ((bitsI n0 == bitsI m0) && (bitsI n1 == bitsI m1) && (bitsI n2 == bitsI m2) && sameL zs0 ys0 && sameL zs1 ys1) = bv := ⟨_, rfl⟩
  have cS : ∀ (a0 a1 b0 b1 : Option Addr) (c0 c1 d0 d1 : Nat) (W : World), RowF .f32 W a0 zs0 → RowF .f32 W a1 zs1 → RowF .f32 W b0 ys0 → RowF .f32 W b1 ys1 → Calls Try.prog 45 #[.agg #[.float .f32 n0, .float .f32 n1, .float .f32 n2, .slice a0 zs0.length c0, .slice a1 zs1.length c1], .agg #[.float .f32 m0, .float .f32 m1, .float .f32 m2, .slice b0 ys0.length d0, .slice b1 ys1.length d1]] W (fun e w' => e = .returned (.bool bv) ∧ Below W.heap.size W w') := by
    intro a0 a1 b0 b1 c0 c1 d0 d1 W h0 h1 h2 h3
    have := sameCanal_s n0 n1 n2 m0 m1 m2 a0 a1 b0 b1 c0 c1 d0 d1 zs0 zs1 ys0 ys1 W hn0 hn1 hn2 hm0 hm1 hm2 h0 la0 za0 h1 la1 za1 h2 lb0 zb0 h3 lb1 zb1
    rw [hR] at this
    exact this
  have cI : ∀ (a0 a1 b0 b1 : Option Addr) (c0 c1 d0 d1 : Nat) (W : World), RowF .f32 W a0 zs0 → RowF .f32 W a1 zs1 → RowF .f32 W b0 ys0 → RowF .f32 W b1 ys1 → Calls Try.prog 46 #[.agg #[.float .f32 n0, .float .f32 n1, .float .f32 n2, .slice a0 zs0.length c0, .slice a1 zs1.length c1], .agg #[.float .f32 m0, .float .f32 m1, .float .f32 m2, .slice b0 ys0.length d0, .slice b1 ys1.length d1]] W (fun e w' => e = .returned (.bool bv) ∧ Below W.heap.size W w') := by
    intro a0 a1 b0 b1 c0 c1 d0 d1 W h0 h1 h2 h3
    have := sameCanal_i n0 n1 n2 m0 m1 m2 a0 a1 b0 b1 c0 c1 d0 d1 zs0 zs1 ys0 ys1 W hn0 hn1 hn2 hm0 hm1 hm2 h0 la0 za0 h1 la1 za1 h2 lb0 zb0 h3 lb1 zb1
    rw [hR] at this
    exact this
  have HS := Lib.hid cS
  have HI := Lib.hid cI
  have Ra0 := Lib.hid ra0
  have Ra1 := Lib.hid ra1
  have Rb0 := Lib.hid rb0
  have Rb1 := Lib.hid rb1
  clear cS cI hR ra0 ra1 rb0 rb1 za0 za1 zb0 zb1
  have hsz1 : ¬ (1048576 : Int) - (zs0.length : Int) - (zs1.length : Int) < 0 := by omega
  have hsz2 : ¬ (1048576 : Int) - (zs0.length : Int) - (zs1.length : Int) - (ys0.length : Int) - (ys1.length : Int) < 0 := by omega
  have HA0 : Hid (Bx ((w.alloc (.cells #[.float .f32 n0, .float .f32 n1, .float .f32 n2, .slice a0 zs0.length c0, .slice a1 zs1.length c1] 42)).alloc (.cells #[.float .f32 m0, .float .f32 m1, .float .f32 m2, .slice b0 ys0.length d0, .slice b1 ys1.length d1] 42)) w.heap.size [.float .f32 n0, .float .f32 n1, .float .f32 n2, .slice a0 zs0.length c0, .slice a1 zs1.length c1]) := Lib.hid ((Bx.new w [.float .f32 n0, .float .f32 n1, .float .f32 n2, .slice a0 zs0.length c0, .slice a1 zs1.length c1] _).alloc _)
  have hb0 := Bx.new (w.alloc (.cells #[.float .f32 n0, .float .f32 n1, .float .f32 n2, .slice a0 zs0.length c0, .slice a1 zs1.length c1] 42)) [.float .f32 m0, .float .f32 m1, .float .f32 m2, .slice b0 ys0.length d0, .slice b1 ys1.length d1] 42
  have he0 : (w.alloc (.cells #[.float .f32 n0, .float .f32 n1, .float .f32 n2, .slice a0 zs0.length c0, .slice a1 zs1.length c1] 42)).heap.size = w.heap.size + 1 := by simp
  rw [he0] at hb0
  have HB0 : Hid (Bx ((w.alloc (.cells #[.float .f32 n0, .float .f32 n1, .float .f32 n2, .slice a0 zs0.length c0, .slice a1 zs1.length c1] 42)).alloc (.cells #[.float .f32 m0, .float .f32 m1, .float .f32 m2, .slice b0 ys0.length d0, .slice b1 ys1.length d1] 42)) (w.heap.size + 1) [.float .f32 m0, .float .f32 m1, .float .f32 m2, .slice b0 ys0.length d0, .slice b1 ys1.length d1]) := Lib.hid hb0
  have HW0 := Lib.hid (bel2 w (.cells #[.float .f32 n0, .float .f32 n1, .float .f32 n2, .slice a0 zs0.length c0, .slice a1 zs1.length c1] 42) (.cells #[.float .f32 m0, .float .f32 m1, .float .f32 m2, .slice b0 ys0.length d0, .slice b1 ys1.length d1] 42))
  clear hb0 he0
  go_enter Try.func10, Try.ntmps10
  go_wp2_with fail
  refine (szCanal_fits n0 n1 n2 a0 a1 zs0.length zs1.length c0 c1 _ (by omega) (by omega) _).mono ?_
  rintro e w1 ⟨rfl, hb⟩
  have hw : Below ((w.alloc (.cells #[.float .f32 n0, .float .f32 n1, .float .f32 n2, .slice a0 zs0.length c0, .slice a1 zs1.length c1] 42)).alloc (.cells #[.float .f32 m0, .float .f32 m1, .float .f32 m2, .slice b0 ys0.length d0, .slice b1 ys1.length d1] 42)).heap.size ((w.alloc (.cells #[.float .f32 n0, .float .f32 n1, .float .f32 n2, .slice a0 zs0.length c0, .slice a1 zs1.length c1] 42)).alloc (.cells #[.float .f32 m0, .float .f32 m1, .float .f32 m2, .slice b0 ys0.length d0, .slice b1 ys1.length d1] 42)) w1 := hb
  have hs1 : w.heap.size + 2 ≤ w1.heap.size := (by have := hb.size; simp at this; omega)
  have HW1 : Hid (Below w.heap.size w w1) := Lib.hid (HW0.out.trans (hb.mono (by simp; omega)))
  have HA1 : Hid (Bx w1 w.heap.size [.float .f32 n0, .float .f32 n1, .float .f32 n2, .slice a0 zs0.length c0, .slice a1 zs1.length c1]) := Lib.hid (HA0.out.below hb HA0.out.1)
  have HB1 : Hid (Bx w1 (w.heap.size + 1) [.float .f32 m0, .float .f32 m1, .float .f32 m2, .slice b0 ys0.length d0, .slice b1 ys1.length d1]) := Lib.hid (HB0.out.below hb HB0.out.1)
  clear hw hb
  have ka0 := HA1.out.c 0 rfl
  have ka1 := HA1.out.c 1 rfl
  have ka2 := HA1.out.c 2 rfl
  have ka3 := HA1.out.c 3 rfl
  have ka4 := HA1.out.c 4 rfl
  have kb0 := HB1.out.c 0 rfl
  have kb1 := HB1.out.c 1 rfl
  have kb2 := HB1.out.c 2 rfl
  have kb3 := HB1.out.c 3 rfl
  have kb4 := HB1.out.c 4 rfl
  go_wp2_with fail
  refine (szCanal_fits m0 m1 m2 b0 b1 ys0.length ys1.length d0 d1 _ (by omega) (by omega) _).mono ?_
  rintro e w2 ⟨rfl, hb⟩
  clear ka0 kb0 ka1 kb1 ka2 kb2 ka3 kb3 ka4 kb4
  have hw : Below w1.heap.size w1 w2 := hb
  have hs2 : w1.heap.size ≤ w2.heap.size := hw.size
  have HW2 : Hid (Below w.heap.size w w2) := Lib.hid (HW1.out.trans (hw.mono HW1.out.size))
  have HA2 : Hid (Bx w2 w.heap.size [.float .f32 n0, .float .f32 n1, .float .f32 n2, .slice a0 zs0.length c0, .slice a1 zs1.length c1]) := Lib.hid (HA1.out.below hw HA1.out.1)
  have HB2 : Hid (Bx w2 (w.heap.size + 1) [.float .f32 m0, .float .f32 m1, .float .f32 m2, .slice b0 ys0.length d0, .slice b1 ys1.length d1]) := Lib.hid (HB1.out.below hw HB1.out.1)
  clear hw hb
  have ka0 := HA2.out.c 0 rfl
  have ka1 := HA2.out.c 1 rfl
  have ka2 := HA2.out.c 2 rfl
  have ka3 := HA2.out.c 3 rfl
  have ka4 := HA2.out.c 4 rfl
  have kb0 := HB2.out.c 0 rfl
  have kb1 := HB2.out.c 1 rfl
  have kb2 := HB2.out.c 2 rfl
  have kb3 := HB2.out.c 3 rfl
  have kb4 := HB2.out.c 4 rfl
  go_wp2_with fail
  refine wp_region_inv (id := 8) (sameCanalP w2 _ _ _ _ _ _ _ _ _ _ _ _ _ _ _ _ _ _ _ _ _ _ _ _ _ _ _ _ _ _ _ _ _ _ _ _ _ _ _ n0 n1 n2 m0 m1 m2 a0 a1 b0 b1 c0 c1 d0 d1 zs0 zs1 ys0 ys1 bv) (by kernel_rfl) (by kernel_rfl) ⟨⟨_, _, _, _, _, _, rfl, sameCanal_gs, sameCanal_gs, sameCanal_gs, sameCanal_gs, sameCanal_gs, sameCanal_gs, beld (Below.refl _ _) 1⟩⟩ ?hend ?hsteps
  rotate_left
  case hsteps =>
    refine sameCanal_sc 1 rfl ?_ ?_
    · intro d a w9 hsz hcl hinv hd hdep
      obtain ⟨⟨u6, u20, u21, u22, u23, u24, rfl, f0, f1, f2, f3, f4, f5, hbel⟩⟩ := hinv
      have bx := HA2.out.below hbel HA2.out.1
      have k0_ := bx.c 0 rfl
      have k1_ := bx.c 1 rfl
      have k2_ := bx.c 2 rfl
      have k3_ := bx.c 3 rfl
      have k4_ := bx.c 4 rfl
      go_wp2_with fail
      exact ⟨⟨u6, (.agg #[.float .f32 n0, .float .f32 n1, .float .f32 n2, .slice a0 zs0.length c0, .slice a1 zs1.length c1]), u21, u22, u23, u24, rfl, Gd.new rfl, (f1.keep (i := 0) (by decide)), (f2.keep (i := 0) (by decide)), (f3.keep (i := 0) (by decide)), (f4.keep (i := 0) (by decide)), (f5.keep (i := 0) (by decide)), hbel⟩⟩
    refine sameCanal_sc 2 rfl ?_ ?_
    · intro d a w9 hsz hcl hinv hd hdep
      obtain ⟨⟨u6, u20, u21, u22, u23, u24, rfl, f0, f1, f2, f3, f4, f5, hbel⟩⟩ := hinv
      have ei := f0 (hdep.get 0 rfl)
      subst ei
      have n4 := hcl.not hd 4 _ rfl rfl
      have n5 := hcl.not n4 5 _ rfl rfl
      go_wp2_with fail
      refine (toCanal_any n0 n1 n2 a0 a1 c0 c1 zs0 zs1 _ (Ra0.out.below (HW2.out.trans (hbel.mono HW2.out.size)) (Nat.le_refl _)) la0 (Ra1.out.below (HW2.out.trans (hbel.mono HW2.out.size)) (Nat.le_refl _)) la1).mono ?_
      rintro e wc ⟨g0, q0, g1, q1, mq, rfl, hb, hf0, hf1, hm1q, hm2q⟩
      have Hf0 := Lib.hid hf0.row
      have Hf1 := Lib.hid hf1.row
      have Hb := Lib.hid hb
      clear hf0 hf1 hb
      go_wp2_with fail
      exact ⟨⟨u6, (.agg #[.float .f32 n0, .float .f32 n1, .float .f32 n2, .slice a0 zs0.length c0, .slice a1 zs1.length c1]), (.agg #[.float .f32 n0, .float .f32 n1, .float .f32 n2, .slice g0 zs0.length q0, .slice g1 zs1.length q1]), u22, u23, u24, rfl, Gd.new rfl, Gd.new ⟨g0, g1, q0, q1, rfl, Hf0.out, Hf1.out⟩, (f2.keep (i := 1) (by decide)), ((f3.imp fun h => by obtain ⟨g0, g1, q0, q1, e9, h0, h1⟩ := h; exact ⟨g0, g1, q0, q1, e9, h0.below Hb.out (Nat.le_refl _), h1.below Hb.out (Nat.le_refl _)⟩).keep (i := 1) (by decide)), (sameCanal_gu (i := 1) n4 (by decide)), (sameCanal_gu (i := 1) n5 (by decide)), hbel.trans (Hb.out.mono hbel.size)⟩⟩
    refine sameCanal_sc 3 rfl ?_ ?_
    · intro d a w9 hsz hcl hinv hd hdep
      obtain ⟨⟨u6, u20, u21, u22, u23, u24, rfl, f0, f1, f2, f3, f4, f5, hbel⟩⟩ := hinv
      have bx := HB2.out.below hbel HB2.out.1
      have k0_ := bx.c 0 rfl
      have k1_ := bx.c 1 rfl
      have k2_ := bx.c 2 rfl
      have k3_ := bx.c 3 rfl
      have k4_ := bx.c 4 rfl
      go_wp2_with fail
      exact ⟨⟨u6, u20, u21, (.agg #[.float .f32 m0, .float .f32 m1, .float .f32 m2, .slice b0 ys0.length d0, .slice b1 ys1.length d1]), u23, u24, rfl, (f0.keep (i := 2) (by decide)), (f1.keep (i := 2) (by decide)), Gd.new rfl, (f3.keep (i := 2) (by decide)), (f4.keep (i := 2) (by decide)), (f5.keep (i := 2) (by decide)), hbel⟩⟩
    refine sameCanal_sc 4 rfl ?_ ?_
    · intro d a w9 hsz hcl hinv hd hdep
      obtain ⟨⟨u6, u20, u21, u22, u23, u24, rfl, f0, f1, f2, f3, f4, f5, hbel⟩⟩ := hinv
      have ei := f2 (hdep.get 2 rfl)
      subst ei
      have n4 := hcl.not hd 4 _ rfl rfl
      have n5 := hcl.not n4 5 _ rfl rfl
      go_wp2_with fail
      refine (toCanal_any m0 m1 m2 b0 b1 d0 d1 ys0 ys1 _ (Rb0.out.below (HW2.out.trans (hbel.mono HW2.out.size)) (Nat.le_refl _)) lb0 (Rb1.out.below (HW2.out.trans (hbel.mono HW2.out.size)) (Nat.le_refl _)) lb1).mono ?_
      rintro e wc ⟨g0, q0, g1, q1, mq, rfl, hb, hf0, hf1, hm1q, hm2q⟩
      have Hf0 := Lib.hid hf0.row
      have Hf1 := Lib.hid hf1.row
      have Hb := Lib.hid hb
      clear hf0 hf1 hb
      go_wp2_with fail
      exact ⟨⟨u6, u20, u21, (.agg #[.float .f32 m0, .float .f32 m1, .float .f32 m2, .slice b0 ys0.length d0, .slice b1 ys1.length d1]), (.agg #[.float .f32 m0, .float .f32 m1, .float .f32 m2, .slice g0 ys0.length q0, .slice g1 ys1.length q1]), u24, rfl, (f0.keep (i := 3) (by decide)), ((f1.imp fun h => by obtain ⟨g0, g1, q0, q1, e9, h0, h1⟩ := h; exact ⟨g0, g1, q0, q1, e9, h0.below Hb.out (Nat.le_refl _), h1.below Hb.out (Nat.le_refl _)⟩).keep (i := 3) (by decide)), Gd.new rfl, Gd.new ⟨g0, g1, q0, q1, rfl, Hf0.out, Hf1.out⟩, (sameCanal_gu (i := 3) n4 (by decide)), (sameCanal_gu (i := 3) n5 (by decide)), hbel.trans (Hb.out.mono hbel.size)⟩⟩
    refine sameCanal_sc 5 rfl ?_ ?_
    · intro d a w9 hsz hcl hinv hd hdep
      obtain ⟨⟨u6, u20, u21, u22, u23, u24, rfl, f0, f1, f2, f3, f4, f5, hbel⟩⟩ := hinv
      obtain ⟨g0, g1, q0, q1, e1, h0, h1⟩ := f1 (hdep.get 1 rfl)
      subst e1
      obtain ⟨g2, g3, q2, q3, e3, h2, h3⟩ := f3 (hdep.get 3 rfl)
      subst e3
      have G0 := Lib.hid h0
      have G1 := Lib.hid h1
      have G2 := Lib.hid h2
      have G3 := Lib.hid h3
      clear h0 h1 h2 h3
      have n5 := hcl.not hd 5 _ rfl rfl
      go_wp2_with fail
      refine (HS.out g0 g1 g2 g3 q0 q1 q2 q3 _ G0.out G1.out G2.out G3.out).mono ?_
      rintro e wc ⟨rfl, hb⟩
      have Hb := Lib.hid hb
      clear hb
      go_wp2_with fail
      exact ⟨⟨u6, u20, (.agg #[.float .f32 n0, .float .f32 n1, .float .f32 n2, .slice g0 zs0.length q0, .slice g1 zs1.length q1]), u22, (.agg #[.float .f32 m0, .float .f32 m1, .float .f32 m2, .slice g2 ys0.length q2, .slice g3 ys1.length q3]), (.bool bv), rfl, (f0.keep (i := 4) (by decide)), Gd.new ⟨g0, g1, q0, q1, rfl, G0.out.below Hb.out (Nat.le_refl _), G1.out.below Hb.out (Nat.le_refl _)⟩, (f2.keep (i := 4) (by decide)), Gd.new ⟨g2, g3, q2, q3, rfl, G2.out.below Hb.out (Nat.le_refl _), G3.out.below Hb.out (Nat.le_refl _)⟩, Gd.new rfl, (sameCanal_gu (i := 4) n5 (by decide)), hbel.trans (Hb.out.mono hbel.size)⟩⟩
    refine sameCanal_sc 6 rfl ?_ trivial
    · intro d a w9 hsz hcl hinv hd hdep
      obtain ⟨⟨u6, u20, u21, u22, u23, u24, rfl, f0, f1, f2, f3, f4, f5, hbel⟩⟩ := hinv
      have e4 := f4 (hdep.get 4 rfl)
      subst e4
      go_wp2_with fail
      exact ⟨⟨(.bool bv), u20, u21, u22, u23, (.bool bv), rfl, (f0.keep (i := 5) (by decide)), (f1.keep (i := 5) (by decide)), (f2.keep (i := 5) (by decide)), (f3.keep (i := 5) (by decide)), Gd.new rfl, Gd.new rfl, hbel⟩⟩
  intro d a w3 hinv hall
  obtain ⟨⟨u6, u20, u21, u22, u23, u24, rfl, f0, f1, f2, f3, f4, f5, hbel⟩⟩ := hinv
  have e5 := f5 (hall 5 (by decide))
  subst e5
  have hs3 : w2.heap.size ≤ w3.heap.size := hbel.size
  have HW3 := Lib.hid (HW2.out.trans (hbel.mono HW2.out.size))
  have HA3 : Hid (Bx w3 w.heap.size [.float .f32 n0, .float .f32 n1, .float .f32 n2, .slice a0 zs0.length c0, .slice a1 zs1.length c1]) := Lib.hid (HA2.out.below hbel HA2.out.1)
  have HB3 : Hid (Bx w3 (w.heap.size + 1) [.float .f32 m0, .float .f32 m1, .float .f32 m2, .slice b0 ys0.length d0, .slice b1 ys1.length d1]) := Lib.hid (HB2.out.below hbel HB2.out.1)
  clear f0 f1 f2 f3 f4 f5 hbel ka0 kb0 ka1 kb1 ka2 kb2 ka3 kb3 ka4 kb4
  have ka0 := HA3.out.c 0 rfl
  have ka1 := HA3.out.c 1 rfl
  have ka2 := HA3.out.c 2 rfl
  have ka3 := HA3.out.c 3 rfl
  have ka4 := HA3.out.c 4 rfl
  have kb0 := HB3.out.c 0 rfl
  have kb1 := HB3.out.c 1 rfl
  have kb2 := HB3.out.c 2 rfl
  have kb3 := HB3.out.c 3 rfl
  have kb4 := HB3.out.c 4 rfl
  go_wp2_with fail
  refine (toCanal_any n0 n1 n2 a0 a1 c0 c1 zs0 zs1 _ (Ra0.out.below HW3.out (Nat.le_refl _)) la0 (Ra1.out.below HW3.out (Nat.le_refl _)) la1).mono ?_
  rintro e w4 ⟨x0, k0, x1, k1, mid1, rfl, hb, hf0, hf1, hmi1, hmi2⟩
  clear ka0 kb0 ka1 kb1 ka2 kb2 ka3 kb3 ka4 kb4
  have hw : Below w3.heap.size w3 w4 := hb
  have hs4 : w3.heap.size ≤ w4.heap.size := hw.size
  have HW4 : Hid (Below w.heap.size w w4) := Lib.hid (HW3.out.trans (hw.mono HW3.out.size))
  have HA4 : Hid (Bx w4 w.heap.size [.float .f32 n0, .float .f32 n1, .float .f32 n2, .slice a0 zs0.length c0, .slice a1 zs1.length c1]) := Lib.hid (HA3.out.below hw HA3.out.1)
  have HB4 : Hid (Bx w4 (w.heap.size + 1) [.float .f32 m0, .float .f32 m1, .float .f32 m2, .slice b0 ys0.length d0, .slice b1 ys1.length d1]) := Lib.hid (HB3.out.below hw HB3.out.1)
  have X0 := Lib.hid (hf0.row.below (bel1 w4 (.cells #[.float .f32 n0, .float .f32 n1, .float .f32 n2, .slice x0 zs0.length k0, .slice x1 zs1.length k1] 36)) (Nat.le_refl _))
  have X1 := Lib.hid (hf1.row.below (bel1 w4 (.cells #[.float .f32 n0, .float .f32 n1, .float .f32 n2, .slice x0 zs0.length k0, .slice x1 zs1.length k1] 36)) (Nat.le_refl _))
  have HX := Lib.hid (Bx.new w4 [.float .f32 n0, .float .f32 n1, .float .f32 n2, .slice x0 zs0.length k0, .slice x1 zs1.length k1] 36)
  clear hf0 hf1
  clear hw hb
  have ka0 := HA4.out.c 0 rfl
  have ka1 := HA4.out.c 1 rfl
  have ka2 := HA4.out.c 2 rfl
  have ka3 := HA4.out.c 3 rfl
  have ka4 := HA4.out.c 4 rfl
  have kb0 := HB4.out.c 0 rfl
  have kb1 := HB4.out.c 1 rfl
  have kb2 := HB4.out.c 2 rfl
  have kb3 := HB4.out.c 3 rfl
  have kb4 := HB4.out.c 4 rfl
  have la0_ : (w4.alloc (.cells #[.float .f32 n0, .float .f32 n1, .float .f32 n2, .slice x0 zs0.length k0, .slice x1 zs1.length k1] 36)).cell? ⟨w.heap.size, 0, none⟩ = _ := (HA4.out.alloc _).c 0 rfl
  have la1_ : (w4.alloc (.cells #[.float .f32 n0, .float .f32 n1, .float .f32 n2, .slice x0 zs0.length k0, .slice x1 zs1.length k1] 36)).cell? ⟨w.heap.size, 1, none⟩ = _ := (HA4.out.alloc _).c 1 rfl
  have la2_ : (w4.alloc (.cells #[.float .f32 n0, .float .f32 n1, .float .f32 n2, .slice x0 zs0.length k0, .slice x1 zs1.length k1] 36)).cell? ⟨w.heap.size, 2, none⟩ = _ := (HA4.out.alloc _).c 2 rfl
  have la3_ : (w4.alloc (.cells #[.float .f32 n0, .float .f32 n1, .float .f32 n2, .slice x0 zs0.length k0, .slice x1 zs1.length k1] 36)).cell? ⟨w.heap.size, 3, none⟩ = _ := (HA4.out.alloc _).c 3 rfl
  have la4_ : (w4.alloc (.cells #[.float .f32 n0, .float .f32 n1, .float .f32 n2, .slice x0 zs0.length k0, .slice x1 zs1.length k1] 36)).cell? ⟨w.heap.size, 4, none⟩ = _ := (HA4.out.alloc _).c 4 rfl
  have lb0_ : (w4.alloc (.cells #[.float .f32 n0, .float .f32 n1, .float .f32 n2, .slice x0 zs0.length k0, .slice x1 zs1.length k1] 36)).cell? ⟨w.heap.size + 1, 0, none⟩ = _ := (HB4.out.alloc _).c 0 rfl
  have lb1_ : (w4.alloc (.cells #[.float .f32 n0, .float .f32 n1, .float .f32 n2, .slice x0 zs0.length k0, .slice x1 zs1.length k1] 36)).cell? ⟨w.heap.size + 1, 1, none⟩ = _ := (HB4.out.alloc _).c 1 rfl
  have lb2_ : (w4.alloc (.cells #[.float .f32 n0, .float .f32 n1, .float .f32 n2, .slice x0 zs0.length k0, .slice x1 zs1.length k1] 36)).cell? ⟨w.heap.size + 1, 2, none⟩ = _ := (HB4.out.alloc _).c 2 rfl
  have lb3_ : (w4.alloc (.cells #[.float .f32 n0, .float .f32 n1, .float .f32 n2, .slice x0 zs0.length k0, .slice x1 zs1.length k1] 36)).cell? ⟨w.heap.size + 1, 3, none⟩ = _ := (HB4.out.alloc _).c 3 rfl
  have lb4_ : (w4.alloc (.cells #[.float .f32 n0, .float .f32 n1, .float .f32 n2, .slice x0 zs0.length k0, .slice x1 zs1.length k1] 36)).cell? ⟨w.heap.size + 1, 4, none⟩ = _ := (HB4.out.alloc _).c 4 rfl
  go_wp2_with fail
  refine (toCanal_any m0 m1 m2 b0 b1 d0 d1 ys0 ys1 _ ((Rb0.out.below HW4.out (Nat.le_refl _)).below (bel1 _ _) (Nat.le_refl _)) lb0 ((Rb1.out.below HW4.out (Nat.le_refl _)).below (bel1 _ _) (Nat.le_refl _)) lb1).mono ?_
  rintro e w5 ⟨y0, j0, y1, j1, mid2, rfl, hb, hf0, hf1, hmi3, hmi4⟩
  clear ka0 kb0 ka1 kb1 ka2 kb2 ka3 kb3 ka4 kb4
  have hw : Below w4.heap.size w4 w5 := (bel1 w4 _).trans (hb.mono (by simp))
  have hs5 : w4.heap.size ≤ w5.heap.size := hw.size
  have HW5 : Hid (Below w.heap.size w w5) := Lib.hid (HW4.out.trans (hw.mono HW4.out.size))
  have HA5 : Hid (Bx w5 w.heap.size [.float .f32 n0, .float .f32 n1, .float .f32 n2, .slice a0 zs0.length c0, .slice a1 zs1.length c1]) := Lib.hid (HA4.out.below hw HA4.out.1)
  have HB5 : Hid (Bx w5 (w.heap.size + 1) [.float .f32 m0, .float .f32 m1, .float .f32 m2, .slice b0 ys0.length d0, .slice b1 ys1.length d1]) := Lib.hid (HB4.out.below hw HB4.out.1)
  have X0' := Lib.hid (X0.out.below hb (Nat.le_refl _))
  have X1' := Lib.hid (X1.out.below hb (Nat.le_refl _))
  have HX5 : Hid (Bx w5 w4.heap.size [.float .f32 n0, .float .f32 n1, .float .f32 n2, .slice x0 zs0.length k0, .slice x1 zs1.length k1]) := Lib.hid (HX.out.below hb HX.out.1)
  have Y0 := Lib.hid (hf0.row.below (bel1 w5 (.cells #[.float .f32 m0, .float .f32 m1, .float .f32 m2, .slice y0 ys0.length j0, .slice y1 ys1.length j1] 36)) (Nat.le_refl _))
  have Y1 := Lib.hid (hf1.row.below (bel1 w5 (.cells #[.float .f32 m0, .float .f32 m1, .float .f32 m2, .slice y0 ys0.length j0, .slice y1 ys1.length j1] 36)) (Nat.le_refl _))
  have HY := Lib.hid (Bx.new w5 [.float .f32 m0, .float .f32 m1, .float .f32 m2, .slice y0 ys0.length j0, .slice y1 ys1.length j1] 36)
  clear hf0 hf1 X0 X1 HX la0_ lb0_ la1_ lb1_ la2_ lb2_ la3_ lb3_ la4_ lb4_
  clear hw hb
  have ka0 := HA5.out.c 0 rfl
  have ka1 := HA5.out.c 1 rfl
  have ka2 := HA5.out.c 2 rfl
  have ka3 := HA5.out.c 3 rfl
  have ka4 := HA5.out.c 4 rfl
  have kb0 := HB5.out.c 0 rfl
  have kb1 := HB5.out.c 1 rfl
  have kb2 := HB5.out.c 2 rfl
  have kb3 := HB5.out.c 3 rfl
  have kb4 := HB5.out.c 4 rfl
  have ly0_ := (Bx.new w5 [.float .f32 m0, .float .f32 m1, .float .f32 m2, .slice y0 ys0.length j0, .slice y1 ys1.length j1] 36).c 0 rfl
  have ly1_ := (Bx.new w5 [.float .f32 m0, .float .f32 m1, .float .f32 m2, .slice y0 ys0.length j0, .slice y1 ys1.length j1] 36).c 1 rfl
  have ly2_ := (Bx.new w5 [.float .f32 m0, .float .f32 m1, .float .f32 m2, .slice y0 ys0.length j0, .slice y1 ys1.length j1] 36).c 2 rfl
  have ly3_ := (Bx.new w5 [.float .f32 m0, .float .f32 m1, .float .f32 m2, .slice y0 ys0.length j0, .slice y1 ys1.length j1] 36).c 3 rfl
  have ly4_ := (Bx.new w5 [.float .f32 m0, .float .f32 m1, .float .f32 m2, .slice y0 ys0.length j0, .slice y1 ys1.length j1] 36).c 4 rfl
  have lx0_ : (w5.alloc (.cells #[.float .f32 m0, .float .f32 m1, .float .f32 m2, .slice y0 ys0.length j0, .slice y1 ys1.length j1] 36)).cell? ⟨w4.heap.size, 0, none⟩ = _ := (HX5.out.alloc _).c 0 rfl
  have lx1_ : (w5.alloc (.cells #[.float .f32 m0, .float .f32 m1, .float .f32 m2, .slice y0 ys0.length j0, .slice y1 ys1.length j1] 36)).cell? ⟨w4.heap.size, 1, none⟩ = _ := (HX5.out.alloc _).c 1 rfl
  have lx2_ : (w5.alloc (.cells #[.float .f32 m0, .float .f32 m1, .float .f32 m2, .slice y0 ys0.length j0, .slice y1 ys1.length j1] 36)).cell? ⟨w4.heap.size, 2, none⟩ = _ := (HX5.out.alloc _).c 2 rfl
  have lx3_ : (w5.alloc (.cells #[.float .f32 m0, .float .f32 m1, .float .f32 m2, .slice y0 ys0.length j0, .slice y1 ys1.length j1] 36)).cell? ⟨w4.heap.size, 3, none⟩ = _ := (HX5.out.alloc _).c 3 rfl
  have lx4_ : (w5.alloc (.cells #[.float .f32 m0, .float .f32 m1, .float .f32 m2, .slice y0 ys0.length j0, .slice y1 ys1.length j1] 36)).cell? ⟨w4.heap.size, 4, none⟩ = _ := (HX5.out.alloc _).c 4 rfl
  go_wp2_with fail
  refine (HI.out x0 x1 y0 y1 k0 k1 j0 j1 _ (X0'.out.below (bel1 _ _) (Nat.le_refl _)) (X1'.out.below (bel1 _ _) (Nat.le_refl _)) Y0.out Y1.out).mono ?_
  rintro e w6 ⟨rfl, hb⟩
  clear ka0 kb0 ka1 kb1 ka2 kb2 ka3 kb3 ka4 kb4
  have hw : Below w5.heap.size w5 w6 := (bel1 w5 _).trans (hb.mono (by simp))
  have hs6 : w5.heap.size ≤ w6.heap.size := hw.size
  have HW6 : Hid (Below w.heap.size w w6) := Lib.hid (HW5.out.trans (hw.mono HW5.out.size))
  have HA6 : Hid (Bx w6 w.heap.size [.float .f32 n0, .float .f32 n1, .float .f32 n2, .slice a0 zs0.length c0, .slice a1 zs1.length c1]) := Lib.hid (HA5.out.below hw HA5.out.1)
  have HB6 : Hid (Bx w6 (w.heap.size + 1) [.float .f32 m0, .float .f32 m1, .float .f32 m2, .slice b0 ys0.length d0, .slice b1 ys1.length d1]) := Lib.hid (HB5.out.below hw HB5.out.1)
  have HX6 : Hid (Bx w6 w4.heap.size [.float .f32 n0, .float .f32 n1, .float .f32 n2, .slice x0 zs0.length k0, .slice x1 zs1.length k1]) := Lib.hid (HX5.out.below ((bel1 w5 _).trans (hb.mono (by simp))) HX5.out.1)
  have HY6 : Hid (Bx w6 w5.heap.size [.float .f32 m0, .float .f32 m1, .float .f32 m2, .slice y0 ys0.length j0, .slice y1 ys1.length j1]) := Lib.hid (HY.out.below hb HY.out.1)
  have P0 := Lib.hid (X0'.out.below ((bel1 w5 _).trans (hb.mono (by simp))) (Nat.le_refl _))
  have P1 := Lib.hid (X1'.out.below ((bel1 w5 _).trans (hb.mono (by simp))) (Nat.le_refl _))
  have Q0 := Lib.hid (Y0.out.below hb (Nat.le_refl _))
  have Q1 := Lib.hid (Y1.out.below hb (Nat.le_refl _))
  clear X0' X1' HX5 Y0 Y1 HY ly0_ lx0_ ly1_ lx1_ ly2_ lx2_ ly3_ lx3_ ly4_ lx4_
  clear hw hb
  have ka0 := HA6.out.c 0 rfl
  have ka1 := HA6.out.c 1 rfl
  have ka2 := HA6.out.c 2 rfl
  have ka3 := HA6.out.c 3 rfl
  have ka4 := HA6.out.c 4 rfl
  have kb0 := HB6.out.c 0 rfl
  have kb1 := HB6.out.c 1 rfl
  have kb2 := HB6.out.c 2 rfl
  have kb3 := HB6.out.c 3 rfl
  have kb4 := HB6.out.c 4 rfl
  clear ka0 kb0 ka1 kb1 ka2 kb2 ka3 kb3 ka4 kb4
  go_wp2_with fail
  refine wp_region_inv (id := 14) (sameCanalQ w6 _ _ _ _ _ _ _ _ _ _ _ _ _ _ _ _ _ _ _ _ _ _ _ _ _ _ _ _ _ _ _ _ _ _ _ _ _ _ _ _ n0 n1 n2 x0 x1 a0 a1 k0 k1 c0 c1 zs0 zs1) (by kernel_rfl) (by kernel_rfl) ⟨⟨_, _, _, _, _, rfl, sameCanal_gs, sameCanal_gs, sameCanal_gs, sameCanal_gs, sameCanal_gs, beld (Below.refl _ _) 1⟩⟩ ?hendsameCanalQ ?hstepssameCanalQ
  rotate_left
  case hstepssameCanalQ =>
    refine sameCanal_sc 1 rfl ?_ ?_
    · intro d a w9 hsz hcl hinv hd hdep
      obtain ⟨⟨u35, u36, u37, u38, u39, rfl, f0, f1, f2, f3, f4, hbel⟩⟩ := hinv
      have bx := HX6.out.below hbel HX6.out.1
      have k0_ := bx.c 0 rfl
      have k1_ := bx.c 1 rfl
      have k2_ := bx.c 2 rfl
      have k3_ := bx.c 3 rfl
      have k4_ := bx.c 4 rfl
      go_wp2_with fail
      exact ⟨⟨(.agg #[.float .f32 n0, .float .f32 n1, .float .f32 n2, .slice x0 zs0.length k0, .slice x1 zs1.length k1]), u36, u37, u38, u39, rfl, (Gd.new rfl), (f1.keep (i := 0) (by decide)), (f2.keep (i := 0) (by decide)), (f3.keep (i := 0) (by decide)), (f4.keep (i := 0) (by decide)), hbel⟩⟩
    refine sameCanal_sc 2 rfl ?_ ?_
    · intro d a w9 hsz hcl hinv hd hdep
      obtain ⟨⟨u35, u36, u37, u38, u39, rfl, f0, f1, f2, f3, f4, hbel⟩⟩ := hinv
      have bx := HA6.out.below hbel HA6.out.1
      have k0_ := bx.c 0 rfl
      have k1_ := bx.c 1 rfl
      have k2_ := bx.c 2 rfl
      have k3_ := bx.c 3 rfl
      have k4_ := bx.c 4 rfl
      go_wp2_with fail
      exact ⟨⟨u35, (.agg #[.float .f32 n0, .float .f32 n1, .float .f32 n2, .slice a0 zs0.length c0, .slice a1 zs1.length c1]), u37, u38, u39, rfl, (f0.keep (i := 1) (by decide)), (Gd.new rfl), (f2.keep (i := 1) (by decide)), (f3.keep (i := 1) (by decide)), (f4.keep (i := 1) (by decide)), hbel⟩⟩
    refine sameCanal_sc 3 rfl ?_ ?_
    · intro d a w9 hsz hcl hinv hd hdep
      obtain ⟨⟨u35, u36, u37, u38, u39, rfl, f0, f1, f2, f3, f4, hbel⟩⟩ := hinv
      have e1 := f1 (hdep.get 1 rfl)
      subst e1
      have n3 := hcl.not hd 3 _ rfl rfl
      have n4 := hcl.not n3 4 _ rfl rfl
      go_wp2_with fail
      refine (toCanal_any n0 n1 n2 a0 a1 c0 c1 zs0 zs1 _ (Ra0.out.below (HW6.out.trans (hbel.mono HW6.out.size)) (Nat.le_refl _)) la0 (Ra1.out.below (HW6.out.trans (hbel.mono HW6.out.size)) (Nat.le_refl _)) la1).mono ?_
      rintro e wc ⟨g0, q0, g1, q1, mq, rfl, hb, hf0, hf1, hm1q, hm2q⟩
      have Hf0 := Lib.hid hf0.row
      have Hf1 := Lib.hid hf1.row
      have Hb := Lib.hid hb
      clear hf0 hf1 hb
      go_wp2_with fail
      exact ⟨⟨u35, (.agg #[.float .f32 n0, .float .f32 n1, .float .f32 n2, .slice a0 zs0.length c0, .slice a1 zs1.length c1]), (.agg #[.float .f32 n0, .float .f32 n1, .float .f32 n2, .slice g0 zs0.length q0, .slice g1 zs1.length q1]), u38, u39, rfl, (f0.keep (i := 2) (by decide)), Gd.new rfl, Gd.new ⟨g0, g1, q0, q1, rfl, Hf0.out, Hf1.out⟩, (sameCanal_gu (i := 2) n3 (by decide)), (sameCanal_gu (i := 2) n4 (by decide)), hbel.trans (Hb.out.mono hbel.size)⟩⟩
    refine sameCanal_sc 4 rfl ?_ ?_
    · intro d a w9 hsz hcl hinv hd hdep
      obtain ⟨⟨u35, u36, u37, u38, u39, rfl, f0, f1, f2, f3, f4, hbel⟩⟩ := hinv
      have e0 := f0 (hdep.get 0 rfl)
      subst e0
      obtain ⟨g0, g1, q0, q1, e2, hf0, hf1⟩ := f2 (hdep.get 2 rfl)
      subst e2
      have Hf0 := Lib.hid hf0
      have Hf1 := Lib.hid hf1
      clear hf0 hf1
      have n4 := hcl.not hd 4 _ rfl rfl
      go_wp2_with fail
      refine (eqCanal_any x0 x1 g0 g1 k0 k1 q0 q1 zs0 zs1 _ (Is32.c hn0) (Is32.c hn0) (Is32.c hn1) (Is32.c hn1) (Is32.c hn2) (Is32.c hn2) (P0.out.below hbel (Nat.le_refl _)) Hf0.out la0 (P1.out.below hbel (Nat.le_refl _)) Hf1.out la1).mono ?_
      rintro e wc ⟨rfl, hb⟩
      have Hb := Lib.hid hb
      clear hb
      go_wp2_with fail
      exact ⟨⟨(.agg #[.float .f32 n0, .float .f32 n1, .float .f32 n2, .slice x0 zs0.length k0, .slice x1 zs1.length k1]), u36, (.agg #[.float .f32 n0, .float .f32 n1, .float .f32 n2, .slice g0 zs0.length q0, .slice g1 zs1.length q1]), (.bool true), u39, rfl, Gd.new rfl, (f1.keep (i := 3) (by decide)), Gd.new ⟨g0, g1, q0, q1, rfl, Hf0.out.below Hb.out (Nat.le_refl _), Hf1.out.below Hb.out (Nat.le_refl _)⟩, Gd.new rfl, (sameCanal_gu (i := 3) n4 (by decide)), hbel.trans (Hb.out.mono hbel.size)⟩⟩
    refine sameCanal_sc 5 rfl ?_ trivial
    · intro d a w9 hsz hcl hinv hd hdep
      obtain ⟨⟨u35, u36, u37, u38, u39, rfl, f0, f1, f2, f3, f4, hbel⟩⟩ := hinv
      have e3 := f3 (hdep.get 3 rfl)
      subst e3
      go_wp2_with fail
      exact ⟨⟨u35, u36, u37, (.bool true), (.bool false), rfl, (f0.keep (i := 4) (by decide)), (f1.keep (i := 4) (by decide)), (f2.keep (i := 4) (by decide)), Gd.new rfl, Gd.new rfl, hbel⟩⟩
  intro d a w7 hinv hall
  obtain ⟨⟨u35, u36, u37, u38, u39, rfl, f0, f1, f2, f3, f4, hbel⟩⟩ := hinv
  have e4 := f4 (hall 4 (by decide))
  subst e4
  have HW7 := Lib.hid (HW6.out.trans (hbel.mono HW6.out.size))
  have HA7 : Hid (Bx w7 w.heap.size [.float .f32 n0, .float .f32 n1, .float .f32 n2, .slice a0 zs0.length c0, .slice a1 zs1.length c1]) := Lib.hid (HA6.out.below hbel HA6.out.1)
  have HB7 : Hid (Bx w7 (w.heap.size + 1) [.float .f32 m0, .float .f32 m1, .float .f32 m2, .slice b0 ys0.length d0, .slice b1 ys1.length d1]) := Lib.hid (HB6.out.below hbel HB6.out.1)
  have HX7 : Hid (Bx w7 w4.heap.size [.float .f32 n0, .float .f32 n1, .float .f32 n2, .slice x0 zs0.length k0, .slice x1 zs1.length k1]) := Lib.hid (HX6.out.below hbel HX6.out.1)
  have HY7 : Hid (Bx w7 w5.heap.size [.float .f32 m0, .float .f32 m1, .float .f32 m2, .slice y0 ys0.length j0, .slice y1 ys1.length j1]) := Lib.hid (HY6.out.below hbel HY6.out.1)
  have Q0' := Lib.hid (Q0.out.below hbel (Nat.le_refl _))
  have Q1' := Lib.hid (Q1.out.below hbel (Nat.le_refl _))
  clear Q0 Q1
  have Q0 := Lib.hid Q0'.out
  have Q1 := Lib.hid Q1'.out
  clear Q0' Q1'
  clear f0 f1 f2 f3 f4 hbel
  have ka0 := HA7.out.c 0 rfl
  have ka1 := HA7.out.c 1 rfl
  have ka2 := HA7.out.c 2 rfl
  have ka3 := HA7.out.c 3 rfl
  have ka4 := HA7.out.c 4 rfl
  have kb0 := HB7.out.c 0 rfl
  have kb1 := HB7.out.c 1 rfl
  have kb2 := HB7.out.c 2 rfl
  have kb3 := HB7.out.c 3 rfl
  have kb4 := HB7.out.c 4 rfl
  clear ka0 kb0 ka1 kb1 ka2 kb2 ka3 kb3 ka4 kb4
  go_wp2_with fail
  refine wp_region_inv (id := 16) (sameCanalR w7 _ _ _ _ _ _ _ _ _ _ _ _ _ _ _ _ _ _ _ _ _ _ _ _ _ _ _ _ _ _ _ _ _ _ _ _ _ _ _ _ m0 m1 m2 y0 y1 b0 b1 j0 j1 d0 d1 ys0 ys1) (by kernel_rfl) (by kernel_rfl) ⟨⟨_, _, _, _, _, rfl, sameCanal_gs, sameCanal_gs, sameCanal_gs, sameCanal_gs, sameCanal_gs, beld (Below.refl _ _) 1⟩⟩ ?hendsameCanalR ?hstepssameCanalR
  rotate_left
  case hstepssameCanalR =>
    refine sameCanal_sc 1 rfl ?_ ?_
    · intro d a w9 hsz hcl hinv hd hdep
      obtain ⟨⟨u40, u41, u42, u43, u44, rfl, f0, f1, f2, f3, f4, hbel⟩⟩ := hinv
      have bx := HY7.out.below hbel HY7.out.1
      have k0_ := bx.c 0 rfl
      have k1_ := bx.c 1 rfl
      have k2_ := bx.c 2 rfl
      have k3_ := bx.c 3 rfl
      have k4_ := bx.c 4 rfl
      go_wp2_with fail
      exact ⟨⟨(.agg #[.float .f32 m0, .float .f32 m1, .float .f32 m2, .slice y0 ys0.length j0, .slice y1 ys1.length j1]), u41, u42, u43, u44, rfl, (Gd.new rfl), (f1.keep (i := 0) (by decide)), (f2.keep (i := 0) (by decide)), (f3.keep (i := 0) (by decide)), (f4.keep (i := 0) (by decide)), hbel⟩⟩
    refine sameCanal_sc 2 rfl ?_ ?_
    · intro d a w9 hsz hcl hinv hd hdep
      obtain ⟨⟨u40, u41, u42, u43, u44, rfl, f0, f1, f2, f3, f4, hbel⟩⟩ := hinv
      have bx := HB7.out.below hbel HB7.out.1
      have k0_ := bx.c 0 rfl
      have k1_ := bx.c 1 rfl
      have k2_ := bx.c 2 rfl
      have k3_ := bx.c 3 rfl
      have k4_ := bx.c 4 rfl
      go_wp2_with fail
      exact ⟨⟨u40, (.agg #[.float .f32 m0, .float .f32 m1, .float .f32 m2, .slice b0 ys0.length d0, .slice b1 ys1.length d1]), u42, u43, u44, rfl, (f0.keep (i := 1) (by decide)), (Gd.new rfl), (f2.keep (i := 1) (by decide)), (f3.keep (i := 1) (by decide)), (f4.keep (i := 1) (by decide)), hbel⟩⟩
    refine sameCanal_sc 3 rfl ?_ ?_
    · intro d a w9 hsz hcl hinv hd hdep
      obtain ⟨⟨u40, u41, u42, u43, u44, rfl, f0, f1, f2, f3, f4, hbel⟩⟩ := hinv
      have e1 := f1 (hdep.get 1 rfl)
      subst e1
      have n3 := hcl.not hd 3 _ rfl rfl
      have n4 := hcl.not n3 4 _ rfl rfl
      go_wp2_with fail
      refine (toCanal_any m0 m1 m2 b0 b1 d0 d1 ys0 ys1 _ (Rb0.out.below (HW7.out.trans (hbel.mono HW7.out.size)) (Nat.le_refl _)) lb0 (Rb1.out.below (HW7.out.trans (hbel.mono HW7.out.size)) (Nat.le_refl _)) lb1).mono ?_
      rintro e wc ⟨g0, q0, g1, q1, mq, rfl, hb, hf0, hf1, hm1q, hm2q⟩
      have Hf0 := Lib.hid hf0.row
      have Hf1 := Lib.hid hf1.row
      have Hb := Lib.hid hb
      clear hf0 hf1 hb
      go_wp2_with fail
      exact ⟨⟨u40, (.agg #[.float .f32 m0, .float .f32 m1, .float .f32 m2, .slice b0 ys0.length d0, .slice b1 ys1.length d1]), (.agg #[.float .f32 m0, .float .f32 m1, .float .f32 m2, .slice g0 ys0.length q0, .slice g1 ys1.length q1]), u43, u44, rfl, (f0.keep (i := 2) (by decide)), Gd.new rfl, Gd.new ⟨g0, g1, q0, q1, rfl, Hf0.out, Hf1.out⟩, (sameCanal_gu (i := 2) n3 (by decide)), (sameCanal_gu (i := 2) n4 (by decide)), hbel.trans (Hb.out.mono hbel.size)⟩⟩
    refine sameCanal_sc 4 rfl ?_ ?_
    · intro d a w9 hsz hcl hinv hd hdep
      obtain ⟨⟨u40, u41, u42, u43, u44, rfl, f0, f1, f2, f3, f4, hbel⟩⟩ := hinv
      have e0 := f0 (hdep.get 0 rfl)
      subst e0
      obtain ⟨g0, g1, q0, q1, e2, hf0, hf1⟩ := f2 (hdep.get 2 rfl)
      subst e2
      have Hf0 := Lib.hid hf0
      have Hf1 := Lib.hid hf1
      clear hf0 hf1
      have n4 := hcl.not hd 4 _ rfl rfl
      go_wp2_with fail
      refine (eqCanal_any y0 y1 g0 g1 j0 j1 q0 q1 ys0 ys1 _ (Is32.c hm0) (Is32.c hm0) (Is32.c hm1) (Is32.c hm1) (Is32.c hm2) (Is32.c hm2) (Q0.out.below hbel (Nat.le_refl _)) Hf0.out lb0 (Q1.out.below hbel (Nat.le_refl _)) Hf1.out lb1).mono ?_
      rintro e wc ⟨rfl, hb⟩
      have Hb := Lib.hid hb
      clear hb
      go_wp2_with fail
      exact ⟨⟨(.agg #[.float .f32 m0, .float .f32 m1, .float .f32 m2, .slice y0 ys0.length j0, .slice y1 ys1.length j1]), u41, (.agg #[.float .f32 m0, .float .f32 m1, .float .f32 m2, .slice g0 ys0.length q0, .slice g1 ys1.length q1]), (.bool true), u44, rfl, Gd.new rfl, (f1.keep (i := 3) (by decide)), Gd.new ⟨g0, g1, q0, q1, rfl, Hf0.out.below Hb.out (Nat.le_refl _), Hf1.out.below Hb.out (Nat.le_refl _)⟩, Gd.new rfl, (sameCanal_gu (i := 3) n4 (by decide)), hbel.trans (Hb.out.mono hbel.size)⟩⟩
    refine sameCanal_sc 5 rfl ?_ trivial
    · intro d a w9 hsz hcl hinv hd hdep
      obtain ⟨⟨u40, u41, u42, u43, u44, rfl, f0, f1, f2, f3, f4, hbel⟩⟩ := hinv
      have e3 := f3 (hdep.get 3 rfl)
      subst e3
      go_wp2_with fail
      exact ⟨⟨u40, u41, u42, (.bool true), (.bool false), rfl, (f0.keep (i := 4) (by decide)), (f1.keep (i := 4) (by decide)), (f2.keep (i := 4) (by decide)), Gd.new rfl, Gd.new rfl, hbel⟩⟩
  intro d a w8 hinv hall
  obtain ⟨⟨u40, u41, u42, u43, u44, rfl, f0, f1, f2, f3, f4, hbel⟩⟩ := hinv
  have e4 := f4 (hall 4 (by decide))
  subst e4
  have HW8 := Lib.hid (HW7.out.trans (hbel.mono HW7.out.size))
  have HA8 : Hid (Bx w8 w.heap.size [.float .f32 n0, .float .f32 n1, .float .f32 n2, .slice a0 zs0.length c0, .slice a1 zs1.length c1]) := Lib.hid (HA7.out.below hbel HA7.out.1)
  have HB8 : Hid (Bx w8 (w.heap.size + 1) [.float .f32 m0, .float .f32 m1, .float .f32 m2, .slice b0 ys0.length d0, .slice b1 ys1.length d1]) := Lib.hid (HB7.out.below hbel HB7.out.1)
  have HX8 : Hid (Bx w8 w4.heap.size [.float .f32 n0, .float .f32 n1, .float .f32 n2, .slice x0 zs0.length k0, .slice x1 zs1.length k1]) := Lib.hid (HX7.out.below hbel HX7.out.1)
  have HY8 : Hid (Bx w8 w5.heap.size [.float .f32 m0, .float .f32 m1, .float .f32 m2, .slice y0 ys0.length j0, .slice y1 ys1.length j1]) := Lib.hid (HY7.out.below hbel HY7.out.1)
  clear f0 f1 f2 f3 f4 hbel
  have ka0 := HA8.out.c 0 rfl
  have ka1 := HA8.out.c 1 rfl
  have ka2 := HA8.out.c 2 rfl
  have ka3 := HA8.out.c 3 rfl
  have ka4 := HA8.out.c 4 rfl
  have kb0 := HB8.out.c 0 rfl
  have kb1 := HB8.out.c 1 rfl
  have kb2 := HB8.out.c 2 rfl
  have kb3 := HB8.out.c 3 rfl
  have kb4 := HB8.out.c 4 rfl
  go_wp2_with fail
  go_ret
  exact ⟨rfl, HW8.out⟩

set_option maxHeartbeats 2000000 in
theorem walk_FnExactSameCanal (n0 n1 n2 m0 m1 m2 : Nat) (a0 a1 b0 b1 : Option Addr) (l0 l1 i0 i1 c0 c1 d0 d1 : Nat) (zs0 zs1 ys0 ys1 : List Nat) (w : World) (hn0 : n0 < 4294967296) (hn1 : n1 < 4294967296) (hn2 : n2 < 4294967296) (hm0 : m0 < 4294967296) (hm1 : m1 < 4294967296) (hm2 : m2 < 4294967296) (h0 : IsRowF .f32 w a0 l0 c0 zs0) (h1 : IsRowF .f32 w a1 l1 c1 zs1) (h2 : IsRowF .f32 w b0 i0 d0 ys0) (h3 : IsRowF .f32 w b1 i1 d1 ys1) :
    Calls Try.prog 10 #[.agg #[.float .f32 n0, .float .f32 n1, .float .f32 n2, .slice a0 l0 c0, .slice a1 l1 c1], .agg #[.float .f32 m0, .float .f32 m1, .float .f32 m2, .slice b0 i0 d0, .slice b1 i1 d1]] w fun e w' => e = .returned (.bool true) ∧ Below w.heap.size w w' := by
  obtain ⟨rfl, hcap0, hmax0, ra0, za0⟩ := h0
  obtain ⟨rfl, hcap1, hmax1, ra1, za1⟩ := h1
  obtain ⟨rfl, hcap2, hmax2, rb0, zb0⟩ := h2
  obtain ⟨rfl, hcap3, hmax3, rb1, zb1⟩ := h3
  unfold maxLen at hmax0 hmax1 hmax2 hmax3
  by_cases hsum : zs0.length + zs1.length + ys0.length + ys1.length ≤ 1048576
  · exact sameCanalLaw_fits n0 n1 n2 m0 m1 m2 a0 a1 b0 b1 c0 c1 d0 d1 zs0 zs1 ys0 ys1 w hn0 hn1 hn2 hm0 hm1 hm2 ra0 za0 ra1 za1 rb0 zb0 rb1 zb1 hsum
  · clear ra0 za0 ra1 za1 rb0 zb0 rb1 zb1
    by_cases hs1 : zs0.length + zs1.length ≤ 1048576
    · have HSz := fun W => Lib.hid (szCanal_fits n0 n1 n2 a0 a1 zs0.length zs1.length c0 c1 1048576 (by omega) (by omega) W)
      have HSn := fun W => Lib.hid (szCanal_not m0 m1 m2 b0 b1 ys0.length ys1.length d0 d1 ((1048576 : Int) - (zs0.length : Int) - (zs1.length : Int)) (by omega) (by omega) (by omega) (by omega) (by omega) W)
      have hn1 : ¬ (1048576 : Int) - (zs0.length : Int) - (zs1.length : Int) < 0 := by omega
      clear hsum hs1
      have hb0 := Bx.new (w.alloc (.cells #[.float .f32 n0, .float .f32 n1, .float .f32 n2, .slice a0 zs0.length c0, .slice a1 zs1.length c1] 42)) [.float .f32 m0, .float .f32 m1, .float .f32 m2, .slice b0 ys0.length d0, .slice b1 ys1.length d1] 42
      have he0 : (w.alloc (.cells #[.float .f32 n0, .float .f32 n1, .float .f32 n2, .slice a0 zs0.length c0, .slice a1 zs1.length c1] 42)).heap.size = w.heap.size + 1 := by simp
      rw [he0] at hb0
      have HB0 := Lib.hid hb0
      clear hb0 he0
      go_enter Try.func10, Try.ntmps10
      go_wp2_with fail
      refine (HSz _).out.mono ?_
      rintro e w1 ⟨rfl, hb⟩
      have HW1 : Hid (Below w.heap.size w w1) := Lib.hid ((bel2 w _ _).trans (hb.mono (by simp; omega)))
      have HB1 : Hid (Bx w1 (w.heap.size + 1) [.float .f32 m0, .float .f32 m1, .float .f32 m2, .slice b0 ys0.length d0, .slice b1 ys1.length d1]) := Lib.hid (HB0.out.below hb HB0.out.1)
      have kb0 := HB1.out.c 0 rfl
      have kb1 := HB1.out.c 1 rfl
      have kb2 := HB1.out.c 2 rfl
      have kb3 := HB1.out.c 3 rfl
      have kb4 := HB1.out.c 4 rfl
      clear hb
      go_wp2_with fail
      refine (HSn _).out.mono ?_
      rintro e w2 ⟨rfl, hb⟩
      have HW2 : Hid (Below w.heap.size w w2) := Lib.hid (HW1.out.trans (hb.mono HW1.out.size))
      clear hb
      go_wp2_with fail
      go_ret
      exact ⟨rfl, HW2.out⟩
    · have HSn := fun W => Lib.hid (szCanal_not n0 n1 n2 a0 a1 zs0.length zs1.length c0 c1 1048576 (by omega) (by omega) (by omega) (by omega) (by omega) W)
      clear hsum hs1
      go_enter Try.func10, Try.ntmps10
      go_wp2_with fail
      refine (HSn _).out.mono ?_
      rintro e w1 ⟨rfl, hb⟩
      have HW1 : Hid (Below w.heap.size w w1) := Lib.hid ((bel2 w _ _).trans (hb.mono (by simp; omega)))
      clear hb
      go_wp2_with fail
      go_ret
      exact ⟨rfl, HW1.out⟩
end Go.Proofs.Ytdoecpghlfjhiab
