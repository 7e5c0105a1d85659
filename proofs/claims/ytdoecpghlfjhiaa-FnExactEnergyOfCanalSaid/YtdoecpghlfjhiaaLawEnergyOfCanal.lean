/- The walk of the law on EnergyOfCanal. -/
import Derived.Test.YtdoecpghlfjhiaaCanalE
import Derived.Test.YtdoecpghlfjhiaaCanalF
import Derived.Test.YtdoecpghlfjhiaaCanalH
import Derived.Test.YtdoecpghlfjhiaaRegionI
namespace Go.Proofs.Ytdoecpghlfjhiaa
open Go.RowKit
set_option linter.unusedVariables false
set_option linter.unusedSimpArgs false
set_option maxRecDepth 100000
attribute [local irreducible] wpV wpList Code.wp

structure energyOfCanalInvS (w0 : World) (t0_ t1_ t2_ t3_ t4_ t5_ t6_ t7_ t8_ t9_ t10_ t11_ t12_ t13_ t14_ t15_ t16_ t17_ t18_ t19_ t20_ t21_ t22_ t23_ t24_ t25_ t26_ t27_ t28_ t29_ t30_ t31_ t32_ t33_ t34_ t35_ t36_ t37_ : Value) (n0 n1 n2 : Nat) (x0 x1 a0 a1 : Option Addr) (d0 d1 c0 c1 : Nat) (zs0 zs1 : List Nat) (d : Array Bool) (a : Act) (w : World) where
  u38 : Value
  u39 : Value
  u40 : Value
  u41 : Value
  u42 : Value
  ea : a = ⟨#[t0_, t1_, t2_, t3_, t4_, t5_, t6_, t7_, t8_, t9_, t10_, t11_, t12_, t13_, t14_, t15_, t16_, t17_, t18_, t19_, t20_, t21_, t22_, t23_, t24_, t25_, t26_, t27_, t28_, t29_, t30_, t31_, t32_, t33_, t34_, t35_, t36_, t37_, u38, u39, u40, u41, u42], []⟩
  f0 : Gd d 0 (u38 = .agg #[.float .f32 n0, .float .f32 n1, .float .f32 n2, .slice x0 zs0.length d0, .slice x1 zs1.length d1])
  f1 : Gd d 1 (u39 = .agg #[.float .f32 n0, .float .f32 n1, .float .f32 n2, .slice a0 zs0.length c0, .slice a1 zs1.length c1])
  f2 : Gd d 2 (∃ e0 e1 k0 k1, u40 = .agg #[.float .f32 n0, .float .f32 n1, .float .f32 n2, .slice e0 zs0.length k0, .slice e1 zs1.length k1] ∧ RowF .f32 w e0 zs0 ∧ RowF .f32 w e1 zs1)
  f3 : Gd d 3 (u41 = .bool true)
  f4 : Gd d 4 (u42 = .bool false)
  hbel : Below w0.heap.size w0 w
def energyOfCanalInv (w0 : World) (t0_ t1_ t2_ t3_ t4_ t5_ t6_ t7_ t8_ t9_ t10_ t11_ t12_ t13_ t14_ t15_ t16_ t17_ t18_ t19_ t20_ t21_ t22_ t23_ t24_ t25_ t26_ t27_ t28_ t29_ t30_ t31_ t32_ t33_ t34_ t35_ t36_ t37_ : Value) (n0 n1 n2 : Nat) (x0 x1 a0 a1 : Option Addr) (d0 d1 c0 c1 : Nat) (zs0 zs1 : List Nat) (d : Array Bool) (a : Act) (w : World) : Prop := Nonempty (energyOfCanalInvS w0 t0_ t1_ t2_ t3_ t4_ t5_ t6_ t7_ t8_ t9_ t10_ t11_ t12_ t13_ t14_ t15_ t16_ t17_ t18_ t19_ t20_ t21_ t22_ t23_ t24_ t25_ t26_ t27_ t28_ t29_ t30_ t31_ t32_ t33_ t34_ t35_ t36_ t37_ n0 n1 n2 x0 x1 a0 a1 d0 d1 c0 c1 zs0 zs1 d a w)

theorem energyOfCanal_gs {n j : Nat} {p : Prop} : Gd (Array.replicate n false) j p := fun h => by rw [getD_replicate_false] at h; cases h
theorem energyOfCanal_ng {l : Array Bool} {j : Nat} {p : Prop} (h : p) : Ng l j p := fun _ => h
theorem energyOfCanal_gu {l : Array Bool} {i j : Nat} {p : Prop} (h : l.getD j false = false) (hne : i ≠ j) : Gd (l.setIfInBounds i true) j p := fun h9 => by rw [set_ne hne, h] at h9; cases h9
theorem energyOfCanal_sc {P : Program} {l : List Oper} {Inv : Array Bool → Act → World → Prop} {k : Nat} {o : Oper} {rest : List Oper} (j : Nat) (hj : k + 1 = j)
    (h : ∀ d a w, d.size = l.length → Closed l d → Inv d a w → d.getD k false = false → Deps d o.after.toList → wpList P l.toArray (QI fun a' w' => Inv (d.setIfInBounds k true) a' w') [o] a w) (hr : StepAll P l Inv j rest) : StepAll P l Inv k (o :: rest) := by
  subst hj; exact ⟨h, hr⟩

set_option maxHeartbeats 8000000 in
theorem energyOfCanalLaw_fits (n0 n1 n2 : Nat) (a0 a1 : Option Addr) (c0 c1 : Nat) (zs0 zs1 : List Nat) (w : World) (hn0 : n0 < 4294967296) (hn1 : n1 < 4294967296) (hn2 : n2 < 4294967296) (hr0 : RowF .f32 w a0 zs0) (hz0 : ∀ z ∈ zs0, z < 4294967296) (hr1 : RowF .f32 w a1 zs1) (hz1 : ∀ z ∈ zs1, z < 4294967296)  (hsum : zs0.length + zs1.length ≤ 1048576) :
    Calls Try.prog 10 #[.agg #[.float .f32 n0, .float .f32 n1, .float .f32 n2, .slice a0 zs0.length c0, .slice a1 zs1.length c1]] w fun e w' => e = .returned (.bool true) ∧ Below w.heap.size w w' := by
  have hl0 : zs0.length ≤ 1048576 := by omega
  have hl1 : zs1.length ≤ 1048576 := by omega
  obtain ⟨⟨O, B⟩, hR⟩ : ∃ R : Option Nat × Bool, energyO (some n0) (some n1) (some n2) zs0 zs1 = R := ⟨_, rfl⟩
  have cS : ∀ (a0 a1 : Option Addr) (c0 c1 : Nat) (W : World), RowF .f32 W a0 zs0 → RowF .f32 W a1 zs1 → Calls Try.prog 36 #[.agg #[.float .f32 n0, .float .f32 n1, .float .f32 n2, .slice a0 zs0.length c0, .slice a1 zs1.length c1]] W (OnlyB (O, B) W) := by
    intro a0 a1 c0 c1 W h0' h1'
    have := energyOfCanal_s a0 a1 c0 c1 zs0 zs1 W (Is32.c hn0) (Is32.c hn1) (Is32.c hn2) h0' hl0 hz0 h1' hl1 hz1 
    rw [hR] at this
    exact this
  have cI : ∀ (a0 a1 : Option Addr) (c0 c1 : Nat) (W : World), RowF .f32 W a0 zs0 → RowF .f32 W a1 zs1 → Calls Try.prog 38 #[.agg #[.float .f32 n0, .float .f32 n1, .float .f32 n2, .slice a0 zs0.length c0, .slice a1 zs1.length c1]] W (OnlyB (O, B) W) := by
    intro a0 a1 c0 c1 W h0' h1'
    have := energyOfCanal_i a0 a1 c0 c1 zs0 zs1 W (Is32.c hn0) (Is32.c hn1) (Is32.c hn2) h0' hl0 hz0 h1' hl1 hz1 
    rw [hR] at this
    exact this
  have HS := Lib.hid cS
  have HI := Lib.hid cI
  have H0 := Lib.hid hr0
  have H1 := Lib.hid hr1
  clear cS cI hR hr0 hr1 hz0 hz1
  have hszf : ¬ (1048576 : Int) - (zs0.length : Int) - (zs1.length : Int) < 0 := by omega
  have HA0 : Hid (Bx (w.alloc (.cells #[.float .f32 n0, .float .f32 n1, .float .f32 n2, .slice a0 zs0.length c0, .slice a1 zs1.length c1] 49)) w.heap.size [.float .f32 n0, .float .f32 n1, .float .f32 n2, .slice a0 zs0.length c0, .slice a1 zs1.length c1]) := Lib.hid (Bx.new w [.float .f32 n0, .float .f32 n1, .float .f32 n2, .slice a0 zs0.length c0, .slice a1 zs1.length c1] _)
  have HB0 := Lib.hid (bel1 w (.cells #[.float .f32 n0, .float .f32 n1, .float .f32 n2, .slice a0 zs0.length c0, .slice a1 zs1.length c1] 49))
  go_enter Try.func10, Try.ntmps10
  go_wp2_with fail
  refine (szCanal_fits n0 n1 n2 a0 a1 zs0.length zs1.length c0 c1 _ (by omega) (by omega) _).mono ?_
  rintro e w1 ⟨rfl, hb⟩
  have hs1 : w.heap.size < w1.heap.size := (by have := hb.size; simp at this; omega)
  have HB1 : Hid (Below w.heap.size w w1) := Lib.hid (HB0.out.trans (hb.mono (by simp)))
  have HA1 : Hid (Bx w1 w.heap.size [.float .f32 n0, .float .f32 n1, .float .f32 n2, .slice a0 zs0.length c0, .slice a1 zs1.length c1]) := Lib.hid (HA0.out.below hb (by simp))
  clear hb HB0 HA0
  have ka0 := HA1.out.c 0 rfl
  have ka1 := HA1.out.c 1 rfl
  have ka2 := HA1.out.c 2 rfl
  have ka3 := HA1.out.c 3 rfl
  have ka4 := HA1.out.c 4 rfl
  go_wp2_with fail
  refine (toCanal_any n0 n1 n2 a0 a1 c0 c1 zs0 zs1 _ (H0.out.below HB1.out (Nat.le_refl _)) hl0 (H1.out.below HB1.out (Nat.le_refl _)) hl1).mono ?_
  rintro e w2 ⟨e0, k0, e1, k1, mid, rfl, hb, hf0, hf1, hm1, hm2⟩
  clear ka0 ka1 ka2 ka3 ka4
  have hs2 : w1.heap.size ≤ w2.heap.size := (by have := hb.size; omega)
  have hw : Below w1.heap.size w1 w2 := hb
  have HB2 : Hid (Below w.heap.size w w2) := Lib.hid (HB1.out.trans (hw.mono HB1.out.size))
  have HA2 : Hid (Bx w2 w.heap.size [.float .f32 n0, .float .f32 n1, .float .f32 n2, .slice a0 zs0.length c0, .slice a1 zs1.length c1]) := Lib.hid (HA1.out.below hw HA1.out.1)
  have HE0 := Lib.hid hf0.row
  have HE1 := Lib.hid hf1.row
  clear hf0 hf1
  clear hw hb
  have ka0 := HA2.out.c 0 rfl
  have ka1 := HA2.out.c 1 rfl
  have ka2 := HA2.out.c 2 rfl
  have ka3 := HA2.out.c 3 rfl
  have ka4 := HA2.out.c 4 rfl
  cases B
  all_goals
    go_wp2_with fail
    refine (HS.out e0 e1 k0 k1 _ HE0.out HE1.out).mono ?_
    rintro e w3 ⟨zS, b, rfl, rfl, hzS, hb⟩
    clear ka0 ka1 ka2 ka3 ka4
    have hs3 : w2.heap.size ≤ w3.heap.size := (by have := hb.size; omega)
    have hw : Below w2.heap.size w2 w3 := hb
    have HB3 : Hid (Below w.heap.size w w3) := Lib.hid (HB2.out.trans (hw.mono HB2.out.size))
    have HA3 : Hid (Bx w3 w.heap.size [.float .f32 n0, .float .f32 n1, .float .f32 n2, .slice a0 zs0.length c0, .slice a1 zs1.length c1]) := Lib.hid (HA2.out.below hw HA2.out.1)
    clear HE0 HE1
    clear hw hb
    have ka0 := HA3.out.c 0 rfl
    have ka1 := HA3.out.c 1 rfl
    have ka2 := HA3.out.c 2 rfl
    have ka3 := HA3.out.c 3 rfl
    have ka4 := HA3.out.c 4 rfl
    go_wp2_with fail
    refine (toCanal_any n0 n1 n2 a0 a1 c0 c1 zs0 zs1 _ (H0.out.below HB3.out (Nat.le_refl _)) hl0 (H1.out.below HB3.out (Nat.le_refl _)) hl1).mono ?_
    rintro e w4 ⟨x0, d0, x1, d1, mid', rfl, hb, hf0, hf1, hm1', hm2'⟩
    clear ka0 ka1 ka2 ka3 ka4
    have hs4 : w3.heap.size ≤ w4.heap.size := (by have := hb.size; omega)
    have hw : Below w3.heap.size w3 w4 := hb
    have HB4 : Hid (Below w.heap.size w w4) := Lib.hid (HB3.out.trans (hw.mono HB3.out.size))
    have HA4 : Hid (Bx w4 w.heap.size [.float .f32 n0, .float .f32 n1, .float .f32 n2, .slice a0 zs0.length c0, .slice a1 zs1.length c1]) := Lib.hid (HA3.out.below hw HA3.out.1)
    have HF0 := Lib.hid hf0.row
    have HF1 := Lib.hid hf1.row
    clear hf0 hf1
    clear hw hb
    have ka0 := HA4.out.c 0 rfl
    have ka1 := HA4.out.c 1 rfl
    have ka2 := HA4.out.c 2 rfl
    have ka3 := HA4.out.c 3 rfl
    have ka4 := HA4.out.c 4 rfl
    have HR0 := Lib.hid (HF0.out.below (bel1 w4 (.cells #[.float .f32 n0, .float .f32 n1, .float .f32 n2, .slice x0 zs0.length d0, .slice x1 zs1.length d1] 52)) (Nat.le_refl _))
    have HR1 := Lib.hid (HF1.out.below (bel1 w4 (.cells #[.float .f32 n0, .float .f32 n1, .float .f32 n2, .slice x0 zs0.length d0, .slice x1 zs1.length d1] 52)) (Nat.le_refl _))
    have HXB := Lib.hid (Bx.new w4 [.float .f32 n0, .float .f32 n1, .float .f32 n2, .slice x0 zs0.length d0, .slice x1 zs1.length d1] 52)
    have kx0 := (Bx.new w4 [.float .f32 n0, .float .f32 n1, .float .f32 n2, .slice x0 zs0.length d0, .slice x1 zs1.length d1] 52).c 0 rfl
    have kx1 := (Bx.new w4 [.float .f32 n0, .float .f32 n1, .float .f32 n2, .slice x0 zs0.length d0, .slice x1 zs1.length d1] 52).c 1 rfl
    have kx2 := (Bx.new w4 [.float .f32 n0, .float .f32 n1, .float .f32 n2, .slice x0 zs0.length d0, .slice x1 zs1.length d1] 52).c 2 rfl
    have kx3 := (Bx.new w4 [.float .f32 n0, .float .f32 n1, .float .f32 n2, .slice x0 zs0.length d0, .slice x1 zs1.length d1] 52).c 3 rfl
    have kx4 := (Bx.new w4 [.float .f32 n0, .float .f32 n1, .float .f32 n2, .slice x0 zs0.length d0, .slice x1 zs1.length d1] 52).c 4 rfl
    have kb0 : (w4.alloc (.cells #[.float .f32 n0, .float .f32 n1, .float .f32 n2, .slice x0 zs0.length d0, .slice x1 zs1.length d1] 52)).cell? ⟨w.heap.size, 0, none⟩ = _ := (HA4.out.alloc _).c 0 rfl
    have kb1 : (w4.alloc (.cells #[.float .f32 n0, .float .f32 n1, .float .f32 n2, .slice x0 zs0.length d0, .slice x1 zs1.length d1] 52)).cell? ⟨w.heap.size, 1, none⟩ = _ := (HA4.out.alloc _).c 1 rfl
    have kb2 : (w4.alloc (.cells #[.float .f32 n0, .float .f32 n1, .float .f32 n2, .slice x0 zs0.length d0, .slice x1 zs1.length d1] 52)).cell? ⟨w.heap.size, 2, none⟩ = _ := (HA4.out.alloc _).c 2 rfl
    have kb3 : (w4.alloc (.cells #[.float .f32 n0, .float .f32 n1, .float .f32 n2, .slice x0 zs0.length d0, .slice x1 zs1.length d1] 52)).cell? ⟨w.heap.size, 3, none⟩ = _ := (HA4.out.alloc _).c 3 rfl
    have kb4 : (w4.alloc (.cells #[.float .f32 n0, .float .f32 n1, .float .f32 n2, .slice x0 zs0.length d0, .slice x1 zs1.length d1] 52)).cell? ⟨w.heap.size, 4, none⟩ = _ := (HA4.out.alloc _).c 4 rfl
    go_wp2_with fail
    refine (HI.out x0 x1 d0 d1 _ HR0.out HR1.out).mono ?_
    rintro e w5 ⟨zI, b, rfl, rfl, hzI, hb⟩
    clear ka0 ka1 ka2 ka3 ka4
    have hs5 : w4.heap.size ≤ w5.heap.size := (by have := hb.size; simp at this; omega)
    have hw : Below w4.heap.size w4 w5 := (bel1 w4 _).trans (hb.mono (by simp))
    have HB5 : Hid (Below w.heap.size w w5) := Lib.hid (HB4.out.trans (hw.mono HB4.out.size))
    have HA5 : Hid (Bx w5 w.heap.size [.float .f32 n0, .float .f32 n1, .float .f32 n2, .slice a0 zs0.length c0, .slice a1 zs1.length c1]) := Lib.hid (HA4.out.below hw HA4.out.1)
    have HX5 : Hid (Bx w5 w4.heap.size [.float .f32 n0, .float .f32 n1, .float .f32 n2, .slice x0 zs0.length d0, .slice x1 zs1.length d1]) := Lib.hid (HXB.out.below hb (by simp))
    have HQ0 : Hid (RowF .f32 w5 x0 zs0) := Lib.hid (HR0.out.below hb (Nat.le_refl _))
    have HQ1 : Hid (RowF .f32 w5 x1 zs1) := Lib.hid (HR1.out.below hb (Nat.le_refl _))
    clear HR0 HR1 HXB HF0 HF1 kx0 kb0 kx1 kb1 kx2 kb2 kx3 kb3 kx4 kb4
    clear hw hb
    have ka0 := HA5.out.c 0 rfl
    have ka1 := HA5.out.c 1 rfl
    have ka2 := HA5.out.c 2 rfl
    have ka3 := HA5.out.c 3 rfl
    have ka4 := HA5.out.c 4 rfl
    go_wp2_with (first | ((with_reducible refine wpList_cv ?_); refine wpList_widen rfl _ _ _ rfl rfl (by kernel_rfl) Try.underlying32 (by assumption) ?_; intro y q hy) | (go_at_call 20; refine (sameFloat_true _ _ _ (by assumption) (by assumption) _).mono ?_; rintro e w' ⟨rfl, n3, rfl⟩))
    refine wp_region_inv (id := 10) (energyOfCanalInv w5 _ _ _ _ _ _ _ _ _ _ _ _ _ _ _ _ _ _ _ _ _ _ _ _ _ _ _ _ _ _ _ _ _ _ _ _ _ _ n0 n1 n2 x0 x1 a0 a1 d0 d1 c0 c1 zs0 zs1) (by kernel_rfl) (by kernel_rfl) ⟨⟨_, _, _, _, _, rfl, energyOfCanal_gs, energyOfCanal_gs, energyOfCanal_gs, energyOfCanal_gs, energyOfCanal_gs, (by first | exact beld (Below.refl _ _) 1 | exact beld (beld (Below.refl _ _) _) 1 | exact beld (beld (beld (Below.refl _ _) _) _) 1 | exact beld (beld (beld (beld (Below.refl _ _) _) _) _) 1)⟩⟩ ?hend ?hsteps
    case hend =>
      intro d a w9 hinv hall
      obtain ⟨⟨u38, u39, u40, u41, u42, rfl, f0, f1, f2, f3, f4, hbel⟩⟩ := hinv
      have e4 := f4 (hall 4 (by decide))
      subst e4
      have HB9 := Lib.hid (HB5.out.trans (hbel.mono HB5.out.size))
      clear f0 f1 f2 f3 f4 hbel
      go_wp2_with fail
      go_ret
      exact ⟨rfl, HB9.out⟩
    case hsteps =>
      refine energyOfCanal_sc 1 rfl ?_ ?_
      · intro d a w9 hsz hcl hinv hd hdep
        obtain ⟨⟨u38, u39, u40, u41, u42, rfl, f0, f1, f2, f3, f4, hbel⟩⟩ := hinv
        have bx := HX5.out.below hbel HX5.out.1
        have k0_ := bx.c 0 rfl
        have k1_ := bx.c 1 rfl
        have k2_ := bx.c 2 rfl
        have k3_ := bx.c 3 rfl
        have k4_ := bx.c 4 rfl
        go_wp2_with fail
        exact ⟨⟨(.agg #[.float .f32 n0, .float .f32 n1, .float .f32 n2, .slice x0 zs0.length d0, .slice x1 zs1.length d1]), u39, u40, u41, u42, rfl, (Gd.new rfl), (f1.keep (i := 0) (by decide)), (f2.keep (i := 0) (by decide)), (f3.keep (i := 0) (by decide)), (f4.keep (i := 0) (by decide)), hbel⟩⟩
      refine energyOfCanal_sc 2 rfl ?_ ?_
      · intro d a w9 hsz hcl hinv hd hdep
        obtain ⟨⟨u38, u39, u40, u41, u42, rfl, f0, f1, f2, f3, f4, hbel⟩⟩ := hinv
        have bx := HA5.out.below hbel HA5.out.1
        have k0_ := bx.c 0 rfl
        have k1_ := bx.c 1 rfl
        have k2_ := bx.c 2 rfl
        have k3_ := bx.c 3 rfl
        have k4_ := bx.c 4 rfl
        go_wp2_with fail
        exact ⟨⟨u38, (.agg #[.float .f32 n0, .float .f32 n1, .float .f32 n2, .slice a0 zs0.length c0, .slice a1 zs1.length c1]), u40, u41, u42, rfl, (f0.keep (i := 1) (by decide)), (Gd.new rfl), (f2.keep (i := 1) (by decide)), (f3.keep (i := 1) (by decide)), (f4.keep (i := 1) (by decide)), hbel⟩⟩
      refine energyOfCanal_sc 3 rfl ?_ ?_
      · intro d a w9 hsz hcl hinv hd hdep
        obtain ⟨⟨u38, u39, u40, u41, u42, rfl, f0, f1, f2, f3, f4, hbel⟩⟩ := hinv
        have e1 := f1 (hdep.get 1 rfl)
        subst e1
        have n3 := hcl.not hd 3 _ rfl rfl
        have n4 := hcl.not n3 4 _ rfl rfl
        have hz9 : w.heap.size ≤ w9.heap.size := Nat.le_trans HB5.out.size hbel.size
        go_wp2_with fail
        refine (toCanal_any n0 n1 n2 a0 a1 c0 c1 zs0 zs1 _ (H0.out.below (HB5.out.trans (hbel.mono HB5.out.size)) (Nat.le_refl _)) hl0 (H1.out.below (HB5.out.trans (hbel.mono HB5.out.size)) (Nat.le_refl _)) hl1).mono ?_
        rintro e wc ⟨g0, q0, g1, q1, mq, rfl, hb, hf0, hf1, hm1q, hm2q⟩
        have Hf0 := Lib.hid hf0.row
        have Hf1 := Lib.hid hf1.row
        have Hb := Lib.hid hb
        clear hf0 hf1 hb
        go_wp2_with fail
        exact ⟨⟨u38, (.agg #[.float .f32 n0, .float .f32 n1, .float .f32 n2, .slice a0 zs0.length c0, .slice a1 zs1.length c1]), (.agg #[.float .f32 n0, .float .f32 n1, .float .f32 n2, .slice g0 zs0.length q0, .slice g1 zs1.length q1]), u41, u42, rfl, f0.keep (i := 2) (by decide), Gd.new rfl, Gd.new ⟨g0, g1, q0, q1, rfl, Hf0.out, Hf1.out⟩, energyOfCanal_gu (i := 2) n3 (by decide), energyOfCanal_gu (i := 2) n4 (by decide), hbel.trans (Hb.out.mono hbel.size)⟩⟩
      refine energyOfCanal_sc 4 rfl ?_ ?_
      · intro d a w9 hsz hcl hinv hd hdep
        obtain ⟨⟨u38, u39, u40, u41, u42, rfl, f0, f1, f2, f3, f4, hbel⟩⟩ := hinv
        have e0 := f0 (hdep.get 0 rfl)
        subst e0
        obtain ⟨g0, g1, q0, q1, e2, hf0, hf1⟩ := f2 (hdep.get 2 rfl)
        subst e2
        have Hf0 := Lib.hid hf0
        have Hf1 := Lib.hid hf1
        clear hf0 hf1
        have n4 := hcl.not hd 4 _ rfl rfl
        go_wp2_with fail
        refine (eqCanal_any x0 x1 g0 g1 d0 d1 q0 q1 zs0 zs1 _ (Is32.c hn0) (Is32.c hn0) (Is32.c hn1) (Is32.c hn1) (Is32.c hn2) (Is32.c hn2) (HQ0.out.below hbel (Nat.le_refl _)) Hf0.out hl0 (HQ1.out.below hbel (Nat.le_refl _)) Hf1.out hl1).mono ?_
        rintro e wc ⟨rfl, hb⟩
        have Hb := Lib.hid hb
        clear hb
        go_wp2_with fail
        exact ⟨⟨(.agg #[.float .f32 n0, .float .f32 n1, .float .f32 n2, .slice x0 zs0.length d0, .slice x1 zs1.length d1]), u39, (.agg #[.float .f32 n0, .float .f32 n1, .float .f32 n2, .slice g0 zs0.length q0, .slice g1 zs1.length q1]), (.bool true), u42, rfl, Gd.new rfl, f1.keep (i := 3) (by decide), Gd.new ⟨g0, g1, q0, q1, rfl, Hf0.out.below Hb.out (Nat.le_refl _), Hf1.out.below Hb.out (Nat.le_refl _)⟩, Gd.new rfl, energyOfCanal_gu (i := 3) n4 (by decide), hbel.trans (Hb.out.mono hbel.size)⟩⟩
      refine energyOfCanal_sc 5 rfl ?_ trivial
      · intro d a w9 hsz hcl hinv hd hdep
        obtain ⟨⟨u38, u39, u40, u41, u42, rfl, f0, f1, f2, f3, f4, hbel⟩⟩ := hinv
        have e3 := f3 (hdep.get 3 rfl)
        subst e3
        go_wp2_with fail
        exact ⟨⟨u38, u39, u40, (.bool true), (.bool false), rfl, f0.keep (i := 4) (by decide), f1.keep (i := 4) (by decide), f2.keep (i := 4) (by decide), Gd.new rfl, Gd.new rfl, hbel⟩⟩

set_option maxHeartbeats 1000000 in
theorem walk_FnExactEnergyOfCanal (n0 n1 n2 : Nat) (a0 a1 : Option Addr) (l0 l1 c0 c1 : Nat) (zs0 zs1 : List Nat) (w : World) (hn0 : n0 < 4294967296) (hn1 : n1 < 4294967296) (hn2 : n2 < 4294967296) (h0 : IsRowF .f32 w a0 l0 c0 zs0) (h1 : IsRowF .f32 w a1 l1 c1 zs1)  :
    Calls Try.prog 10 #[.agg #[.float .f32 n0, .float .f32 n1, .float .f32 n2, .slice a0 l0 c0, .slice a1 l1 c1]] w fun e w' => e = .returned (.bool true) ∧ Below w.heap.size w w' := by
  obtain ⟨rfl, hcap0, hmax0, hr0, hz0⟩ := h0
  obtain ⟨rfl, hcap1, hmax1, hr1, hz1⟩ := h1
  unfold maxLen at hmax0 hmax1
  by_cases hsum : zs0.length + zs1.length ≤ 1048576
  · exact energyOfCanalLaw_fits n0 n1 n2 a0 a1 c0 c1 zs0 zs1  w hn0 hn1 hn2 hr0 hz0 hr1 hz1  hsum
  · have HSz := Lib.hid (szCanal_not n0 n1 n2 a0 a1 zs0.length zs1.length c0 c1 1048576 (by omega) (by omega) (by omega) (by omega) (by omega) (w.alloc (.cells #[.float .f32 n0, .float .f32 n1, .float .f32 n2, .slice a0 zs0.length c0, .slice a1 zs1.length c1] 49)))
    have Hsum := Lib.hid hsum
    clear hr0 hz0 hr1 hz1 hsum
    go_enter Try.func10, Try.ntmps10
    go_wp2_with fail
    refine HSz.out.mono ?_
    rintro e w1 ⟨rfl, hb⟩
    have HB1 : Hid (Below w.heap.size w w1) := Lib.hid ((bel1 w _).trans (hb.mono (by simp)))
    clear hb
    go_wp2_with fail
    go_ret
    exact ⟨rfl, HB1.out⟩
end Go.Proofs.Ytdoecpghlfjhiaa
