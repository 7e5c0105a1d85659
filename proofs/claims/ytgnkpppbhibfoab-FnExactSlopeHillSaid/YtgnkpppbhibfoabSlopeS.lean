/- Slopes: the model. -/
import Derived.Test.YtgnkpppbhibfoabSlopeI
import Derived.Test.YtgnkpppbhibfoabConeS
import Derived.Test.YtgnkpppbhibfoabRegionI
import Derived.Deep.Cut
namespace Go.Proofs.Ytgnkpppbhibfoab
open Go.RowKit
set_option linter.unusedVariables false
set_option linter.unusedSimpArgs false
set_option maxRecDepth 100000
attribute [local irreducible] wpV wpList Code.wp

theorem Gd.start {n j : Nat} {p : Prop} : Gd (Array.replicate n false) j p := fun h => by rw [getD_replicate_false] at h; cases h
theorem Ng.start {l : Array Bool} {j : Nat} {p : Prop} (h : p) : Ng l j p := fun _ => h
theorem Gd.undone {l : Array Bool} {i j : Nat} {p : Prop} (h : l.getD j false = false) (hne : i ≠ j) : Gd (l.setIfInBounds i true) j p := fun h9 => by rw [set_ne hne, h] at h9; cases h9
theorem StepAll.cons {P : Program} {l : List Oper} {Inv : Array Bool → Act → World → Prop} {k : Nat} {o : Oper} {rest : List Oper} (j : Nat) (hj : k + 1 = j)
    (h : ∀ d a w, d.size = l.length → Closed l d → Inv d a w → d.getD k false = false → Deps d o.after.toList → wpList P l.toArray (QI fun a' w' => Inv (d.setIfInBounds k true) a' w') [o] a w) (hr : StepAll P l Inv j rest) : StepAll P l Inv k (o :: rest) := by
  subst hj; exact ⟨h, hr⟩

structure slInvS (w0 : World) (t0_ t1_ t2_ t3_ t4_ t5_ t6_ t7_ t8_ t9_ t10_ t11_ t12_ t13_ t14_ t15_ t16_ t17_ t18_ t19_ t20_ t21_ t22_ t23_ t24_ t25_ t26_ t27_ t28_ t29_ t30_ t31_ t32_ t46_ : Value) (X S : Option Nat) (BX k xw sw : Nat) (wide high : Int) (v : Value) (rs : List Nat) (d : Array Bool) (a : Act) (w : World) where
  u33 : Value
  u34 : Value
  u35 : Value
  u36 : Value
  u37 : Value
  u38 : Value
  u39 : Value
  u40 : Value
  u41 : Value
  u42 : Value
  u43 : Value
  u44 : Value
  u45 : Value
  y8 : Nat
  y9 : Nat
  p9 : Nat
  g9 : Nat
  c9 : Nat
  ea : a = ⟨#[t0_, t1_, t2_, t3_, t4_, t5_, t6_, t7_, t8_, t9_, t10_, t11_, t12_, t13_, t14_, t15_, t16_, t17_, t18_, t19_, t20_, t21_, t22_, t23_, t24_, t25_, t26_, t27_, t28_, t29_, t30_, t31_, t32_, u33, u34, u35, u36, u37, u38, u39, u40, u41, u42, u43, u44, u45, t46_], []⟩
  f0 : Gd d 0 (u33 = .pointer (some ⟨BX, 2, none⟩))
  f1 : Gd d 1 (u34 = v)
  f2 : Gd d 2 (u35 = .float .f32 xw)
  f3 : Gd d 3 (u36 = .float .f32 sw)
  f4 : Gd d 4 (u37 = .int .i64 (k : Int))
  f5 : Gd d 5 (u38 = .int .i64 wide)
  f6 : Gd d 6 (u39 = .int .i64 ((k : Int) / wide))
  f7 : Gd d 7 (u40 = .float .f32 (floatOfInt .f32 ((k : Int) / wide)))
  f8 : Gd d 8 (u41 = .float .f32 y8 ∧ Is32 (fop .mul .f32 S (some (iF ((k : Int) / wide)))) y8)
  f9 : Gd d 9 (u42 = .float .f32 y9 ∧ Is32 (fop .add .f32 X (fop .mul .f32 S (some (iF ((k : Int) / wide))))) y9)
  f10 : Gd d 10 (u43 = .slice (some ⟨p9, 0, none⟩) 1 1)
  f11 : Gd d 11 (u44 = .slice (some ⟨g9, 0, none⟩) (rs.length + 1) c9)
  f12 : Gd d 12 (u45 = .pointer (some ⟨BX, 2, none⟩))
  fc : Gd d 10 (Ng d 11 (w.cell? ⟨p9, 0, none⟩ = some (.float .f32 y9)))
  own : Ng d 11 (OwnZ w (BX + 1) v rs)
  gr : Gd d 11 (RowO w (BX + 1) (.slice (some ⟨g9, 0, none⟩) (rs.length + 1) c9) (rs ++ [y9]))
  bo : Ng d 13 (BoxW w BX wide high v)
  bn : Gd d 13 (BoxW w BX wide high (.slice (some ⟨g9, 0, none⟩) (rs.length + 1) c9))
  hbel : Below BX w0 w
def slInv (w0 : World) (t0_ t1_ t2_ t3_ t4_ t5_ t6_ t7_ t8_ t9_ t10_ t11_ t12_ t13_ t14_ t15_ t16_ t17_ t18_ t19_ t20_ t21_ t22_ t23_ t24_ t25_ t26_ t27_ t28_ t29_ t30_ t31_ t32_ t46_ : Value) (X S : Option Nat) (BX k xw sw : Nat) (wide high : Int) (v : Value) (rs : List Nat) (d : Array Bool) (a : Act) (w : World) : Prop := Nonempty (slInvS w0 t0_ t1_ t2_ t3_ t4_ t5_ t6_ t7_ t8_ t9_ t10_ t11_ t12_ t13_ t14_ t15_ t16_ t17_ t18_ t19_ t20_ t21_ t22_ t23_ t24_ t25_ t26_ t27_ t28_ t29_ t30_ t31_ t32_ t46_ X S BX k xw sw wide high v rs d a w)

set_option maxHeartbeats 8000000 in
theorem l02Slope_o (wide high : Int) (b e s n : Nat) (w : World) (hs : sidesB wide high = true) (hn2 : wide * high = (n : Int)) (hb : Is32 (some b) b) (he : Is32 (some e) e) (hs9 : Is32 (some s) s) :
    Calls Try.prog 59 #[.int .i64 wide, .int .i64 high, .float .f32 b, .float .f32 e, .float .f32 s] w fun e9 w' => ∃ rs a c, e9 = .returned (.agg #[.int .i64 wide, .int .i64 high, .slice a rs.length c]) ∧ Told ((List.range n).map (slopeO wide (some b) (some e) (some s))) rs ∧ Below w.heap.size w w' ∧ FRow w' w.heap.size w'.heap.size (.slice a rs.length c) rs := by
  have hmb := mul_bound hs
  have hn3 : n ≤ 256 := by omega
  have hn4 : 1 ≤ n := by omega
  have hmulw : IntKind.i64.wrap (wide * high) = (n : Int) := by rw [hn2]; exact IntWalk.i64_in _ (by omega)
  have HS := Lib.hid hs
  have HN2 := Lib.hid hn2
  have HTb := Lib.hid hb
  have HTe := Lib.hid he
  have HTs := Lib.hid hs9
  clear hs hn2 hmb hb he hs9
  have hbx0 : BoxW (((w.alloc (.cells #[.int .i64 0, .int .i64 0, .slice none 0 0] 25)).alloc (.cells #[] 22)).alloc (.cells #[.int .i64 wide, .int .i64 high, .slice (some ⟨w.heap.size + 1, 0, none⟩) 0 0] 25)) (w.heap.size + 1 + 1) wide high (.slice (some ⟨w.heap.size + 1, 0, none⟩) 0 0) := BoxW.at _ _ (by simp) wide high _ 25
  have HBX0 := Lib.hid hbx0
  have HRR0 : Hid (BoxW (((w.alloc (.cells #[.int .i64 0, .int .i64 0, .slice none 0 0] 25)).alloc (.cells #[] 22)).alloc (.cells #[.int .i64 wide, .int .i64 high, .slice (some ⟨w.heap.size + 1, 0, none⟩) 0 0] 25)) w.heap.size 0 0 (.slice none 0 0)) := Lib.hid (((BoxW.new w 0 0 (.slice none 0 0) 25).alloc _).alloc _)
  have HB0 : Hid (Below w.heap.size w (((w.alloc (.cells #[.int .i64 0, .int .i64 0, .slice none 0 0] 25)).alloc (.cells #[] 22)).alloc (.cells #[.int .i64 wide, .int .i64 high, .slice (some ⟨w.heap.size + 1, 0, none⟩) 0 0] 25))) := Lib.hid (below3 _ _ _ _)
  have HWZ : Hid ((((w.alloc (.cells #[.int .i64 0, .int .i64 0, .slice none 0 0] 25)).alloc (.cells #[] 22)).alloc (.cells #[.int .i64 wide, .int .i64 high, .slice (some ⟨w.heap.size + 1, 0, none⟩) 0 0] 25)).heap.size = w.heap.size + 1 + 1 + 1) := Lib.hid (by simp)
  clear hbx0
  go_enter Try.func59, Try.ntmps59
  go_wp2_with fail
  obtain ⟨BX, hBX⟩ : ∃ B, w.heap.size + 1 + 1 = B := ⟨_, rfl⟩
  have hBw : w.heap.size + 1 < BX := by omega
  rw [hBX] at HBX0 HWZ
  try rw [hBX]
  go_loopw [12] (fun iv wr => ∃ (k : Nat) (rs : List Nat) (v : Value), k ≤ n ∧ iv = .int .i64 k ∧ Hid (Told ((List.range k).map (slopeO wide (some b) (some e) (some s))) rs) ∧ Hid (BoxW wr BX wide high v) ∧ Hid (OwnZ wr (BX + 1) v rs) ∧ Hid (BoxW wr w.heap.size 0 0 (.slice none 0 0)) ∧ Hid (Below w.heap.size w wr) ∧ Hid (BX < wr.heap.size)) (fun iv _ => n - (intOf iv).toNat)
  case atStart => exact ⟨0, [], _, Nat.zero_le _, rfl, Lib.hid Told.nil, HBX0, Lib.hid (.inr ⟨rfl, _, rfl⟩), HRR0, HB0, Lib.hid (by have := HWZ.out; omega)⟩
  case round =>
    clear HBX0 HRR0 HB0 HWZ hBX
    obtain ⟨k, rs, v, hk, rfl, HTo, HBX, HO, HRR, HBk, HZk⟩ := hrel
    by_cases hlt : k < n
    · have hs := HS.out
      obtain ⟨hw1, hw2, hh1, hh2⟩ := sidesB_true hs
      have hw0 : wide ≠ 0 := by omega
      have hw0' : (wide == 0) = false := by simp; omega
      have hwm : wide ≠ -1 := by omega
      have hk0 : (0 : Int) ≤ (k : Int) := by omega
      have htm1 : 0 ≤ Int.tmod k wide := Int.tmod_nonneg _ hk0
      have htm2 : Int.tmod k wide < wide := Int.tmod_lt_of_pos _ (by omega)
      have htd1 : 0 ≤ ((k : Int) / wide) := Int.ediv_nonneg hk0 (by omega)
      have htd2 : ((k : Int) / wide) ≤ k := Int.ediv_le_self _ hk0
      have hi1 : IntKind.i64.wrap (Int.tmod k wide) = Int.tmod k wide := IntWalk.i64_in _ (by omega)
      have hi2 : IntKind.i64.wrap (((k : Int) / wide)) = ((k : Int) / wide) := IntWalk.i64_in _ (by omega)
      have hi3 : IntKind.i64.wrap (wide - 1) = wide - 1 := IntWalk.i64_in _ (by omega)
      have hf1 : Is32 (some (iF (Int.tmod k wide))) (floatOfInt .f32 (Int.tmod k wide)) := iF_is _
      have hf2 : Is32 (some (iF (((k : Int) / wide)))) (floatOfInt .f32 ((k : Int) / wide)) := iF_is _
      have hf3 : Is32 (some (iF (wide - 1))) (floatOfInt .f32 (wide - 1)) := iF_is _
      have hf5 : Is32 (some (iF (Int.tmod k wide))) (floatOfInt .f32 ((k : Int) % wide)) := by rw [show (k : Int) % wide = Int.tmod k wide from (Int.tmod_eq_emod_of_nonneg hk0).symm]; exact iF_is _
      have hki : (k : Int) < (n : Int) := by omega
      have hrl : rs.length = k := by have := HTo.out.1; simpa using this
      have Hl9 : Hid (rs.length ≤ 1048576) := Lib.hid (by omega)
      have HRl := Lib.hid hrl
      clear hrl hs
      have htb := HTb.out
      have hte := HTe.out
      have hts := HTs.out
      go_upto_region 6 with (first | ((with_reducible refine wpList_bin ?_); refine wpList_f32 rfl _ _ _ _ _ rfl rfl rfl (by decide) (by first | assumption | exact Is32.c (by decide)) (by first | assumption | exact Is32.c (by decide)) ?_; intro z n hz))
      have hxa : Is32 (slopeA wide (some b) (some e) k) z := hz
      generalize hW6 : World.drewN wr _ = W6
      have hox : OwnZ W6 (BX + 1) v rs := by rw [← hW6]; exact HO.out.drewN _
      have hbx9 : BoxW W6 BX wide high v := by rw [← hW6]; exact HBX.out.drewN _
      have hrr6 : BoxW W6 w.heap.size 0 0 (.slice none 0 0) := by rw [← hW6]; exact HRR.out.drewN _
      have hbk6 : Below w.heap.size w W6 := by rw [← hW6]; exact below_drewN HBk.out _
      have HRR6 := Lib.hid hrr6
      have HBk6 := Lib.hid hbk6
      clear hrr6 hbk6 hW6
      refine wp_region_inv (id := 6) (slInv W6 _ _ _ _ _ _ _ _ _ _ _ _ _ _ _ _ _ _ _ _ _ _ _ _ _ _ _ _ _ _ _ _ _ _ (slopeA wide (some b) (some e) k) (some s) BX k z s wide high v rs) (by kernel_rfl) (by kernel_rfl) ⟨⟨_, _, _, _, _, _, _, _, _, _, _, _, _, 0, 0, 0, 0, 0, rfl, .start, .start, .start, .start, .start, .start, .start, .start, .start, .start, .start, .start, .start, .start, .start (hox.drewN 1), .start, .start (hbx9.drewN 1), .start, Below.refl _ _ |> fun h => below_drewN h 1⟩⟩ ?hend ?hsteps
      rotate_left
      case hsteps =>
        refine .cons 1 rfl ?_ ?_
        · intro d a w9 hsz hcl hinv hd hdep
          obtain ⟨⟨u33, u34, u35, u36, u37, u38, u39, u40, u41, u42, u43, u44, u45, y8, y9, p9, g9, c9, rfl, f0, f1, f2, f3, f4, f5, f6, f7, f8, f9, f10, f11, f12, fc, own, gr, bo, bn, hbel⟩⟩ := hinv
          have n1 := hcl.not hd 1 _ rfl rfl
          have n11 := hcl.not n1 11 _ rfl rfl
          have n13 := hcl.not n11 13 _ rfl rfl
          go_wp2_with fail
          exact ⟨⟨(.pointer (some ⟨BX, 2, none⟩)), u34, u35, u36, u37, u38, u39, u40, u41, u42, u43, u44, u45, y8, y9, p9, g9, c9, rfl, (Gd.new (by first | rfl | simp)), (f1.keep (i := 0) (by decide)), (f2.keep (i := 0) (by decide)), (f3.keep (i := 0) (by decide)), (f4.keep (i := 0) (by decide)), (f5.keep (i := 0) (by decide)), (f6.keep (i := 0) (by decide)), (f7.keep (i := 0) (by decide)), (f8.keep (i := 0) (by decide)), (f9.keep (i := 0) (by decide)), (f10.keep (i := 0) (by decide)), (f11.keep (i := 0) (by decide)), (f12.keep (i := 0) (by decide)), (Gd.keep (i := 0) (fc.imp fun h => Ng.keep (i := 0) h (by decide)) (by decide)), (own.keep (i := 0) (by decide)), (gr.keep (i := 0) (by decide)), (bo.keep (i := 0) (by decide)), (bn.keep (i := 0) (by decide)), hbel⟩⟩
        refine .cons 2 rfl ?_ ?_
        · intro d a w9 hsz hcl hinv hd hdep
          obtain ⟨⟨u33, u34, u35, u36, u37, u38, u39, u40, u41, u42, u43, u44, u45, y8, y9, p9, g9, c9, rfl, f0, f1, f2, f3, f4, f5, f6, f7, f8, f9, f10, f11, f12, fc, own, gr, bo, bn, hbel⟩⟩ := hinv
          have e0 := f0 (hdep.get 0 rfl)
          subst e0
          have n11 := hcl.not hd 11 _ rfl rfl
          have n13 := hcl.not n11 13 _ rfl rfl
          have kb := (bo n13).1.c2
          go_wp2_with fail
          exact ⟨⟨(.pointer (some ⟨BX, 2, none⟩)), (v), u35, u36, u37, u38, u39, u40, u41, u42, u43, u44, u45, y8, y9, p9, g9, c9, rfl, (Gd.new rfl), (Gd.new rfl), (f2.keep (i := 1) (by decide)), (f3.keep (i := 1) (by decide)), (f4.keep (i := 1) (by decide)), (f5.keep (i := 1) (by decide)), (f6.keep (i := 1) (by decide)), (f7.keep (i := 1) (by decide)), (f8.keep (i := 1) (by decide)), (f9.keep (i := 1) (by decide)), (f10.keep (i := 1) (by decide)), (f11.keep (i := 1) (by decide)), (f12.keep (i := 1) (by decide)), (Gd.keep (i := 1) (fc.imp fun h => Ng.keep (i := 1) h (by decide)) (by decide)), (own.keep (i := 1) (by decide)), (gr.keep (i := 1) (by decide)), (bo.keep (i := 1) (by decide)), (bn.keep (i := 1) (by decide)), hbel⟩⟩
        refine .cons 3 rfl ?_ ?_
        · intro d a w9 hsz hcl hinv hd hdep
          obtain ⟨⟨u33, u34, u35, u36, u37, u38, u39, u40, u41, u42, u43, u44, u45, y8, y9, p9, g9, c9, rfl, f0, f1, f2, f3, f4, f5, f6, f7, f8, f9, f10, f11, f12, fc, own, gr, bo, bn, hbel⟩⟩ := hinv
          go_wp2_with fail
          exact ⟨⟨u33, u34, (.float .f32 z), u36, u37, u38, u39, u40, u41, u42, u43, u44, u45, y8, y9, p9, g9, c9, rfl, (f0.keep (i := 2) (by decide)), (f1.keep (i := 2) (by decide)), (Gd.new (by first | rfl | simp)), (f3.keep (i := 2) (by decide)), (f4.keep (i := 2) (by decide)), (f5.keep (i := 2) (by decide)), (f6.keep (i := 2) (by decide)), (f7.keep (i := 2) (by decide)), (f8.keep (i := 2) (by decide)), (f9.keep (i := 2) (by decide)), (f10.keep (i := 2) (by decide)), (f11.keep (i := 2) (by decide)), (f12.keep (i := 2) (by decide)), (Gd.keep (i := 2) (fc.imp fun h => Ng.keep (i := 2) h (by decide)) (by decide)), (own.keep (i := 2) (by decide)), (gr.keep (i := 2) (by decide)), (bo.keep (i := 2) (by decide)), (bn.keep (i := 2) (by decide)), hbel⟩⟩
        refine .cons 4 rfl ?_ ?_
        · intro d a w9 hsz hcl hinv hd hdep
          obtain ⟨⟨u33, u34, u35, u36, u37, u38, u39, u40, u41, u42, u43, u44, u45, y8, y9, p9, g9, c9, rfl, f0, f1, f2, f3, f4, f5, f6, f7, f8, f9, f10, f11, f12, fc, own, gr, bo, bn, hbel⟩⟩ := hinv
          go_wp2_with fail
          exact ⟨⟨u33, u34, u35, (.float .f32 s), u37, u38, u39, u40, u41, u42, u43, u44, u45, y8, y9, p9, g9, c9, rfl, (f0.keep (i := 3) (by decide)), (f1.keep (i := 3) (by decide)), (f2.keep (i := 3) (by decide)), (Gd.new (by first | rfl | simp)), (f4.keep (i := 3) (by decide)), (f5.keep (i := 3) (by decide)), (f6.keep (i := 3) (by decide)), (f7.keep (i := 3) (by decide)), (f8.keep (i := 3) (by decide)), (f9.keep (i := 3) (by decide)), (f10.keep (i := 3) (by decide)), (f11.keep (i := 3) (by decide)), (f12.keep (i := 3) (by decide)), (Gd.keep (i := 3) (fc.imp fun h => Ng.keep (i := 3) h (by decide)) (by decide)), (own.keep (i := 3) (by decide)), (gr.keep (i := 3) (by decide)), (bo.keep (i := 3) (by decide)), (bn.keep (i := 3) (by decide)), hbel⟩⟩
        refine .cons 5 rfl ?_ ?_
        · intro d a w9 hsz hcl hinv hd hdep
          obtain ⟨⟨u33, u34, u35, u36, u37, u38, u39, u40, u41, u42, u43, u44, u45, y8, y9, p9, g9, c9, rfl, f0, f1, f2, f3, f4, f5, f6, f7, f8, f9, f10, f11, f12, fc, own, gr, bo, bn, hbel⟩⟩ := hinv
          go_wp2_with fail
          exact ⟨⟨u33, u34, u35, u36, (.int .i64 (k : Int)), u38, u39, u40, u41, u42, u43, u44, u45, y8, y9, p9, g9, c9, rfl, (f0.keep (i := 4) (by decide)), (f1.keep (i := 4) (by decide)), (f2.keep (i := 4) (by decide)), (f3.keep (i := 4) (by decide)), (Gd.new (by first | rfl | simp)), (f5.keep (i := 4) (by decide)), (f6.keep (i := 4) (by decide)), (f7.keep (i := 4) (by decide)), (f8.keep (i := 4) (by decide)), (f9.keep (i := 4) (by decide)), (f10.keep (i := 4) (by decide)), (f11.keep (i := 4) (by decide)), (f12.keep (i := 4) (by decide)), (Gd.keep (i := 4) (fc.imp fun h => Ng.keep (i := 4) h (by decide)) (by decide)), (own.keep (i := 4) (by decide)), (gr.keep (i := 4) (by decide)), (bo.keep (i := 4) (by decide)), (bn.keep (i := 4) (by decide)), hbel⟩⟩
        refine .cons 6 rfl ?_ ?_
        · intro d a w9 hsz hcl hinv hd hdep
          obtain ⟨⟨u33, u34, u35, u36, u37, u38, u39, u40, u41, u42, u43, u44, u45, y8, y9, p9, g9, c9, rfl, f0, f1, f2, f3, f4, f5, f6, f7, f8, f9, f10, f11, f12, fc, own, gr, bo, bn, hbel⟩⟩ := hinv
          go_wp2_with fail
          exact ⟨⟨u33, u34, u35, u36, u37, (.int .i64 wide), u39, u40, u41, u42, u43, u44, u45, y8, y9, p9, g9, c9, rfl, (f0.keep (i := 5) (by decide)), (f1.keep (i := 5) (by decide)), (f2.keep (i := 5) (by decide)), (f3.keep (i := 5) (by decide)), (f4.keep (i := 5) (by decide)), (Gd.new (by first | rfl | simp)), (f6.keep (i := 5) (by decide)), (f7.keep (i := 5) (by decide)), (f8.keep (i := 5) (by decide)), (f9.keep (i := 5) (by decide)), (f10.keep (i := 5) (by decide)), (f11.keep (i := 5) (by decide)), (f12.keep (i := 5) (by decide)), (Gd.keep (i := 5) (fc.imp fun h => Ng.keep (i := 5) h (by decide)) (by decide)), (own.keep (i := 5) (by decide)), (gr.keep (i := 5) (by decide)), (bo.keep (i := 5) (by decide)), (bn.keep (i := 5) (by decide)), hbel⟩⟩
        refine .cons 7 rfl ?_ ?_
        · intro d a w9 hsz hcl hinv hd hdep
          obtain ⟨⟨u33, u34, u35, u36, u37, u38, u39, u40, u41, u42, u43, u44, u45, y8, y9, p9, g9, c9, rfl, f0, f1, f2, f3, f4, f5, f6, f7, f8, f9, f10, f11, f12, fc, own, gr, bo, bn, hbel⟩⟩ := hinv
          have e4 := f4 (hdep.get 4 rfl)
          subst e4
          have e5 := f5 (hdep.get 5 rfl)
          subst e5
          go_wp2_with fail
          exact ⟨⟨u33, u34, u35, u36, (.int .i64 (k : Int)), (.int .i64 wide), (.int .i64 ((k : Int) / wide)), u40, u41, u42, u43, u44, u45, y8, y9, p9, g9, c9, rfl, (f0.keep (i := 6) (by decide)), (f1.keep (i := 6) (by decide)), (f2.keep (i := 6) (by decide)), (f3.keep (i := 6) (by decide)), (Gd.new rfl), (Gd.new rfl), (Gd.new (by first | rfl | simp)), (f7.keep (i := 6) (by decide)), (f8.keep (i := 6) (by decide)), (f9.keep (i := 6) (by decide)), (f10.keep (i := 6) (by decide)), (f11.keep (i := 6) (by decide)), (f12.keep (i := 6) (by decide)), (Gd.keep (i := 6) (fc.imp fun h => Ng.keep (i := 6) h (by decide)) (by decide)), (own.keep (i := 6) (by decide)), (gr.keep (i := 6) (by decide)), (bo.keep (i := 6) (by decide)), (bn.keep (i := 6) (by decide)), hbel⟩⟩
        refine .cons 8 rfl ?_ ?_
        · intro d a w9 hsz hcl hinv hd hdep
          obtain ⟨⟨u33, u34, u35, u36, u37, u38, u39, u40, u41, u42, u43, u44, u45, y8, y9, p9, g9, c9, rfl, f0, f1, f2, f3, f4, f5, f6, f7, f8, f9, f10, f11, f12, fc, own, gr, bo, bn, hbel⟩⟩ := hinv
          have e6 := f6 (hdep.get 6 rfl)
          subst e6
          go_wp2_with fail
          exact ⟨⟨u33, u34, u35, u36, u37, u38, (.int .i64 ((k : Int) / wide)), (.float .f32 (floatOfInt .f32 ((k : Int) / wide))), u41, u42, u43, u44, u45, y8, y9, p9, g9, c9, rfl, (f0.keep (i := 7) (by decide)), (f1.keep (i := 7) (by decide)), (f2.keep (i := 7) (by decide)), (f3.keep (i := 7) (by decide)), (f4.keep (i := 7) (by decide)), (f5.keep (i := 7) (by decide)), (Gd.new rfl), (Gd.new (by first | rfl | simp)), (f8.keep (i := 7) (by decide)), (f9.keep (i := 7) (by decide)), (f10.keep (i := 7) (by decide)), (f11.keep (i := 7) (by decide)), (f12.keep (i := 7) (by decide)), (Gd.keep (i := 7) (fc.imp fun h => Ng.keep (i := 7) h (by decide)) (by decide)), (own.keep (i := 7) (by decide)), (gr.keep (i := 7) (by decide)), (bo.keep (i := 7) (by decide)), (bn.keep (i := 7) (by decide)), hbel⟩⟩
        refine .cons 9 rfl ?_ ?_
        · intro d a w9 hsz hcl hinv hd hdep
          obtain ⟨⟨u33, u34, u35, u36, u37, u38, u39, u40, u41, u42, u43, u44, u45, y8, y9, p9, g9, c9, rfl, f0, f1, f2, f3, f4, f5, f6, f7, f8, f9, f10, f11, f12, fc, own, gr, bo, bn, hbel⟩⟩ := hinv
          have e3 := f3 (hdep.get 3 rfl)
          subst e3
          have e7 := f7 (hdep.get 7 rfl)
          subst e7
          have n9 := hcl.not hd 9 _ rfl rfl
          have n10 := hcl.not n9 10 _ rfl rfl
          have n11 := hcl.not n10 11 _ rfl rfl
          have n13 := hcl.not n11 13 _ rfl rfl
          go_wp2_with (((with_reducible refine wpList_bin ?_); refine wpList_f32 rfl _ _ _ _ _ rfl rfl rfl (by decide) (by first | assumption | exact Is32.c (by decide)) (by first | assumption | exact Is32.c (by decide)) ?_; intro zn nq hz9))
          exact ⟨⟨u33, u34, u35, (.float .f32 s), u37, u38, u39, (.float .f32 (floatOfInt .f32 ((k : Int) / wide))), (.float .f32 zn), u42, u43, u44, u45, zn, y9, p9, g9, c9, rfl, (f0.keep (i := 8) (by decide)), (f1.keep (i := 8) (by decide)), (f2.keep (i := 8) (by decide)), (Gd.new rfl), (f4.keep (i := 8) (by decide)), (f5.keep (i := 8) (by decide)), (f6.keep (i := 8) (by decide)), (Gd.new rfl), (Gd.new ⟨rfl, hz9⟩), (Gd.undone (i := 8) n9 (by decide)), (Gd.undone (i := 8) n10 (by decide)), (Gd.undone (i := 8) n11 (by decide)), (f12.keep (i := 8) (by decide)), (Gd.undone (i := 8) n10 (by decide)), (Ng.keep (i := 8) (own.imp fun h => h.drewN _) (by decide)), (Gd.undone (i := 8) n11 (by decide)), (Ng.keep (i := 8) (bo.imp fun h => h.drewN _) (by decide)), (Gd.undone (i := 8) n13 (by decide)), (below_drewN hbel _)⟩⟩
        refine .cons 10 rfl ?_ ?_
        · intro d a w9 hsz hcl hinv hd hdep
          obtain ⟨⟨u33, u34, u35, u36, u37, u38, u39, u40, u41, u42, u43, u44, u45, y8, y9, p9, g9, c9, rfl, f0, f1, f2, f3, f4, f5, f6, f7, f8, f9, f10, f11, f12, fc, own, gr, bo, bn, hbel⟩⟩ := hinv
          have e2 := f2 (hdep.get 2 rfl)
          subst e2
          obtain ⟨e8, h8⟩ := f8 (hdep.get 8 rfl)
          subst e8
          have n10 := hcl.not hd 10 _ rfl rfl
          have n11 := hcl.not n10 11 _ rfl rfl
          have n13 := hcl.not n11 13 _ rfl rfl
          go_wp2_with (((with_reducible refine wpList_bin ?_); refine wpList_f32 rfl _ _ _ _ _ rfl rfl rfl (by decide) (by first | assumption | exact Is32.c (by decide)) (by first | assumption | exact Is32.c (by decide)) ?_; intro zn nq hz9))
          exact ⟨⟨u33, u34, (.float .f32 z), u36, u37, u38, u39, u40, (.float .f32 y8), (.float .f32 zn), u43, u44, u45, y8, zn, p9, g9, c9, rfl, (f0.keep (i := 9) (by decide)), (f1.keep (i := 9) (by decide)), (Gd.new rfl), (f3.keep (i := 9) (by decide)), (f4.keep (i := 9) (by decide)), (f5.keep (i := 9) (by decide)), (f6.keep (i := 9) (by decide)), (f7.keep (i := 9) (by decide)), (Gd.new ⟨rfl, h8⟩), (Gd.new ⟨rfl, hz9⟩), (Gd.undone (i := 9) n10 (by decide)), (Gd.undone (i := 9) n11 (by decide)), (f12.keep (i := 9) (by decide)), (Gd.undone (i := 9) n10 (by decide)), (Ng.keep (i := 9) (own.imp fun h => h.drewN _) (by decide)), (Gd.undone (i := 9) n11 (by decide)), (Ng.keep (i := 9) (bo.imp fun h => h.drewN _) (by decide)), (Gd.undone (i := 9) n13 (by decide)), (below_drewN hbel _)⟩⟩
        refine .cons 11 rfl ?_ ?_
        · intro d a w9 hsz hcl hinv hd hdep
          obtain ⟨⟨u33, u34, u35, u36, u37, u38, u39, u40, u41, u42, u43, u44, u45, y8, y9, p9, g9, c9, rfl, f0, f1, f2, f3, f4, f5, f6, f7, f8, f9, f10, f11, f12, fc, own, gr, bo, bn, hbel⟩⟩ := hinv
          obtain ⟨e9, h9⟩ := f9 (hdep.get 9 rfl)
          subst e9
          have n11 := hcl.not hd 11 _ rfl rfl
          have n13 := hcl.not n11 13 _ rfl rfl
          have hbz := (bo n13).1.2.2.2
          go_wp2_with fail
          exact ⟨⟨u33, u34, u35, u36, u37, u38, u39, u40, u41, (.float .f32 y9), (.slice (some ⟨w9.heap.size, 0, none⟩) 1 1), u44, u45, y8, y9, w9.heap.size, g9, c9, rfl, (f0.keep (i := 10) (by decide)), (f1.keep (i := 10) (by decide)), (f2.keep (i := 10) (by decide)), (f3.keep (i := 10) (by decide)), (f4.keep (i := 10) (by decide)), (f5.keep (i := 10) (by decide)), (f6.keep (i := 10) (by decide)), (f7.keep (i := 10) (by decide)), (f8.keep (i := 10) (by decide)), (Gd.new ⟨rfl, h9⟩), (Gd.new (by first | rfl | simp)), (Gd.undone (i := 10) n11 (by decide)), (f12.keep (i := 10) (by decide)), (Gd.new fun _ => (Bx.new w9 [.float .f32 y9] _).c 0 rfl), (Ng.keep (i := 10) (own.imp fun h => h.alloc _) (by decide)), (Gd.undone (i := 10) n11 (by decide)), (Ng.keep (i := 10) (bo.imp fun h => h.alloc _) (by decide)), (Gd.undone (i := 10) n13 (by decide)), (hbel.alloc (by have := hbel.size; omega) _)⟩⟩
        refine .cons 12 rfl ?_ ?_
        · intro d a w9 hsz hcl hinv hd hdep
          obtain ⟨⟨u33, u34, u35, u36, u37, u38, u39, u40, u41, u42, u43, u44, u45, y8, y9, p9, g9, c9, rfl, f0, f1, f2, f3, f4, f5, f6, f7, f8, f9, f10, f11, f12, fc, own, gr, bo, bn, hbel⟩⟩ := hinv
          have e1 := (f1 (hdep.get 1 rfl)).symm
          subst e1
          have e10 := f10 (hdep.get 10 rfl)
          subst e10
          have n13 := hcl.not hd 13 _ rfl rfl
          have hq := fc (hdep.get 10 rfl) hd
          have hown := own hd
          have hbo := bo n13
          have hlo5 : BX + 1 ≤ w9.heap.size := hbo.1.2.2.2
          refine push_z rfl rfl _ _ rfl (lo := BX + 1) (v := v) rfl hown p9 _ y9 rfl hq Hl9.out hlo5 ?_
          intro gn kn w8 hr8 hb8
          go_wp2_with fail
          exact ⟨⟨u33, (v), u35, u36, u37, u38, u39, u40, u41, u42, (.slice (some ⟨p9, 0, none⟩) 1 1), (.slice (some ⟨gn, 0, none⟩) (rs.length + 1) kn), u45, y8, y9, p9, gn, kn, rfl, (f0.keep (i := 11) (by decide)), (Gd.new rfl), (f2.keep (i := 11) (by decide)), (f3.keep (i := 11) (by decide)), (f4.keep (i := 11) (by decide)), (f5.keep (i := 11) (by decide)), (f6.keep (i := 11) (by decide)), (f7.keep (i := 11) (by decide)), (f8.keep (i := 11) (by decide)), (f9.keep (i := 11) (by decide)), (Gd.new rfl), (Gd.new (by first | rfl | simp)), (f12.keep (i := 11) (by decide)), (fun _ => Ng.new (by rw [hsz]; exact (by decide : 11 < 14))), (Ng.new (by rw [hsz]; exact (by decide : 11 < 14))), (Gd.new hr8), (Ng.keep (i := 11) (bo.imp fun h => h.below hb8 (Nat.lt_succ_self _)) (by decide)), (Gd.undone (i := 11) n13 (by decide)), (hbel.trans (hb8.mono (Nat.le_succ _)))⟩⟩
        refine .cons 13 rfl ?_ ?_
        · intro d a w9 hsz hcl hinv hd hdep
          obtain ⟨⟨u33, u34, u35, u36, u37, u38, u39, u40, u41, u42, u43, u44, u45, y8, y9, p9, g9, c9, rfl, f0, f1, f2, f3, f4, f5, f6, f7, f8, f9, f10, f11, f12, fc, own, gr, bo, bn, hbel⟩⟩ := hinv
          go_wp2_with fail
          exact ⟨⟨u33, u34, u35, u36, u37, u38, u39, u40, u41, u42, u43, u44, (.pointer (some ⟨BX, 2, none⟩)), y8, y9, p9, g9, c9, rfl, (f0.keep (i := 12) (by decide)), (f1.keep (i := 12) (by decide)), (f2.keep (i := 12) (by decide)), (f3.keep (i := 12) (by decide)), (f4.keep (i := 12) (by decide)), (f5.keep (i := 12) (by decide)), (f6.keep (i := 12) (by decide)), (f7.keep (i := 12) (by decide)), (f8.keep (i := 12) (by decide)), (f9.keep (i := 12) (by decide)), (f10.keep (i := 12) (by decide)), (f11.keep (i := 12) (by decide)), (Gd.new (by first | rfl | simp)), (Gd.keep (i := 12) (fc.imp fun h => Ng.keep (i := 12) h (by decide)) (by decide)), (own.keep (i := 12) (by decide)), (gr.keep (i := 12) (by decide)), (bo.keep (i := 12) (by decide)), (bn.keep (i := 12) (by decide)), hbel⟩⟩
        refine .cons 14 rfl ?_ trivial
        · intro d a w9 hsz hcl hinv hd hdep
          obtain ⟨⟨u33, u34, u35, u36, u37, u38, u39, u40, u41, u42, u43, u44, u45, y8, y9, p9, g9, c9, rfl, f0, f1, f2, f3, f4, f5, f6, f7, f8, f9, f10, f11, f12, fc, own, gr, bo, bn, hbel⟩⟩ := hinv
          have e12 := f12 (hdep.get 12 rfl)
          subst e12
          have e11 := f11 (hdep.get 11 rfl)
          subst e11
          have d11 : d.getD 11 false = true := hdep.get 11 rfl
          have hbo := bo hd
          have hgr := gr d11
          have hgl := (hgr.lo g9 rfl).1
          obtain ⟨⟨p0, p1, p2, _⟩, pf⟩ := hbo
          have hbo := bo hd
          go_wp2_with fail
          exact ⟨⟨u33, u34, u35, u36, u37, u38, u39, u40, u41, u42, u43, (.slice (some ⟨g9, 0, none⟩) (rs.length + 1) c9), (.pointer (some ⟨BX, 2, none⟩)), y8, y9, p9, g9, c9, rfl, (f0.keep (i := 13) (by decide)), (f1.keep (i := 13) (by decide)), (f2.keep (i := 13) (by decide)), (f3.keep (i := 13) (by decide)), (f4.keep (i := 13) (by decide)), (f5.keep (i := 13) (by decide)), (f6.keep (i := 13) (by decide)), (f7.keep (i := 13) (by decide)), (f8.keep (i := 13) (by decide)), (f9.keep (i := 13) (by decide)), (f10.keep (i := 13) (by decide)), (Gd.new rfl), (Gd.new rfl), (fun _ h9 => by rw [set_ne (by decide), d11] at h9; cases h9), (fun h9 => by rw [set_ne (by decide), d11] at h9; cases h9), (Gd.keep (i := 13) (gr.imp fun h => h.setFar (by simp [Value.ownBlock]; omega) _) (by decide)), (Ng.new (by rw [hsz]; exact (by decide : 13 < 14))), (Gd.new (hbo.set2 _)), (hbel.setCell (Nat.le_refl _) _)⟩⟩
      intro d a w9 hinv hall
      obtain ⟨⟨u33, u34, u35, u36, u37, u38, u39, u40, u41, u42, u43, u44, u45, y8, y9, p9, g9, c9, rfl, f0, f1, f2, f3, f4, f5, f6, f7, f8, f9, f10, f11, f12, fc, own, gr, bo, bn, hbel⟩⟩ := hinv
      have e11 := f11 (hall 11 (by decide))
      subst e11
      have hy9 := (f9 (hall 9 (by decide))).2
      have hgr := gr (hall 11 (by decide))
      have hbn := bn (hall 13 (by decide))
      have hbb := hbel
      clear f0 f1 f2 f3 f4 f5 f6 f7 f8 f9 f10 f11 f12 fc own gr bo bn hbel
      have hg9 := (hgr.lo g9 rfl).1
      have HGR := Lib.hid hgr
      have HBN := Lib.hid hbn
      have HY9 := Lib.hid hy9
      have HBL := Lib.hid (Below.trans HBk6.out (hbb.mono (by omega)) : Below w.heap.size w w9)
      have HRW := Lib.hid (HRR6.out.below hbb (by omega))
      have hz9 : BX < w9.heap.size := HBN.out.1.2.2.2
      clear hgr hbn hy9 hbb
      go_wp2_with fail
      go_roundw
      case rel => exact ⟨k + 1, rs ++ [y9], _, hlt, by go_num, Lib.hid (by rw [List.range_succ, List.map_append]; exact HTo.out.snoc (show Rp .f32 (slopeO wide (some b) (some e) (some s) k) y9 from HY9.out.1)), HBN, Lib.hid (.inl (by rw [HRl.out] at HGR ⊢; exact HGR.out)), HRW, HBL, Lib.hid hz9⟩
      case measure => simp [intOf]; omega
    · have hkn : k = n := by omega
      subst hkn
      have hki : ¬ (k : Int) < (k : Int) := by omega
      have hrl : rs.length = k := by have := HTo.out.1; simpa using this
      have hro : RowO wr (BX + 1) v rs := by rcases HO.out with h9 | ⟨h9, _⟩; exact h9; rw [h9] at hrl; simp at hrl; omega
      obtain ⟨av, cv, hav⟩ := hro.len
      subst hav
      have HRO := Lib.hid hro
      have HRl := Lib.hid hrl
      clear hro hrl HO
      obtain ⟨⟨p0, p1, p2, _⟩, pf⟩ := HBX.out
      obtain ⟨⟨r0, r1, r2, _⟩, rf⟩ := HRR.out
      go_wp2_with fail
      refine bodyPost_ret (v := .agg #[.int .i64 wide, .int .i64 high, .slice av rs.length cv]) (by simp [results, Try.results59, go_sem, r0, r1, r2, p0, p1, p2]) rfl ⟨rs, av, cv, rfl, HTo.out, belowSetBox HBk.out (Nat.le_refl _) _ _ _, (HRO.out.frow.setBox (lo := BX + 1) (b := w.heap.size) (.inl (by omega)) _ _ _).mono (by omega) (Nat.le_refl _) (Nat.le_refl _)⟩

set_option maxHeartbeats 4000000 in
theorem slopeHill_spec (wide high : Int) (b e s : Nat) (w : World) (hwl : -9223372036854775808 ≤ wide) (hwm : wide ≤ 9223372036854775807) (hhl : -9223372036854775808 ≤ high) (hhm : high ≤ 9223372036854775807) (hb0 : b < 4294967296) (he0 : e < 4294967296) (hs0 : s < 4294967296) :
    Calls Try.prog 15 #[.int .i64 wide, .int .i64 high, .float .f32 b, .float .f32 e, .float .f32 s] w (RetHB (resSlopeHill wide high b e s).wide (resSlopeHill wide high b e s).high (resSlopeHill wide high b e s).zs (resSlopeHill wide high b e s).ok w) := by
  obtain ⟨Q, hQ⟩ : ∃ Q, resSlopeHill wide high b e s = Q := ⟨_, rfl⟩
  rw [hQ]
  have HQ := Lib.hid hQ
  clear hQ
  have HTb : Hid (Is32 (some b) b) := Lib.hid (Is32.c hb0)
  have HTe : Hid (Is32 (some e) e) := Lib.hid (Is32.c he0)
  have HTs : Hid (Is32 (some s) s) := Lib.hid (Is32.c hs0)
  clear hb0 he0 hs0
  obtain ⟨W1, hW1⟩ : ∃ W, (w.alloc (.cells #[.int .i64 0, .int .i64 0, .slice none 0 0] 25)) = W := ⟨_, rfl⟩
  have hbr : BoxW W1 w.heap.size 0 0 (.slice none 0 0) := by rw [← hW1]; exact BoxW.new w 0 0 (.slice none 0 0) 25
  have hsz : W1.heap.size = w.heap.size + 1 := by rw [← hW1]; simp
  have hb : Below w.heap.size w W1 := by rw [← hW1]; exact below1 _ _
  have HB := Lib.hid hb
  have HBR := Lib.hid hbr
  obtain ⟨⟨r0, r1, r2, _⟩, rf⟩ := hbr
  have HW1 := Lib.hid hW1
  have HSZ := Lib.hid hsz
  clear hb hW1 hsz
  go_enter Try.func15, Try.ntmps15
  go_upto_region 1 with fail
  rw [HW1.out]
  clear HW1
  go_wp2_with fail
  cases hs : sidesB wide high
  · refine (l02Sides_b wide high false hs _).mono ?_
    rintro e9 w' ⟨rfl, hw'⟩
    obtain rfl : W1 = w' := hw'.symm
    have hv : Q = failH := by rw [← HQ.out]; unfold resSlopeHill; rw [hs]; simp only [Bool.false_and, Bool.and_false, Bool.true_and, Bool.and_true]; rfl
    have HV := Lib.hid hv
    clear hv
    go_wp2_with fail
    rw [HV.out]
    refine bodyPost_ret (v := .tuple #[.agg #[.int .i64 0, .int .i64 0, .slice none 0 0], .bool false]) (by simp [results, Try.results15, go_sem, r0, r1, r2]) rfl ⟨none, 0, rfl, belowSetBox (by repeat (first | with_reducible exact HB.out | with_reducible refine below_drewN ?_ _ | (with_reducible refine Below.alloc ?_ ?_ _; rotate_left; exact (by first | exact HBk.out.size | (simp; done) | (simp; omega) | omega)))) (by omega) _ _ _, (show FRow _ _ _ (.slice none 0 0) [] from FRow.nil _ _)⟩
  refine (l02Sides_b wide high true hs _).mono ?_
  rintro e9 w' ⟨rfl, hw'⟩
  obtain rfl : W1 = w' := hw'.symm
  have HS := Lib.hid hs
  clear hs
  go_wp2_with fail
  refine (l01Fin_o _ HTb.out).mono ?_
  rintro e9 w' ⟨bb, hbb, rfl, qb, rfl⟩
  have HFb := Lib.hid (show fin32 b = bb from hbb)
  clear hbb
  cases bb
  · have hv : Q = failH := by rw [← HQ.out]; unfold resSlopeHill; rw [HS.out, HFb.out]; simp only [Bool.false_and, Bool.and_false, Bool.true_and, Bool.and_true]; rfl
    have HV := Lib.hid hv
    clear hv
    go_wp2_with fail
    rw [HV.out]
    refine bodyPost_ret (v := .tuple #[.agg #[.int .i64 0, .int .i64 0, .slice none 0 0], .bool false]) (by simp [results, Try.results15, go_sem, r0, r1, r2]) rfl ⟨none, 0, rfl, belowSetBox (by repeat (first | with_reducible exact HB.out | with_reducible refine below_drewN ?_ _ | (with_reducible refine Below.alloc ?_ ?_ _; rotate_left; exact (by first | exact HBk.out.size | (simp; done) | (simp; omega) | omega)))) (by omega) _ _ _, (show FRow _ _ _ (.slice none 0 0) [] from FRow.nil _ _)⟩
  go_wp2_with fail
  refine (l01Fin_o _ HTe.out).mono ?_
  rintro e9 w' ⟨bb, hbb, rfl, qe, rfl⟩
  have HFe := Lib.hid (show fin32 e = bb from hbb)
  clear hbb
  cases bb
  · have hv : Q = failH := by rw [← HQ.out]; unfold resSlopeHill; rw [HS.out, HFb.out, HFe.out]; simp only [Bool.false_and, Bool.and_false, Bool.true_and, Bool.and_true]; rfl
    have HV := Lib.hid hv
    clear hv
    go_wp2_with fail
    rw [HV.out]
    refine bodyPost_ret (v := .tuple #[.agg #[.int .i64 0, .int .i64 0, .slice none 0 0], .bool false]) (by simp [results, Try.results15, go_sem, r0, r1, r2]) rfl ⟨none, 0, rfl, belowSetBox (by repeat (first | with_reducible exact HB.out | with_reducible refine below_drewN ?_ _ | (with_reducible refine Below.alloc ?_ ?_ _; rotate_left; exact (by first | exact HBk.out.size | (simp; done) | (simp; omega) | omega)))) (by omega) _ _ _, (show FRow _ _ _ (.slice none 0 0) [] from FRow.nil _ _)⟩
  go_wp2_with fail
  refine (l01Fin_o _ HTs.out).mono ?_
  rintro e9 w' ⟨bb, hbb, rfl, qs, rfl⟩
  have HFs := Lib.hid (show fin32 s = bb from hbb)
  clear hbb
  cases bb
  · have hv : Q = failH := by rw [← HQ.out]; unfold resSlopeHill; rw [HS.out, HFb.out, HFe.out, HFs.out]; simp only [Bool.false_and, Bool.and_false, Bool.true_and, Bool.and_true]; rfl
    have HV := Lib.hid hv
    clear hv
    go_wp2_with fail
    rw [HV.out]
    refine bodyPost_ret (v := .tuple #[.agg #[.int .i64 0, .int .i64 0, .slice none 0 0], .bool false]) (by simp [results, Try.results15, go_sem, r0, r1, r2]) rfl ⟨none, 0, rfl, belowSetBox (by repeat (first | with_reducible exact HB.out | with_reducible refine below_drewN ?_ _ | (with_reducible refine Below.alloc ?_ ?_ _; rotate_left; exact (by first | exact HBk.out.size | (simp; done) | (simp; omega) | omega)))) (by omega) _ _ _, (show FRow _ _ _ (.slice none 0 0) [] from FRow.nil _ _)⟩
  have hv : resSlopeHill wide high b e s = giveH wide high (slopeT wide (some b) (some e) (some s) (wide * high).toNat) := by unfold resSlopeHill; rw [HS.out, HFb.out, HFe.out, HFs.out]; rfl
  have HR : Hid (giveH wide high (slopeT wide (some b) (some e) (some s) (wide * high).toNat) = Q) := Lib.hid (hv.symm.trans HQ.out)
  clear hv r0 r1 r2 rf
  have hmb := mul_bound HS.out
  obtain ⟨n, hn⟩ : ∃ n : Nat, (wide * high).toNat = n := ⟨_, rfl⟩
  have hn2 : wide * high = (n : Int) := by omega
  have HN := Lib.hid hn
  have HN2 := Lib.hid hn2
  clear hn hn2 hmb
  go_wp2_with fail
  refine (l02Slope_o wide high b e s n _ HS.out HN2.out HTb.out HTe.out HTs.out).mono ?_
  rintro e9 w5 ⟨rs, a3, c3, rfl, hto, hb5, hf5⟩
  have hrl : rs.length = n := by have := hto.1; simpa using this
  have hz5 : W1.heap.size ≤ w5.heap.size := hb5.size
  have HB5 : Hid (Below w.heap.size w w5) := Lib.hid (Below.trans (by repeat (first | with_reducible exact HB.out | with_reducible refine below_drewN ?_ _ | (with_reducible refine Below.alloc ?_ ?_ _; rotate_left; exact (by first | exact HBk.out.size | (simp; done) | (simp; omega) | omega)))) (hb5.mono (by have := HB.out.size; exact this)))
  have HR5 : Hid (BoxW w5 w.heap.size 0 0 (.slice none 0 0)) := Lib.hid (BoxW.below (by repeat (first | with_reducible exact HBR.out | with_reducible refine BoxW.drewN ?_ _ | with_reducible refine BoxW.alloc ?_ _)) hb5 (by have := HSZ.out; show w.heap.size < W1.heap.size; omega))
  have HTo := Lib.hid hto
  have HF5 := Lib.hid hf5
  have HRl := Lib.hid hrl
  have hsz := HSZ.out
  clear hb5 hf5 hto hrl
  have hgive := l02Give_any wide high a3 c3 rs (slopeT wide (some b) (some e) (some s) (wide * high).toNat) _ _ w5 HS.out (by rw [HRl.out, HN2.out]) (by rw [HN.out]; exact HTo.out) HF5.out
  rw [HR.out] at hgive
  have HGive := Lib.hid hgive
  clear hgive
  go_wp2_with fail
  refine HGive.out.mono ?_
  rintro e9 w6 ⟨a5, c5, rfl, hb6, hf6⟩
  have Hf6 := Lib.hid hf6
  have HB6 := Lib.hid (HB5.out.trans (hb6.mono HB5.out.size))
  obtain ⟨⟨r0, r1, r2, _⟩, rf⟩ := HR5.out.below hb6 (by omega)
  clear hf6 hb6
  go_wp2_with fail
  refine bodyPost_ret (v := .tuple #[.agg #[.int .i64 Q.wide, .int .i64 Q.high, .slice a5 Q.zs.length c5], .bool Q.ok]) (by simp [results, Try.results15, go_sem, r0, r1, r2]) rfl ⟨a5, c5, rfl, belowSetBox HB6.out (Nat.le_refl _) _ _ _, (Hf6.out.setBox (b := w.heap.size) (.inl (by show w.heap.size < W1.heap.size; omega)) _ _ _).mono (by show w.heap.size ≤ W1.heap.size; omega) (Nat.le_refl _) (Nat.le_refl _)⟩

end Go.Proofs.Ytgnkpppbhibfoab
