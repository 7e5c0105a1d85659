/- A reach that routes: the model. -/
import Derived.Test.YtdoecpghlfjhiaaRouteB
import Derived.Test.YtdoecpghlfjhiaaRegionI
namespace Go.Proofs.Ytdoecpghlfjhiaa
open Go.RowKit
set_option linter.unusedVariables false
set_option linter.unusedSimpArgs false
set_option maxRecDepth 100000
attribute [local irreducible] wpV wpList Code.wp

theorem put_self (a : Act) (d : Nat) : a.put (some d) (a.tmps.getD d undef) = a := by
  unfold Act.put
  have : a.tmps.setIfInBounds d (a.tmps.getD d undef) = a.tmps := by
    apply Array.ext (by simp)
    intro i h1 h2
    by_cases h : d = i
    · subst h; simp [h2]
    · rw [Array.getElem_setIfInBounds_ne (h := h)]
  simp only [this]
theorem Gd.start {n j : Nat} {p : Prop} : Gd (Array.replicate n false) j p := fun h => by rw [getD_replicate_false] at h; cases h
theorem Ng.start {l : Array Bool} {j : Nat} {p : Prop} (h : p) : Ng l j p := fun _ => h
theorem Gd.undone {l : Array Bool} {i j : Nat} {p : Prop} (h : l.getD j false = false) (hne : i ≠ j) : Gd (l.setIfInBounds i true) j p := fun h9 => by rw [set_ne hne, h] at h9; cases h9
theorem StepAll.cons {P : Program} {l : List Oper} {Inv : Array Bool → Act → World → Prop} {k : Nat} {o : Oper} {rest : List Oper} (j : Nat) (hj : k + 1 = j)
    (h : ∀ d a w, d.size = l.length → Closed l d → Inv d a w → d.getD k false = false → Deps d o.after.toList → wpList P l.toArray (QI fun a' w' => Inv (d.setIfInBounds k true) a' w') [o] a w) (hr : StepAll P l Inv j rest) : StepAll P l Inv k (o :: rest) := by
  subst hj; exact ⟨h, hr⟩

structure rtInvS (w0 : World) (t0_ t1_ t2_ t3_ t4_ t5_ t6_ t7_ t8_ t9_ t10_ t11_ t12_ t13_ t15_ t16_ t17_ t18_ t19_ t20_ t21_ t22_ t23_ t24_ t25_ t26_ t27_ t28_ t29_ t30_ t31_ t32_ t33_ t59_ t60_ t61_ t62_ : Value) (NN BB KK YY : Option Nat) (bx ox N cap gb co m n b k x0 x1 y : Nat) (zs : List Nat) (d : Array Bool) (a : Act) (w : World) where
  u14 : Value
  u34 : Value
  u35 : Value
  u36 : Value
  u37 : Value
  u38 : Value
  u39 : Value
  u40 : Value
  u41 : Value
  u42 : Value
  u43 : Value
  u44 : Value
  u45 : Value
  u46 : Value
  u47 : Value
  u48 : Value
  u49 : Value
  u50 : Value
  u51 : Value
  u52 : Value
  u53 : Value
  u54 : Value
  u55 : Value
  u56 : Value
  u57 : Value
  u58 : Value
  y6 : Nat
  y13 : Nat
  y14 : Nat
  y21 : Nat
  y22 : Nat
  p9 : Nat
  g9 : Nat
  k9 : Nat
  ea : a = ⟨#[t0_, t1_, t2_, t3_, t4_, t5_, t6_, t7_, t8_, t9_, t10_, t11_, t12_, t13_, u14, t15_, t16_, t17_, t18_, t19_, t20_, t21_, t22_, t23_, t24_, t25_, t26_, t27_, t28_, t29_, t30_, t31_, t32_, t33_, u34, u35, u36, u37, u38, u39, u40, u41, u42, u43, u44, u45, u46, u47, u48, u49, u50, u51, u52, u53, u54, u55, u56, u57, u58, t59_, t60_, t61_, t62_], []⟩
  f0 : Gd d 0 (u34 = .slice (some ⟨gb, 0, none⟩) (m + 1) co)
  f1 : Gd d 1 (u35 = .float .f32 n)
  f2 : Gd d 2 (u36 = .slice (some ⟨bx, ox, none⟩) N cap)
  f3 : Gd d 3 (u37 = .int .i64 ((m : Int) + 1))
  f4 : Gd d 4 (u38 = .pointer (some ⟨bx, ox + (m + 1), none⟩))
  f5 : Gd d 5 (u39 = .float .f32 x1)
  f6 : Gd d 6 (u40 = .float .f32 y6 ∧ Is32 (fop .mul .f32 NN (some x1)) y6)
  f7 : Gd d 7 (u41 = .float .f32 b)
  f8 : Gd d 8 (u42 = .slice (some ⟨bx, ox, none⟩) N cap)
  f9 : Gd d 9 (u43 = .int .i64 ((m : Int) + 1))
  f10 : Gd d 10 (u44 = .int .i64 (m : Int))
  f11 : Gd d 11 (u45 = .pointer (some ⟨bx, ox + m, none⟩))
  f12 : Gd d 12 (u46 = .float .f32 x0)
  f13 : Gd d 13 (u47 = .float .f32 y13 ∧ Is32 (fop .mul .f32 BB (some x0)) y13)
  f14 : Gd d 14 (u48 = .float .f32 y14 ∧ Is32 (fop .add .f32 (fop .mul .f32 NN (some x1)) (fop .mul .f32 BB (some x0))) y14)
  f15 : Gd d 15 (u49 = .float .f32 k)
  f16 : Gd d 16 (u50 = .slice (some ⟨gb, 0, none⟩) (m + 1) co)
  f17 : Gd d 17 (u51 = .int .i64 ((m : Int) + 1))
  f18 : Gd d 18 (u52 = .int .i64 (m : Int))
  f19 : Gd d 19 (u53 = .pointer (some ⟨gb, m, none⟩))
  f20 : Gd d 20 (u54 = .float .f32 y)
  f21 : Gd d 21 (u55 = .float .f32 y21 ∧ Is32 (fop .mul .f32 KK YY) y21)
  f22 : Gd d 22 (u56 = .float .f32 y22 ∧ Is32 (fop .add .f32 (fop .add .f32 (fop .mul .f32 NN (some x1)) (fop .mul .f32 BB (some x0))) (fop .mul .f32 KK YY)) y22)
  f23 : Gd d 23 (u57 = .slice (some ⟨p9, 0, none⟩) 1 1 ∧ w.cell? ⟨p9, 0, none⟩ = some (.float .f32 y22) ∧ p9 < w.heap.size ∧ (.slice (some ⟨gb, 0, none⟩) (m + 1) co : Value).ownBlock ≠ some p9)
  f24 : Gd d 24 (u58 = .slice (some ⟨g9, 0, none⟩) (zs.length + 1) k9)
  f25 : Gd d 25 (u14 = .slice (some ⟨g9, 0, none⟩) (zs.length + 1) k9)
  hbel : Below w0.heap.size w0 w
  hrw : Ng d 24 (RowO w w0.heap.size (.slice (some ⟨gb, 0, none⟩) (m + 1) co) (zs))
  grw : Gd d 24 (RowO w w0.heap.size (.slice (some ⟨g9, 0, none⟩) (zs.length + 1) k9) (zs ++ [y22]))
  i14 : Ng d 25 (u14 = .slice (some ⟨gb, 0, none⟩) (m + 1) co)
def rtInv (w0 : World) (t0_ t1_ t2_ t3_ t4_ t5_ t6_ t7_ t8_ t9_ t10_ t11_ t12_ t13_ t15_ t16_ t17_ t18_ t19_ t20_ t21_ t22_ t23_ t24_ t25_ t26_ t27_ t28_ t29_ t30_ t31_ t32_ t33_ t59_ t60_ t61_ t62_ : Value) (NN BB KK YY : Option Nat) (bx ox N cap gb co m n b k x0 x1 y : Nat) (zs : List Nat) (d : Array Bool) (a : Act) (w : World) : Prop := Nonempty (rtInvS w0 t0_ t1_ t2_ t3_ t4_ t5_ t6_ t7_ t8_ t9_ t10_ t11_ t12_ t13_ t15_ t16_ t17_ t18_ t19_ t20_ t21_ t22_ t23_ t24_ t25_ t26_ t27_ t28_ t29_ t30_ t31_ t32_ t33_ t59_ t60_ t61_ t62_ NN BB KK YY bx ox N cap gb co m n b k x0 x1 y zs d a w)
theorem rtInv.mk {w0 : World} {t0_ t1_ t2_ t3_ t4_ t5_ t6_ t7_ t8_ t9_ t10_ t11_ t12_ t13_ t15_ t16_ t17_ t18_ t19_ t20_ t21_ t22_ t23_ t24_ t25_ t26_ t27_ t28_ t29_ t30_ t31_ t32_ t33_ t59_ t60_ t61_ t62_ : Value} {NN BB KK YY : Option Nat} {bx ox N cap gb co m n b k x0 x1 y : Nat} {zs : List Nat} {d : Array Bool} {a : Act} {w : World} (u14 u34 u35 u36 u37 u38 u39 u40 u41 u42 u43 u44 u45 u46 u47 u48 u49 u50 u51 u52 u53 u54 u55 u56 u57 u58 : Value) (y6 y13 y14 y21 y22 p9 g9 k9 : Nat) (e : a = ⟨#[t0_, t1_, t2_, t3_, t4_, t5_, t6_, t7_, t8_, t9_, t10_, t11_, t12_, t13_, u14, t15_, t16_, t17_, t18_, t19_, t20_, t21_, t22_, t23_, t24_, t25_, t26_, t27_, t28_, t29_, t30_, t31_, t32_, t33_, u34, u35, u36, u37, u38, u39, u40, u41, u42, u43, u44, u45, u46, u47, u48, u49, u50, u51, u52, u53, u54, u55, u56, u57, u58, t59_, t60_, t61_, t62_], []⟩) (f0 : Gd d 0 (u34 = .slice (some ⟨gb, 0, none⟩) (m + 1) co)) (f1 : Gd d 1 (u35 = .float .f32 n)) (f2 : Gd d 2 (u36 = .slice (some ⟨bx, ox, none⟩) N cap)) (f3 : Gd d 3 (u37 = .int .i64 ((m : Int) + 1))) (f4 : Gd d 4 (u38 = .pointer (some ⟨bx, ox + (m + 1), none⟩))) (f5 : Gd d 5 (u39 = .float .f32 x1)) (f6 : Gd d 6 (u40 = .float .f32 y6 ∧ Is32 (fop .mul .f32 NN (some x1)) y6)) (f7 : Gd d 7 (u41 = .float .f32 b)) (f8 : Gd d 8 (u42 = .slice (some ⟨bx, ox, none⟩) N cap)) (f9 : Gd d 9 (u43 = .int .i64 ((m : Int) + 1))) (f10 : Gd d 10 (u44 = .int .i64 (m : Int))) (f11 : Gd d 11 (u45 = .pointer (some ⟨bx, ox + m, none⟩))) (f12 : Gd d 12 (u46 = .float .f32 x0)) (f13 : Gd d 13 (u47 = .float .f32 y13 ∧ Is32 (fop .mul .f32 BB (some x0)) y13)) (f14 : Gd d 14 (u48 = .float .f32 y14 ∧ Is32 (fop .add .f32 (fop .mul .f32 NN (some x1)) (fop .mul .f32 BB (some x0))) y14)) (f15 : Gd d 15 (u49 = .float .f32 k)) (f16 : Gd d 16 (u50 = .slice (some ⟨gb, 0, none⟩) (m + 1) co)) (f17 : Gd d 17 (u51 = .int .i64 ((m : Int) + 1))) (f18 : Gd d 18 (u52 = .int .i64 (m : Int))) (f19 : Gd d 19 (u53 = .pointer (some ⟨gb, m, none⟩))) (f20 : Gd d 20 (u54 = .float .f32 y)) (f21 : Gd d 21 (u55 = .float .f32 y21 ∧ Is32 (fop .mul .f32 KK YY) y21)) (f22 : Gd d 22 (u56 = .float .f32 y22 ∧ Is32 (fop .add .f32 (fop .add .f32 (fop .mul .f32 NN (some x1)) (fop .mul .f32 BB (some x0))) (fop .mul .f32 KK YY)) y22)) (f23 : Gd d 23 (u57 = .slice (some ⟨p9, 0, none⟩) 1 1 ∧ w.cell? ⟨p9, 0, none⟩ = some (.float .f32 y22) ∧ p9 < w.heap.size ∧ (.slice (some ⟨gb, 0, none⟩) (m + 1) co : Value).ownBlock ≠ some p9)) (f24 : Gd d 24 (u58 = .slice (some ⟨g9, 0, none⟩) (zs.length + 1) k9)) (f25 : Gd d 25 (u14 = .slice (some ⟨g9, 0, none⟩) (zs.length + 1) k9)) (hbel : Below w0.heap.size w0 w) (hrw : Ng d 24 (RowO w w0.heap.size (.slice (some ⟨gb, 0, none⟩) (m + 1) co) (zs))) (grw : Gd d 24 (RowO w w0.heap.size (.slice (some ⟨g9, 0, none⟩) (zs.length + 1) k9) (zs ++ [y22]))) (i14 : Ng d 25 (u14 = .slice (some ⟨gb, 0, none⟩) (m + 1) co)) : rtInv w0 t0_ t1_ t2_ t3_ t4_ t5_ t6_ t7_ t8_ t9_ t10_ t11_ t12_ t13_ t15_ t16_ t17_ t18_ t19_ t20_ t21_ t22_ t23_ t24_ t25_ t26_ t27_ t28_ t29_ t30_ t31_ t32_ t33_ t59_ t60_ t61_ t62_ NN BB KK YY bx ox N cap gb co m n b k x0 x1 y zs d a w :=
  ⟨⟨u14, u34, u35, u36, u37, u38, u39, u40, u41, u42, u43, u44, u45, u46, u47, u48, u49, u50, u51, u52, u53, u54, u55, u56, u57, u58, y6, y13, y14, y21, y22, p9, g9, k9, e, f0, f1, f2, f3, f4, f5, f6, f7, f8, f9, f10, f11, f12, f13, f14, f15, f16, f17, f18, f19, f20, f21, f22, f23, f24, f25, hbel, hrw, grw, i14⟩⟩
theorem rtInv.start {w0 : World} {t0_ t1_ t2_ t3_ t4_ t5_ t6_ t7_ t8_ t9_ t10_ t11_ t12_ t13_ t15_ t16_ t17_ t18_ t19_ t20_ t21_ t22_ t23_ t24_ t25_ t26_ t27_ t28_ t29_ t30_ t31_ t32_ t33_ t59_ t60_ t61_ t62_ : Value} {NN BB KK YY : Option Nat} {bx ox N cap gb co m n b k x0 x1 y : Nat} {zs : List Nat} {u14 u34 u35 u36 u37 u38 u39 u40 u41 u42 u43 u44 u45 u46 u47 u48 u49 u50 u51 u52 u53 u54 u55 u56 u57 u58 : Value} {w : World} (n9 : Nat) (hbel : Below w0.heap.size w0 w) (hr : RowO w w0.heap.size (.slice (some ⟨gb, 0, none⟩) (m + 1) co) (zs)) (hi14 : u14 = .slice (some ⟨gb, 0, none⟩) (m + 1) co) : rtInv w0 t0_ t1_ t2_ t3_ t4_ t5_ t6_ t7_ t8_ t9_ t10_ t11_ t12_ t13_ t15_ t16_ t17_ t18_ t19_ t20_ t21_ t22_ t23_ t24_ t25_ t26_ t27_ t28_ t29_ t30_ t31_ t32_ t33_ t59_ t60_ t61_ t62_ NN BB KK YY bx ox N cap gb co m n b k x0 x1 y zs (Array.replicate n9 false) ⟨#[t0_, t1_, t2_, t3_, t4_, t5_, t6_, t7_, t8_, t9_, t10_, t11_, t12_, t13_, u14, t15_, t16_, t17_, t18_, t19_, t20_, t21_, t22_, t23_, t24_, t25_, t26_, t27_, t28_, t29_, t30_, t31_, t32_, t33_, u34, u35, u36, u37, u38, u39, u40, u41, u42, u43, u44, u45, u46, u47, u48, u49, u50, u51, u52, u53, u54, u55, u56, u57, u58, t59_, t60_, t61_, t62_], []⟩ w :=
  ⟨⟨u14, u34, u35, u36, u37, u38, u39, u40, u41, u42, u43, u44, u45, u46, u47, u48, u49, u50, u51, u52, u53, u54, u55, u56, u57, u58, 0, 0, 0, 0, 0, 0, 0, 0, rfl, .start, .start, .start, .start, .start, .start, .start, .start, .start, .start, .start, .start, .start, .start, .start, .start, .start, .start, .start, .start, .start, .start, .start, .start, .start, .start, hbel, .start hr, .start, .start hi14⟩⟩

set_option maxHeartbeats 8000000 in
theorem l05Route_o {A0 A1 T FF : Option Nat} {r0 r1 t f : Nat} (rb : Nat) (a : Option Addr) (cap : Nat) (X : List Nat) (w : World) (hB : Bx w rb [.float .f32 r0, .float .f32 r1]) (h0 : Is32 A0 r0) (h1 : Is32 A1 r1) (hx : RowF .f32 w a X) (hl : X.length ≤ 1048576) (hz : ∀ z ∈ X, z < 4294967296) (ht : Is32 T t) (hf : Is32 FF f) (h1X : 1 ≤ X.length) : Calls Try.prog 66 #[.pointer (some ⟨rb, 0, none⟩), .slice a X.length cap, .float .f32 t, .float .f32 f] w (ListB (routeU (sharesU A0 A1 T) FF X) w) := by
  obtain ⟨Q, hQ⟩ : ∃ Q, routeU (sharesU A0 A1 T) FF X = Q := ⟨_, rfl⟩
  rw [hQ]
  have HQ := Lib.hid hQ
  have HX := Lib.hid hx
  have HZ := Lib.hid hz
  clear hQ hx hz
  go_enter Try.func66, Try.ntmps66
  go_wp2_with fail
  refine (l05Shares_o rb _ hB h0 h1 ht).mono ?_
  rintro e w1 ⟨n, b, k, bb, rfl, hbb, hn, hb0, hk, q1, hw1⟩
  have HB1 : Hid (Below w.heap.size w w1) := Lib.hid (by rw [hw1]; exact beld (Below.refl _ _) _)
  clear hw1
  have HS := Lib.hid hbb
  clear hbb
  obtain ⟨⟨NN, BB, KK, b9⟩, hSV⟩ : ∃ S, sharesU A0 A1 T = S := ⟨_, rfl⟩
  rw [hSV] at hn hb0 hk
  simp only at hn hb0 hk
  have HSV := Lib.hid hSV
  clear hSV
  cases bb
  · have hv : Q = ([], false) := by rw [← HQ.out]; unfold routeU; rw [HS.out]; rfl
    have HV := Lib.hid hv
    clear hv
    go_wp2_with fail
    go_ret2
    rw [HV.out]
    exact ListB.no HB1.out
  have hv : Q = rowO (rtL NN BB KK FF X X.length) := by rw [← HQ.out]; unfold routeU; rw [HS.out, HSV.out]; rfl
  have HV := Lib.hid hv
  clear hv
  obtain ⟨bx, ox, rfl, hbx, hcx⟩ := rows_at HX.out (by omega)
  have HCX := Lib.hid hcx
  clear hcx
  have hs1 : w.heap.size ≤ w1.heap.size := HB1.out.size
  have HE0 : Hid (RowO (w1.alloc (.cells #[.float .f32 f] 22)) w.heap.size (.slice (some ⟨w1.heap.size, 0, none⟩) 1 1) [f]) := Lib.hid (World.ownsRow_lit (base := w.heap.size) (e := 22) (size := 1) w1 #[.float .f32 f] 1 hs1 (by simp [maxLen]) rfl)
  have HB2 := Lib.hid (HB1.out.alloc hs1 (.cells #[.float .f32 f] 22))
  go_wp2_with fail
  go_loopw [14, 15] (fun vl i wr => ∃ (m : Nat) (ls : List Nat) (y gb co : Nat), m + 1 ≤ X.length ∧ vl = .slice (some ⟨gb, 0, none⟩) (m + 1) co ∧ i = .int .i64 ((m : Int) + 1) ∧ Hid (ls.length = m) ∧ Hid (Is32s (rtL NN BB KK FF X (m + 1)) (ls ++ [y])) ∧ Hid (Is32 (rtIt NN BB KK FF X m) y) ∧ Hid (RowO wr w.heap.size (.slice (some ⟨gb, 0, none⟩) (m + 1) co) (ls ++ [y])) ∧ Hid (Below w.heap.size w wr)) (fun _ i _ => X.length - (intOf i).toNat)
  case atStart => exact ⟨0, [], f, w1.heap.size, 1, h1X, rfl, by first | rfl | simp, Lib.hid rfl, Lib.hid (by rw [rtL_succ]; exact Is32s.nil.snoc hf), Lib.hid hf, HE0, HB2⟩
  case round =>
    obtain ⟨m, ls, y, gb, co, hm, rfl, rfl, HL, HIs, HY, HR, HBk⟩ := hrel
    by_cases hlt : m + 1 < X.length
    · obtain ⟨x1, hx1⟩ : ∃ x, X.getD (m + 1) 0 = x := ⟨_, rfl⟩
      obtain ⟨x0, hx0⟩ : ∃ x, X.getD m 0 = x := ⟨_, rfl⟩
      have hc1 : w.cell? ⟨bx, ox + (m + 1), none⟩ = some (.float .f32 x1) := by rw [HCX.out (m + 1) hlt, hx1]
      have hc2 : w.cell? ⟨bx, ox + m, none⟩ = some (.float .f32 x0) := by rw [HCX.out m (by omega), hx0]
      have hxi1 : Is32 (some x1) x1 := Is32.c (by rw [← hx1]; exact getD_lt HZ.out _)
      have hxi0 : Is32 (some x0) x0 := Is32.c (by rw [← hx0]; exact getD_lt HZ.out _)
      have hlen : (ls ++ [y]).length = m + 1 := by rw [List.length_append, List.length_singleton, HL.out]
      have hgy : (ls ++ [y]).getD m 0 = y := by have := at_last ls y [] HL.out; simpa using this
      obtain ⟨zs, hzs⟩ : ∃ zs, ls ++ [y] = zs := ⟨_, rfl⟩
      have hrz := HR.out
      rw [hzs] at hlen hgy hrz
      have HRz := Lib.hid hrz
      have HZs := Lib.hid hzs
      clear hzs hrz
      have hy := HY.out
      have Hlen := Lib.hid hlen
      have Hgy := Lib.hid hgy
      have HX1 := Lib.hid hx1
      have HX0 := Lib.hid hx0
      have Hc1 := Lib.hid hc1
      have Hc2 := Lib.hid hc2
      have Hl9 : Hid (zs.length ≤ 1048576) := Lib.hid (by rw [hlen]; omega)
      clear hlen hgy hx1 hx0 hc1 hc2
      have hm0 : (0 : Int) ≤ (m : Int) := by omega
      have hm1 : (m : Int) < (X.length : Int) := by omega
      have hm2 : (m : Int) + 1 < (X.length : Int) := by omega
      have hm3 : (0 : Int) ≤ (m : Int) + 1 := by omega
      have hm4 : (m : Int) < (m : Int) + 1 := by omega
      have hiw : IntKind.i64.wrap (m : Int) = (m : Int) := by rw [IntWalk.i64_in _ (by omega)]
      go_wp2_with fail
      refine wp_region_inv (id := 8) (rtInv w _ _ _ _ _ _ _ _ _ _ _ _ _ _ _ _ _ _ _ _ _ _ _ _ _ _ _ _ _ _ _ _ _ _ _ _ _ NN BB KK (rtIt NN BB KK FF X m) bx ox X.length cap gb co m n b k x0 x1 y zs) (by kernel_rfl) (by kernel_rfl) (rtInv.start _ (beld HBk.out 1) HRz.out rfl) ?hend ?hsteps
      case hend =>
        intro d a w9 hinv hall
        obtain ⟨⟨u14, u34, u35, u36, u37, u38, u39, u40, u41, u42, u43, u44, u45, u46, u47, u48, u49, u50, u51, u52, u53, u54, u55, u56, u57, u58, y6, y13, y14, y21, y22, p9, g9, k9, rfl, f0, f1, f2, f3, f4, f5, f6, f7, f8, f9, f10, f11, f12, f13, f14, f15, f16, f17, f18, f19, f20, f21, f22, f23, f24, f25, hbel, hrw, grw, i14⟩⟩ := hinv
        have e0 := f0 (hall 0 (by decide))
        subst e0
        have e1 := f1 (hall 1 (by decide))
        subst e1
        have e2 := f2 (hall 2 (by decide))
        subst e2
        have e3 := f3 (hall 3 (by decide))
        subst e3
        have e4 := f4 (hall 4 (by decide))
        subst e4
        have e5 := f5 (hall 5 (by decide))
        subst e5
        obtain ⟨e6, hy6⟩ := f6 (hall 6 (by decide))
        subst e6
        have e7 := f7 (hall 7 (by decide))
        subst e7
        have e8 := f8 (hall 8 (by decide))
        subst e8
        have e9 := f9 (hall 9 (by decide))
        subst e9
        have e10 := f10 (hall 10 (by decide))
        subst e10
        have e11 := f11 (hall 11 (by decide))
        subst e11
        have e12 := f12 (hall 12 (by decide))
        subst e12
        obtain ⟨e13, hy13⟩ := f13 (hall 13 (by decide))
        subst e13
        obtain ⟨e14, hy14⟩ := f14 (hall 14 (by decide))
        subst e14
        have e15 := f15 (hall 15 (by decide))
        subst e15
        have e16 := f16 (hall 16 (by decide))
        subst e16
        have e17 := f17 (hall 17 (by decide))
        subst e17
        have e18 := f18 (hall 18 (by decide))
        subst e18
        have e19 := f19 (hall 19 (by decide))
        subst e19
        have e20 := f20 (hall 20 (by decide))
        subst e20
        obtain ⟨e21, hy21⟩ := f21 (hall 21 (by decide))
        subst e21
        obtain ⟨e22, hy22⟩ := f22 (hall 22 (by decide))
        subst e22
        obtain ⟨e23, _⟩ := f23 (hall 23 (by decide))
        subst e23
        have e24 := f24 (hall 24 (by decide))
        subst e24
        have e25 := f25 (hall 25 (by decide))
        subst e25
        have HRowE := Lib.hid (grw (hall 24 (by decide)))
        have HBE := Lib.hid hbel
        clear f0 f1 f2 f3 f4 f5 f6 f7 f8 f9 f10 f11 f12 f13 f14 f15 f16 f17 f18 f19 f20 f21 f22 f23 f24 f25 hbel hrw grw i14
        go_wp2_with fail
        go_roundw
        case rel => exact ⟨m + 1, zs, y22, g9, k9, hlt, by rw [Hlen.out], by go_num, Lib.hid Hlen.out, Lib.hid (by rw [rtL_succ, ← HZs.out]; exact HIs.out.snoc (by show Is32 (rtIt NN BB KK FF X (m + 1)) y22; unfold rtIt; rw [HX1.out, HX0.out]; exact hy22)), Lib.hid (by show Is32 (rtIt NN BB KK FF X (m + 1)) y22; unfold rtIt; rw [HX1.out, HX0.out]; exact hy22), Lib.hid (by have h9 := HRowE.out; rw [Hlen.out] at h9; exact h9), HBE⟩
        case measure => simp [intOf]; omega
      case hsteps =>
        refine .cons 1 rfl ?_ ?_
        · intro d a w9 hsz hcl hinv hd hdep
          obtain ⟨⟨u14, u34, u35, u36, u37, u38, u39, u40, u41, u42, u43, u44, u45, u46, u47, u48, u49, u50, u51, u52, u53, u54, u55, u56, u57, u58, y6, y13, y14, y21, y22, p9, g9, k9, rfl, f0, f1, f2, f3, f4, f5, f6, f7, f8, f9, f10, f11, f12, f13, f14, f15, f16, f17, f18, f19, f20, f21, f22, f23, f24, f25, hbel, hrw, grw, i14⟩⟩ := hinv
          have n24 := hcl.not hd 24 _ rfl rfl
          have n25 := hcl.not n24 25 _ rfl rfl
          have e14' := i14 n25
          subst e14'
          go_wp2_with fail
          exact rtInv.mk (.slice (some ⟨gb, 0, none⟩) (m + 1) co) (.slice (some ⟨gb, 0, none⟩) (m + 1) co) u35 u36 u37 u38 u39 u40 u41 u42 u43 u44 u45 u46 u47 u48 u49 u50 u51 u52 u53 u54 u55 u56 u57 u58 y6 y13 y14 y21 y22 p9 g9 k9 (by first | rfl | kernel_rfl) (Gd.new (by first | rfl | simp)) (f1.keep (i := 0) (by decide)) (f2.keep (i := 0) (by decide)) (f3.keep (i := 0) (by decide)) (f4.keep (i := 0) (by decide)) (f5.keep (i := 0) (by decide)) (f6.keep (i := 0) (by decide)) (f7.keep (i := 0) (by decide)) (f8.keep (i := 0) (by decide)) (f9.keep (i := 0) (by decide)) (f10.keep (i := 0) (by decide)) (f11.keep (i := 0) (by decide)) (f12.keep (i := 0) (by decide)) (f13.keep (i := 0) (by decide)) (f14.keep (i := 0) (by decide)) (f15.keep (i := 0) (by decide)) (f16.keep (i := 0) (by decide)) (f17.keep (i := 0) (by decide)) (f18.keep (i := 0) (by decide)) (f19.keep (i := 0) (by decide)) (f20.keep (i := 0) (by decide)) (f21.keep (i := 0) (by decide)) (f22.keep (i := 0) (by decide)) (f23.keep (i := 0) (by decide)) (f24.keep (i := 0) (by decide)) (f25.keep (i := 0) (by decide)) hbel (hrw.keep (i := 0) (by decide)) (grw.keep (i := 0) (by decide)) (Ng.keep (i := 0) (fun _ => rfl) (by decide))
        refine .cons 2 rfl ?_ ?_
        · intro d a w9 hsz hcl hinv hd hdep
          obtain ⟨⟨u14, u34, u35, u36, u37, u38, u39, u40, u41, u42, u43, u44, u45, u46, u47, u48, u49, u50, u51, u52, u53, u54, u55, u56, u57, u58, y6, y13, y14, y21, y22, p9, g9, k9, rfl, f0, f1, f2, f3, f4, f5, f6, f7, f8, f9, f10, f11, f12, f13, f14, f15, f16, f17, f18, f19, f20, f21, f22, f23, f24, f25, hbel, hrw, grw, i14⟩⟩ := hinv
          go_wp2_with fail
          exact rtInv.mk u14 u34 (.float .f32 n) u36 u37 u38 u39 u40 u41 u42 u43 u44 u45 u46 u47 u48 u49 u50 u51 u52 u53 u54 u55 u56 u57 u58 y6 y13 y14 y21 y22 p9 g9 k9 (by first | rfl | kernel_rfl) (f0.keep (i := 1) (by decide)) (Gd.new (by first | rfl | simp)) (f2.keep (i := 1) (by decide)) (f3.keep (i := 1) (by decide)) (f4.keep (i := 1) (by decide)) (f5.keep (i := 1) (by decide)) (f6.keep (i := 1) (by decide)) (f7.keep (i := 1) (by decide)) (f8.keep (i := 1) (by decide)) (f9.keep (i := 1) (by decide)) (f10.keep (i := 1) (by decide)) (f11.keep (i := 1) (by decide)) (f12.keep (i := 1) (by decide)) (f13.keep (i := 1) (by decide)) (f14.keep (i := 1) (by decide)) (f15.keep (i := 1) (by decide)) (f16.keep (i := 1) (by decide)) (f17.keep (i := 1) (by decide)) (f18.keep (i := 1) (by decide)) (f19.keep (i := 1) (by decide)) (f20.keep (i := 1) (by decide)) (f21.keep (i := 1) (by decide)) (f22.keep (i := 1) (by decide)) (f23.keep (i := 1) (by decide)) (f24.keep (i := 1) (by decide)) (f25.keep (i := 1) (by decide)) hbel (hrw.keep (i := 1) (by decide)) (grw.keep (i := 1) (by decide)) (i14.keep (i := 1) (by decide))
        refine .cons 3 rfl ?_ ?_
        · intro d a w9 hsz hcl hinv hd hdep
          obtain ⟨⟨u14, u34, u35, u36, u37, u38, u39, u40, u41, u42, u43, u44, u45, u46, u47, u48, u49, u50, u51, u52, u53, u54, u55, u56, u57, u58, y6, y13, y14, y21, y22, p9, g9, k9, rfl, f0, f1, f2, f3, f4, f5, f6, f7, f8, f9, f10, f11, f12, f13, f14, f15, f16, f17, f18, f19, f20, f21, f22, f23, f24, f25, hbel, hrw, grw, i14⟩⟩ := hinv
          go_wp2_with fail
          exact rtInv.mk u14 u34 u35 (.slice (some ⟨bx, ox, none⟩) X.length cap) u37 u38 u39 u40 u41 u42 u43 u44 u45 u46 u47 u48 u49 u50 u51 u52 u53 u54 u55 u56 u57 u58 y6 y13 y14 y21 y22 p9 g9 k9 (by first | rfl | kernel_rfl) (f0.keep (i := 2) (by decide)) (f1.keep (i := 2) (by decide)) (Gd.new (by first | rfl | simp)) (f3.keep (i := 2) (by decide)) (f4.keep (i := 2) (by decide)) (f5.keep (i := 2) (by decide)) (f6.keep (i := 2) (by decide)) (f7.keep (i := 2) (by decide)) (f8.keep (i := 2) (by decide)) (f9.keep (i := 2) (by decide)) (f10.keep (i := 2) (by decide)) (f11.keep (i := 2) (by decide)) (f12.keep (i := 2) (by decide)) (f13.keep (i := 2) (by decide)) (f14.keep (i := 2) (by decide)) (f15.keep (i := 2) (by decide)) (f16.keep (i := 2) (by decide)) (f17.keep (i := 2) (by decide)) (f18.keep (i := 2) (by decide)) (f19.keep (i := 2) (by decide)) (f20.keep (i := 2) (by decide)) (f21.keep (i := 2) (by decide)) (f22.keep (i := 2) (by decide)) (f23.keep (i := 2) (by decide)) (f24.keep (i := 2) (by decide)) (f25.keep (i := 2) (by decide)) hbel (hrw.keep (i := 2) (by decide)) (grw.keep (i := 2) (by decide)) (i14.keep (i := 2) (by decide))
        refine .cons 4 rfl ?_ ?_
        · intro d a w9 hsz hcl hinv hd hdep
          obtain ⟨⟨u14, u34, u35, u36, u37, u38, u39, u40, u41, u42, u43, u44, u45, u46, u47, u48, u49, u50, u51, u52, u53, u54, u55, u56, u57, u58, y6, y13, y14, y21, y22, p9, g9, k9, rfl, f0, f1, f2, f3, f4, f5, f6, f7, f8, f9, f10, f11, f12, f13, f14, f15, f16, f17, f18, f19, f20, f21, f22, f23, f24, f25, hbel, hrw, grw, i14⟩⟩ := hinv
          go_wp2_with fail
          exact rtInv.mk u14 u34 u35 u36 (.int .i64 ((m : Int) + 1)) u38 u39 u40 u41 u42 u43 u44 u45 u46 u47 u48 u49 u50 u51 u52 u53 u54 u55 u56 u57 u58 y6 y13 y14 y21 y22 p9 g9 k9 (by first | rfl | kernel_rfl) (f0.keep (i := 3) (by decide)) (f1.keep (i := 3) (by decide)) (f2.keep (i := 3) (by decide)) (Gd.new (by first | rfl | simp)) (f4.keep (i := 3) (by decide)) (f5.keep (i := 3) (by decide)) (f6.keep (i := 3) (by decide)) (f7.keep (i := 3) (by decide)) (f8.keep (i := 3) (by decide)) (f9.keep (i := 3) (by decide)) (f10.keep (i := 3) (by decide)) (f11.keep (i := 3) (by decide)) (f12.keep (i := 3) (by decide)) (f13.keep (i := 3) (by decide)) (f14.keep (i := 3) (by decide)) (f15.keep (i := 3) (by decide)) (f16.keep (i := 3) (by decide)) (f17.keep (i := 3) (by decide)) (f18.keep (i := 3) (by decide)) (f19.keep (i := 3) (by decide)) (f20.keep (i := 3) (by decide)) (f21.keep (i := 3) (by decide)) (f22.keep (i := 3) (by decide)) (f23.keep (i := 3) (by decide)) (f24.keep (i := 3) (by decide)) (f25.keep (i := 3) (by decide)) hbel (hrw.keep (i := 3) (by decide)) (grw.keep (i := 3) (by decide)) (i14.keep (i := 3) (by decide))
        refine .cons 5 rfl ?_ ?_
        · intro d a w9 hsz hcl hinv hd hdep
          obtain ⟨⟨u14, u34, u35, u36, u37, u38, u39, u40, u41, u42, u43, u44, u45, u46, u47, u48, u49, u50, u51, u52, u53, u54, u55, u56, u57, u58, y6, y13, y14, y21, y22, p9, g9, k9, rfl, f0, f1, f2, f3, f4, f5, f6, f7, f8, f9, f10, f11, f12, f13, f14, f15, f16, f17, f18, f19, f20, f21, f22, f23, f24, f25, hbel, hrw, grw, i14⟩⟩ := hinv
          have e2 := f2 (hdep.get 2 rfl)
          subst e2
          have e3 := f3 (hdep.get 3 rfl)
          subst e3
          go_wp2_with fail
          exact rtInv.mk u14 u34 u35 (.slice (some ⟨bx, ox, none⟩) X.length cap) (.int .i64 ((m : Int) + 1)) (.pointer (some ⟨bx, ox + (m + 1), none⟩)) u39 u40 u41 u42 u43 u44 u45 u46 u47 u48 u49 u50 u51 u52 u53 u54 u55 u56 u57 u58 y6 y13 y14 y21 y22 p9 g9 k9 (by first | rfl | kernel_rfl) (f0.keep (i := 4) (by decide)) (f1.keep (i := 4) (by decide)) (Gd.new rfl) (Gd.new rfl) (Gd.new (by first | rfl | simp)) (f5.keep (i := 4) (by decide)) (f6.keep (i := 4) (by decide)) (f7.keep (i := 4) (by decide)) (f8.keep (i := 4) (by decide)) (f9.keep (i := 4) (by decide)) (f10.keep (i := 4) (by decide)) (f11.keep (i := 4) (by decide)) (f12.keep (i := 4) (by decide)) (f13.keep (i := 4) (by decide)) (f14.keep (i := 4) (by decide)) (f15.keep (i := 4) (by decide)) (f16.keep (i := 4) (by decide)) (f17.keep (i := 4) (by decide)) (f18.keep (i := 4) (by decide)) (f19.keep (i := 4) (by decide)) (f20.keep (i := 4) (by decide)) (f21.keep (i := 4) (by decide)) (f22.keep (i := 4) (by decide)) (f23.keep (i := 4) (by decide)) (f24.keep (i := 4) (by decide)) (f25.keep (i := 4) (by decide)) hbel (hrw.keep (i := 4) (by decide)) (grw.keep (i := 4) (by decide)) (i14.keep (i := 4) (by decide))
        refine .cons 6 rfl ?_ ?_
        · intro d a w9 hsz hcl hinv hd hdep
          obtain ⟨⟨u14, u34, u35, u36, u37, u38, u39, u40, u41, u42, u43, u44, u45, u46, u47, u48, u49, u50, u51, u52, u53, u54, u55, u56, u57, u58, y6, y13, y14, y21, y22, p9, g9, k9, rfl, f0, f1, f2, f3, f4, f5, f6, f7, f8, f9, f10, f11, f12, f13, f14, f15, f16, f17, f18, f19, f20, f21, f22, f23, f24, f25, hbel, hrw, grw, i14⟩⟩ := hinv
          have e4 := f4 (hdep.get 4 rfl)
          subst e4
          have hcell : w9.cell? ⟨bx, ox + (m + 1), none⟩ = some (.float .f32 x1) := by rw [hbel.cell (p := ⟨bx, ox + (m + 1), none⟩) hbx]; exact Hc1.out
          go_wp2_with fail
          exact rtInv.mk u14 u34 u35 u36 u37 (.pointer (some ⟨bx, ox + (m + 1), none⟩)) (.float .f32 x1) u40 u41 u42 u43 u44 u45 u46 u47 u48 u49 u50 u51 u52 u53 u54 u55 u56 u57 u58 y6 y13 y14 y21 y22 p9 g9 k9 (by first | rfl | kernel_rfl) (f0.keep (i := 5) (by decide)) (f1.keep (i := 5) (by decide)) (f2.keep (i := 5) (by decide)) (f3.keep (i := 5) (by decide)) (Gd.new rfl) (Gd.new (by first | rfl | simp)) (f6.keep (i := 5) (by decide)) (f7.keep (i := 5) (by decide)) (f8.keep (i := 5) (by decide)) (f9.keep (i := 5) (by decide)) (f10.keep (i := 5) (by decide)) (f11.keep (i := 5) (by decide)) (f12.keep (i := 5) (by decide)) (f13.keep (i := 5) (by decide)) (f14.keep (i := 5) (by decide)) (f15.keep (i := 5) (by decide)) (f16.keep (i := 5) (by decide)) (f17.keep (i := 5) (by decide)) (f18.keep (i := 5) (by decide)) (f19.keep (i := 5) (by decide)) (f20.keep (i := 5) (by decide)) (f21.keep (i := 5) (by decide)) (f22.keep (i := 5) (by decide)) (f23.keep (i := 5) (by decide)) (f24.keep (i := 5) (by decide)) (f25.keep (i := 5) (by decide)) hbel (hrw.keep (i := 5) (by decide)) (grw.keep (i := 5) (by decide)) (i14.keep (i := 5) (by decide))
        refine .cons 7 rfl ?_ ?_
        · intro d a w9 hsz hcl hinv hd hdep
          obtain ⟨⟨u14, u34, u35, u36, u37, u38, u39, u40, u41, u42, u43, u44, u45, u46, u47, u48, u49, u50, u51, u52, u53, u54, u55, u56, u57, u58, y6, y13, y14, y21, y22, p9, g9, k9, rfl, f0, f1, f2, f3, f4, f5, f6, f7, f8, f9, f10, f11, f12, f13, f14, f15, f16, f17, f18, f19, f20, f21, f22, f23, f24, f25, hbel, hrw, grw, i14⟩⟩ := hinv
          have e1 := f1 (hdep.get 1 rfl)
          subst e1
          have e5 := f5 (hdep.get 5 rfl)
          subst e5
          have n14 := hcl.not hd 14 _ rfl rfl
          have n22 := hcl.not n14 22 _ rfl rfl
          have n23 := hcl.not n22 23 _ rfl rfl
          have n24 := hcl.not n23 24 _ rfl rfl
          have n25 := hcl.not n24 25 _ rfl rfl
          go_wp2_with (((with_reducible refine wpList_bin ?_); refine wpList_f32 rfl _ _ _ _ _ rfl rfl rfl (by decide) (by first | assumption | exact Is32.c (by decide)) (by first | assumption | exact Is32.c (by decide)) ?_; intro z nq hz))
          have hzn := hz
          exact rtInv.mk u14 u34 (.float .f32 n) u36 u37 u38 (.float .f32 x1) (.float .f32 z) u41 u42 u43 u44 u45 u46 u47 u48 u49 u50 u51 u52 u53 u54 u55 u56 u57 u58 z y13 y14 y21 y22 p9 g9 k9 (by first | rfl | kernel_rfl) (f0.keep (i := 6) (by decide)) (Gd.new rfl) (f2.keep (i := 6) (by decide)) (f3.keep (i := 6) (by decide)) (f4.keep (i := 6) (by decide)) (Gd.new rfl) (Gd.new ⟨rfl, hz⟩) (f7.keep (i := 6) (by decide)) (f8.keep (i := 6) (by decide)) (f9.keep (i := 6) (by decide)) (f10.keep (i := 6) (by decide)) (f11.keep (i := 6) (by decide)) (f12.keep (i := 6) (by decide)) (f13.keep (i := 6) (by decide)) (Gd.undone (i := 6) n14 (by decide)) (f15.keep (i := 6) (by decide)) (f16.keep (i := 6) (by decide)) (f17.keep (i := 6) (by decide)) (f18.keep (i := 6) (by decide)) (f19.keep (i := 6) (by decide)) (f20.keep (i := 6) (by decide)) (f21.keep (i := 6) (by decide)) (Gd.undone (i := 6) n22 (by decide)) (Gd.undone (i := 6) n23 (by decide)) (Gd.undone (i := 6) n24 (by decide)) (Gd.undone (i := 6) n25 (by decide)) (beld hbel _) ((hrw.imp fun h => h.drewN _).keep (i := 6) (by decide)) (Gd.undone (i := 6) n24 (by decide)) (i14.keep (i := 6) (by decide))
        refine .cons 8 rfl ?_ ?_
        · intro d a w9 hsz hcl hinv hd hdep
          obtain ⟨⟨u14, u34, u35, u36, u37, u38, u39, u40, u41, u42, u43, u44, u45, u46, u47, u48, u49, u50, u51, u52, u53, u54, u55, u56, u57, u58, y6, y13, y14, y21, y22, p9, g9, k9, rfl, f0, f1, f2, f3, f4, f5, f6, f7, f8, f9, f10, f11, f12, f13, f14, f15, f16, f17, f18, f19, f20, f21, f22, f23, f24, f25, hbel, hrw, grw, i14⟩⟩ := hinv
          go_wp2_with fail
          exact rtInv.mk u14 u34 u35 u36 u37 u38 u39 u40 (.float .f32 b) u42 u43 u44 u45 u46 u47 u48 u49 u50 u51 u52 u53 u54 u55 u56 u57 u58 y6 y13 y14 y21 y22 p9 g9 k9 (by first | rfl | kernel_rfl) (f0.keep (i := 7) (by decide)) (f1.keep (i := 7) (by decide)) (f2.keep (i := 7) (by decide)) (f3.keep (i := 7) (by decide)) (f4.keep (i := 7) (by decide)) (f5.keep (i := 7) (by decide)) (f6.keep (i := 7) (by decide)) (Gd.new (by first | rfl | simp)) (f8.keep (i := 7) (by decide)) (f9.keep (i := 7) (by decide)) (f10.keep (i := 7) (by decide)) (f11.keep (i := 7) (by decide)) (f12.keep (i := 7) (by decide)) (f13.keep (i := 7) (by decide)) (f14.keep (i := 7) (by decide)) (f15.keep (i := 7) (by decide)) (f16.keep (i := 7) (by decide)) (f17.keep (i := 7) (by decide)) (f18.keep (i := 7) (by decide)) (f19.keep (i := 7) (by decide)) (f20.keep (i := 7) (by decide)) (f21.keep (i := 7) (by decide)) (f22.keep (i := 7) (by decide)) (f23.keep (i := 7) (by decide)) (f24.keep (i := 7) (by decide)) (f25.keep (i := 7) (by decide)) hbel (hrw.keep (i := 7) (by decide)) (grw.keep (i := 7) (by decide)) (i14.keep (i := 7) (by decide))
        refine .cons 9 rfl ?_ ?_
        · intro d a w9 hsz hcl hinv hd hdep
          obtain ⟨⟨u14, u34, u35, u36, u37, u38, u39, u40, u41, u42, u43, u44, u45, u46, u47, u48, u49, u50, u51, u52, u53, u54, u55, u56, u57, u58, y6, y13, y14, y21, y22, p9, g9, k9, rfl, f0, f1, f2, f3, f4, f5, f6, f7, f8, f9, f10, f11, f12, f13, f14, f15, f16, f17, f18, f19, f20, f21, f22, f23, f24, f25, hbel, hrw, grw, i14⟩⟩ := hinv
          go_wp2_with fail
          exact rtInv.mk u14 u34 u35 u36 u37 u38 u39 u40 u41 (.slice (some ⟨bx, ox, none⟩) X.length cap) u43 u44 u45 u46 u47 u48 u49 u50 u51 u52 u53 u54 u55 u56 u57 u58 y6 y13 y14 y21 y22 p9 g9 k9 (by first | rfl | kernel_rfl) (f0.keep (i := 8) (by decide)) (f1.keep (i := 8) (by decide)) (f2.keep (i := 8) (by decide)) (f3.keep (i := 8) (by decide)) (f4.keep (i := 8) (by decide)) (f5.keep (i := 8) (by decide)) (f6.keep (i := 8) (by decide)) (f7.keep (i := 8) (by decide)) (Gd.new (by first | rfl | simp)) (f9.keep (i := 8) (by decide)) (f10.keep (i := 8) (by decide)) (f11.keep (i := 8) (by decide)) (f12.keep (i := 8) (by decide)) (f13.keep (i := 8) (by decide)) (f14.keep (i := 8) (by decide)) (f15.keep (i := 8) (by decide)) (f16.keep (i := 8) (by decide)) (f17.keep (i := 8) (by decide)) (f18.keep (i := 8) (by decide)) (f19.keep (i := 8) (by decide)) (f20.keep (i := 8) (by decide)) (f21.keep (i := 8) (by decide)) (f22.keep (i := 8) (by decide)) (f23.keep (i := 8) (by decide)) (f24.keep (i := 8) (by decide)) (f25.keep (i := 8) (by decide)) hbel (hrw.keep (i := 8) (by decide)) (grw.keep (i := 8) (by decide)) (i14.keep (i := 8) (by decide))
        refine .cons 10 rfl ?_ ?_
        · intro d a w9 hsz hcl hinv hd hdep
          obtain ⟨⟨u14, u34, u35, u36, u37, u38, u39, u40, u41, u42, u43, u44, u45, u46, u47, u48, u49, u50, u51, u52, u53, u54, u55, u56, u57, u58, y6, y13, y14, y21, y22, p9, g9, k9, rfl, f0, f1, f2, f3, f4, f5, f6, f7, f8, f9, f10, f11, f12, f13, f14, f15, f16, f17, f18, f19, f20, f21, f22, f23, f24, f25, hbel, hrw, grw, i14⟩⟩ := hinv
          go_wp2_with fail
          exact rtInv.mk u14 u34 u35 u36 u37 u38 u39 u40 u41 u42 (.int .i64 ((m : Int) + 1)) u44 u45 u46 u47 u48 u49 u50 u51 u52 u53 u54 u55 u56 u57 u58 y6 y13 y14 y21 y22 p9 g9 k9 (by first | rfl | kernel_rfl) (f0.keep (i := 9) (by decide)) (f1.keep (i := 9) (by decide)) (f2.keep (i := 9) (by decide)) (f3.keep (i := 9) (by decide)) (f4.keep (i := 9) (by decide)) (f5.keep (i := 9) (by decide)) (f6.keep (i := 9) (by decide)) (f7.keep (i := 9) (by decide)) (f8.keep (i := 9) (by decide)) (Gd.new (by first | rfl | simp)) (f10.keep (i := 9) (by decide)) (f11.keep (i := 9) (by decide)) (f12.keep (i := 9) (by decide)) (f13.keep (i := 9) (by decide)) (f14.keep (i := 9) (by decide)) (f15.keep (i := 9) (by decide)) (f16.keep (i := 9) (by decide)) (f17.keep (i := 9) (by decide)) (f18.keep (i := 9) (by decide)) (f19.keep (i := 9) (by decide)) (f20.keep (i := 9) (by decide)) (f21.keep (i := 9) (by decide)) (f22.keep (i := 9) (by decide)) (f23.keep (i := 9) (by decide)) (f24.keep (i := 9) (by decide)) (f25.keep (i := 9) (by decide)) hbel (hrw.keep (i := 9) (by decide)) (grw.keep (i := 9) (by decide)) (i14.keep (i := 9) (by decide))
        refine .cons 11 rfl ?_ ?_
        · intro d a w9 hsz hcl hinv hd hdep
          obtain ⟨⟨u14, u34, u35, u36, u37, u38, u39, u40, u41, u42, u43, u44, u45, u46, u47, u48, u49, u50, u51, u52, u53, u54, u55, u56, u57, u58, y6, y13, y14, y21, y22, p9, g9, k9, rfl, f0, f1, f2, f3, f4, f5, f6, f7, f8, f9, f10, f11, f12, f13, f14, f15, f16, f17, f18, f19, f20, f21, f22, f23, f24, f25, hbel, hrw, grw, i14⟩⟩ := hinv
          have e9 := f9 (hdep.get 9 rfl)
          subst e9
          go_wp2_with fail
          exact rtInv.mk u14 u34 u35 u36 u37 u38 u39 u40 u41 u42 (.int .i64 ((m : Int) + 1)) (.int .i64 (m : Int)) u45 u46 u47 u48 u49 u50 u51 u52 u53 u54 u55 u56 u57 u58 y6 y13 y14 y21 y22 p9 g9 k9 (by first | rfl | kernel_rfl) (f0.keep (i := 10) (by decide)) (f1.keep (i := 10) (by decide)) (f2.keep (i := 10) (by decide)) (f3.keep (i := 10) (by decide)) (f4.keep (i := 10) (by decide)) (f5.keep (i := 10) (by decide)) (f6.keep (i := 10) (by decide)) (f7.keep (i := 10) (by decide)) (f8.keep (i := 10) (by decide)) (Gd.new rfl) (Gd.new (by first | rfl | simp)) (f11.keep (i := 10) (by decide)) (f12.keep (i := 10) (by decide)) (f13.keep (i := 10) (by decide)) (f14.keep (i := 10) (by decide)) (f15.keep (i := 10) (by decide)) (f16.keep (i := 10) (by decide)) (f17.keep (i := 10) (by decide)) (f18.keep (i := 10) (by decide)) (f19.keep (i := 10) (by decide)) (f20.keep (i := 10) (by decide)) (f21.keep (i := 10) (by decide)) (f22.keep (i := 10) (by decide)) (f23.keep (i := 10) (by decide)) (f24.keep (i := 10) (by decide)) (f25.keep (i := 10) (by decide)) hbel (hrw.keep (i := 10) (by decide)) (grw.keep (i := 10) (by decide)) (i14.keep (i := 10) (by decide))
        refine .cons 12 rfl ?_ ?_
        · intro d a w9 hsz hcl hinv hd hdep
          obtain ⟨⟨u14, u34, u35, u36, u37, u38, u39, u40, u41, u42, u43, u44, u45, u46, u47, u48, u49, u50, u51, u52, u53, u54, u55, u56, u57, u58, y6, y13, y14, y21, y22, p9, g9, k9, rfl, f0, f1, f2, f3, f4, f5, f6, f7, f8, f9, f10, f11, f12, f13, f14, f15, f16, f17, f18, f19, f20, f21, f22, f23, f24, f25, hbel, hrw, grw, i14⟩⟩ := hinv
          have e8 := f8 (hdep.get 8 rfl)
          subst e8
          have e10 := f10 (hdep.get 10 rfl)
          subst e10
          go_wp2_with fail
          exact rtInv.mk u14 u34 u35 u36 u37 u38 u39 u40 u41 (.slice (some ⟨bx, ox, none⟩) X.length cap) u43 (.int .i64 (m : Int)) (.pointer (some ⟨bx, ox + m, none⟩)) u46 u47 u48 u49 u50 u51 u52 u53 u54 u55 u56 u57 u58 y6 y13 y14 y21 y22 p9 g9 k9 (by first | rfl | kernel_rfl) (f0.keep (i := 11) (by decide)) (f1.keep (i := 11) (by decide)) (f2.keep (i := 11) (by decide)) (f3.keep (i := 11) (by decide)) (f4.keep (i := 11) (by decide)) (f5.keep (i := 11) (by decide)) (f6.keep (i := 11) (by decide)) (f7.keep (i := 11) (by decide)) (Gd.new rfl) (f9.keep (i := 11) (by decide)) (Gd.new rfl) (Gd.new (by first | rfl | simp)) (f12.keep (i := 11) (by decide)) (f13.keep (i := 11) (by decide)) (f14.keep (i := 11) (by decide)) (f15.keep (i := 11) (by decide)) (f16.keep (i := 11) (by decide)) (f17.keep (i := 11) (by decide)) (f18.keep (i := 11) (by decide)) (f19.keep (i := 11) (by decide)) (f20.keep (i := 11) (by decide)) (f21.keep (i := 11) (by decide)) (f22.keep (i := 11) (by decide)) (f23.keep (i := 11) (by decide)) (f24.keep (i := 11) (by decide)) (f25.keep (i := 11) (by decide)) hbel (hrw.keep (i := 11) (by decide)) (grw.keep (i := 11) (by decide)) (i14.keep (i := 11) (by decide))
        refine .cons 13 rfl ?_ ?_
        · intro d a w9 hsz hcl hinv hd hdep
          obtain ⟨⟨u14, u34, u35, u36, u37, u38, u39, u40, u41, u42, u43, u44, u45, u46, u47, u48, u49, u50, u51, u52, u53, u54, u55, u56, u57, u58, y6, y13, y14, y21, y22, p9, g9, k9, rfl, f0, f1, f2, f3, f4, f5, f6, f7, f8, f9, f10, f11, f12, f13, f14, f15, f16, f17, f18, f19, f20, f21, f22, f23, f24, f25, hbel, hrw, grw, i14⟩⟩ := hinv
          have e11 := f11 (hdep.get 11 rfl)
          subst e11
          have hcell : w9.cell? ⟨bx, ox + m, none⟩ = some (.float .f32 x0) := by rw [hbel.cell (p := ⟨bx, ox + m, none⟩) hbx]; exact Hc2.out
          go_wp2_with fail
          exact rtInv.mk u14 u34 u35 u36 u37 u38 u39 u40 u41 u42 u43 u44 (.pointer (some ⟨bx, ox + m, none⟩)) (.float .f32 x0) u47 u48 u49 u50 u51 u52 u53 u54 u55 u56 u57 u58 y6 y13 y14 y21 y22 p9 g9 k9 (by first | rfl | kernel_rfl) (f0.keep (i := 12) (by decide)) (f1.keep (i := 12) (by decide)) (f2.keep (i := 12) (by decide)) (f3.keep (i := 12) (by decide)) (f4.keep (i := 12) (by decide)) (f5.keep (i := 12) (by decide)) (f6.keep (i := 12) (by decide)) (f7.keep (i := 12) (by decide)) (f8.keep (i := 12) (by decide)) (f9.keep (i := 12) (by decide)) (f10.keep (i := 12) (by decide)) (Gd.new rfl) (Gd.new (by first | rfl | simp)) (f13.keep (i := 12) (by decide)) (f14.keep (i := 12) (by decide)) (f15.keep (i := 12) (by decide)) (f16.keep (i := 12) (by decide)) (f17.keep (i := 12) (by decide)) (f18.keep (i := 12) (by decide)) (f19.keep (i := 12) (by decide)) (f20.keep (i := 12) (by decide)) (f21.keep (i := 12) (by decide)) (f22.keep (i := 12) (by decide)) (f23.keep (i := 12) (by decide)) (f24.keep (i := 12) (by decide)) (f25.keep (i := 12) (by decide)) hbel (hrw.keep (i := 12) (by decide)) (grw.keep (i := 12) (by decide)) (i14.keep (i := 12) (by decide))
        refine .cons 14 rfl ?_ ?_
        · intro d a w9 hsz hcl hinv hd hdep
          obtain ⟨⟨u14, u34, u35, u36, u37, u38, u39, u40, u41, u42, u43, u44, u45, u46, u47, u48, u49, u50, u51, u52, u53, u54, u55, u56, u57, u58, y6, y13, y14, y21, y22, p9, g9, k9, rfl, f0, f1, f2, f3, f4, f5, f6, f7, f8, f9, f10, f11, f12, f13, f14, f15, f16, f17, f18, f19, f20, f21, f22, f23, f24, f25, hbel, hrw, grw, i14⟩⟩ := hinv
          have e7 := f7 (hdep.get 7 rfl)
          subst e7
          have e12 := f12 (hdep.get 12 rfl)
          subst e12
          have n14 := hcl.not hd 14 _ rfl rfl
          have n22 := hcl.not n14 22 _ rfl rfl
          have n23 := hcl.not n22 23 _ rfl rfl
          have n24 := hcl.not n23 24 _ rfl rfl
          have n25 := hcl.not n24 25 _ rfl rfl
          go_wp2_with (((with_reducible refine wpList_bin ?_); refine wpList_f32 rfl _ _ _ _ _ rfl rfl rfl (by decide) (by first | assumption | exact Is32.c (by decide)) (by first | assumption | exact Is32.c (by decide)) ?_; intro z nq hz))
          have hzn := hz
          exact rtInv.mk u14 u34 u35 u36 u37 u38 u39 u40 (.float .f32 b) u42 u43 u44 u45 (.float .f32 x0) (.float .f32 z) u48 u49 u50 u51 u52 u53 u54 u55 u56 u57 u58 y6 z y14 y21 y22 p9 g9 k9 (by first | rfl | kernel_rfl) (f0.keep (i := 13) (by decide)) (f1.keep (i := 13) (by decide)) (f2.keep (i := 13) (by decide)) (f3.keep (i := 13) (by decide)) (f4.keep (i := 13) (by decide)) (f5.keep (i := 13) (by decide)) (f6.keep (i := 13) (by decide)) (Gd.new rfl) (f8.keep (i := 13) (by decide)) (f9.keep (i := 13) (by decide)) (f10.keep (i := 13) (by decide)) (f11.keep (i := 13) (by decide)) (Gd.new rfl) (Gd.new ⟨rfl, hz⟩) (Gd.undone (i := 13) n14 (by decide)) (f15.keep (i := 13) (by decide)) (f16.keep (i := 13) (by decide)) (f17.keep (i := 13) (by decide)) (f18.keep (i := 13) (by decide)) (f19.keep (i := 13) (by decide)) (f20.keep (i := 13) (by decide)) (f21.keep (i := 13) (by decide)) (Gd.undone (i := 13) n22 (by decide)) (Gd.undone (i := 13) n23 (by decide)) (Gd.undone (i := 13) n24 (by decide)) (Gd.undone (i := 13) n25 (by decide)) (beld hbel _) ((hrw.imp fun h => h.drewN _).keep (i := 13) (by decide)) (Gd.undone (i := 13) n24 (by decide)) (i14.keep (i := 13) (by decide))
        refine .cons 15 rfl ?_ ?_
        · intro d a w9 hsz hcl hinv hd hdep
          obtain ⟨⟨u14, u34, u35, u36, u37, u38, u39, u40, u41, u42, u43, u44, u45, u46, u47, u48, u49, u50, u51, u52, u53, u54, u55, u56, u57, u58, y6, y13, y14, y21, y22, p9, g9, k9, rfl, f0, f1, f2, f3, f4, f5, f6, f7, f8, f9, f10, f11, f12, f13, f14, f15, f16, f17, f18, f19, f20, f21, f22, f23, f24, f25, hbel, hrw, grw, i14⟩⟩ := hinv
          obtain ⟨e6, hy6⟩ := f6 (hdep.get 6 rfl)
          subst e6
          obtain ⟨e13, hy13⟩ := f13 (hdep.get 13 rfl)
          subst e13
          have n22 := hcl.not hd 22 _ rfl rfl
          have n23 := hcl.not n22 23 _ rfl rfl
          have n24 := hcl.not n23 24 _ rfl rfl
          have n25 := hcl.not n24 25 _ rfl rfl
          go_wp2_with (((with_reducible refine wpList_bin ?_); refine wpList_f32 rfl _ _ _ _ _ rfl rfl rfl (by decide) (by first | assumption | exact Is32.c (by decide)) (by first | assumption | exact Is32.c (by decide)) ?_; intro z nq hz))
          have hzn := hz
          exact rtInv.mk u14 u34 u35 u36 u37 u38 u39 (.float .f32 y6) u41 u42 u43 u44 u45 u46 (.float .f32 y13) (.float .f32 z) u49 u50 u51 u52 u53 u54 u55 u56 u57 u58 y6 y13 z y21 y22 p9 g9 k9 (by first | rfl | kernel_rfl) (f0.keep (i := 14) (by decide)) (f1.keep (i := 14) (by decide)) (f2.keep (i := 14) (by decide)) (f3.keep (i := 14) (by decide)) (f4.keep (i := 14) (by decide)) (f5.keep (i := 14) (by decide)) (Gd.new ⟨rfl, hy6⟩) (f7.keep (i := 14) (by decide)) (f8.keep (i := 14) (by decide)) (f9.keep (i := 14) (by decide)) (f10.keep (i := 14) (by decide)) (f11.keep (i := 14) (by decide)) (f12.keep (i := 14) (by decide)) (Gd.new ⟨rfl, hy13⟩) (Gd.new ⟨rfl, hz⟩) (f15.keep (i := 14) (by decide)) (f16.keep (i := 14) (by decide)) (f17.keep (i := 14) (by decide)) (f18.keep (i := 14) (by decide)) (f19.keep (i := 14) (by decide)) (f20.keep (i := 14) (by decide)) (f21.keep (i := 14) (by decide)) (Gd.undone (i := 14) n22 (by decide)) (Gd.undone (i := 14) n23 (by decide)) (Gd.undone (i := 14) n24 (by decide)) (Gd.undone (i := 14) n25 (by decide)) (beld hbel _) ((hrw.imp fun h => h.drewN _).keep (i := 14) (by decide)) (Gd.undone (i := 14) n24 (by decide)) (i14.keep (i := 14) (by decide))
        refine .cons 16 rfl ?_ ?_
        · intro d a w9 hsz hcl hinv hd hdep
          obtain ⟨⟨u14, u34, u35, u36, u37, u38, u39, u40, u41, u42, u43, u44, u45, u46, u47, u48, u49, u50, u51, u52, u53, u54, u55, u56, u57, u58, y6, y13, y14, y21, y22, p9, g9, k9, rfl, f0, f1, f2, f3, f4, f5, f6, f7, f8, f9, f10, f11, f12, f13, f14, f15, f16, f17, f18, f19, f20, f21, f22, f23, f24, f25, hbel, hrw, grw, i14⟩⟩ := hinv
          go_wp2_with fail
          exact rtInv.mk u14 u34 u35 u36 u37 u38 u39 u40 u41 u42 u43 u44 u45 u46 u47 u48 (.float .f32 k) u50 u51 u52 u53 u54 u55 u56 u57 u58 y6 y13 y14 y21 y22 p9 g9 k9 (by first | rfl | kernel_rfl) (f0.keep (i := 15) (by decide)) (f1.keep (i := 15) (by decide)) (f2.keep (i := 15) (by decide)) (f3.keep (i := 15) (by decide)) (f4.keep (i := 15) (by decide)) (f5.keep (i := 15) (by decide)) (f6.keep (i := 15) (by decide)) (f7.keep (i := 15) (by decide)) (f8.keep (i := 15) (by decide)) (f9.keep (i := 15) (by decide)) (f10.keep (i := 15) (by decide)) (f11.keep (i := 15) (by decide)) (f12.keep (i := 15) (by decide)) (f13.keep (i := 15) (by decide)) (f14.keep (i := 15) (by decide)) (Gd.new (by first | rfl | simp)) (f16.keep (i := 15) (by decide)) (f17.keep (i := 15) (by decide)) (f18.keep (i := 15) (by decide)) (f19.keep (i := 15) (by decide)) (f20.keep (i := 15) (by decide)) (f21.keep (i := 15) (by decide)) (f22.keep (i := 15) (by decide)) (f23.keep (i := 15) (by decide)) (f24.keep (i := 15) (by decide)) (f25.keep (i := 15) (by decide)) hbel (hrw.keep (i := 15) (by decide)) (grw.keep (i := 15) (by decide)) (i14.keep (i := 15) (by decide))
        refine .cons 17 rfl ?_ ?_
        · intro d a w9 hsz hcl hinv hd hdep
          obtain ⟨⟨u14, u34, u35, u36, u37, u38, u39, u40, u41, u42, u43, u44, u45, u46, u47, u48, u49, u50, u51, u52, u53, u54, u55, u56, u57, u58, y6, y13, y14, y21, y22, p9, g9, k9, rfl, f0, f1, f2, f3, f4, f5, f6, f7, f8, f9, f10, f11, f12, f13, f14, f15, f16, f17, f18, f19, f20, f21, f22, f23, f24, f25, hbel, hrw, grw, i14⟩⟩ := hinv
          have n19 := hcl.not hd 19 _ rfl rfl
          have n20 := hcl.not n19 20 _ rfl rfl
          have n21 := hcl.not n20 21 _ rfl rfl
          have n22 := hcl.not n21 22 _ rfl rfl
          have n23 := hcl.not n22 23 _ rfl rfl
          have n24 := hcl.not n23 24 _ rfl rfl
          have n25 := hcl.not n24 25 _ rfl rfl
          have e14' := i14 n25
          subst e14'
          go_wp2_with fail
          exact rtInv.mk (.slice (some ⟨gb, 0, none⟩) (m + 1) co) u34 u35 u36 u37 u38 u39 u40 u41 u42 u43 u44 u45 u46 u47 u48 u49 (.slice (some ⟨gb, 0, none⟩) (m + 1) co) u51 u52 u53 u54 u55 u56 u57 u58 y6 y13 y14 y21 y22 p9 g9 k9 (by first | rfl | kernel_rfl) (f0.keep (i := 16) (by decide)) (f1.keep (i := 16) (by decide)) (f2.keep (i := 16) (by decide)) (f3.keep (i := 16) (by decide)) (f4.keep (i := 16) (by decide)) (f5.keep (i := 16) (by decide)) (f6.keep (i := 16) (by decide)) (f7.keep (i := 16) (by decide)) (f8.keep (i := 16) (by decide)) (f9.keep (i := 16) (by decide)) (f10.keep (i := 16) (by decide)) (f11.keep (i := 16) (by decide)) (f12.keep (i := 16) (by decide)) (f13.keep (i := 16) (by decide)) (f14.keep (i := 16) (by decide)) (f15.keep (i := 16) (by decide)) (Gd.new (by first | rfl | simp)) (f17.keep (i := 16) (by decide)) (f18.keep (i := 16) (by decide)) (f19.keep (i := 16) (by decide)) (f20.keep (i := 16) (by decide)) (f21.keep (i := 16) (by decide)) (f22.keep (i := 16) (by decide)) (f23.keep (i := 16) (by decide)) (f24.keep (i := 16) (by decide)) (f25.keep (i := 16) (by decide)) hbel (hrw.keep (i := 16) (by decide)) (grw.keep (i := 16) (by decide)) (Ng.keep (i := 16) (fun _ => rfl) (by decide))
        refine .cons 18 rfl ?_ ?_
        · intro d a w9 hsz hcl hinv hd hdep
          obtain ⟨⟨u14, u34, u35, u36, u37, u38, u39, u40, u41, u42, u43, u44, u45, u46, u47, u48, u49, u50, u51, u52, u53, u54, u55, u56, u57, u58, y6, y13, y14, y21, y22, p9, g9, k9, rfl, f0, f1, f2, f3, f4, f5, f6, f7, f8, f9, f10, f11, f12, f13, f14, f15, f16, f17, f18, f19, f20, f21, f22, f23, f24, f25, hbel, hrw, grw, i14⟩⟩ := hinv
          go_wp2_with fail
          exact rtInv.mk u14 u34 u35 u36 u37 u38 u39 u40 u41 u42 u43 u44 u45 u46 u47 u48 u49 u50 (.int .i64 ((m : Int) + 1)) u52 u53 u54 u55 u56 u57 u58 y6 y13 y14 y21 y22 p9 g9 k9 (by first | rfl | kernel_rfl) (f0.keep (i := 17) (by decide)) (f1.keep (i := 17) (by decide)) (f2.keep (i := 17) (by decide)) (f3.keep (i := 17) (by decide)) (f4.keep (i := 17) (by decide)) (f5.keep (i := 17) (by decide)) (f6.keep (i := 17) (by decide)) (f7.keep (i := 17) (by decide)) (f8.keep (i := 17) (by decide)) (f9.keep (i := 17) (by decide)) (f10.keep (i := 17) (by decide)) (f11.keep (i := 17) (by decide)) (f12.keep (i := 17) (by decide)) (f13.keep (i := 17) (by decide)) (f14.keep (i := 17) (by decide)) (f15.keep (i := 17) (by decide)) (f16.keep (i := 17) (by decide)) (Gd.new (by first | rfl | simp)) (f18.keep (i := 17) (by decide)) (f19.keep (i := 17) (by decide)) (f20.keep (i := 17) (by decide)) (f21.keep (i := 17) (by decide)) (f22.keep (i := 17) (by decide)) (f23.keep (i := 17) (by decide)) (f24.keep (i := 17) (by decide)) (f25.keep (i := 17) (by decide)) hbel (hrw.keep (i := 17) (by decide)) (grw.keep (i := 17) (by decide)) (i14.keep (i := 17) (by decide))
        refine .cons 19 rfl ?_ ?_
        · intro d a w9 hsz hcl hinv hd hdep
          obtain ⟨⟨u14, u34, u35, u36, u37, u38, u39, u40, u41, u42, u43, u44, u45, u46, u47, u48, u49, u50, u51, u52, u53, u54, u55, u56, u57, u58, y6, y13, y14, y21, y22, p9, g9, k9, rfl, f0, f1, f2, f3, f4, f5, f6, f7, f8, f9, f10, f11, f12, f13, f14, f15, f16, f17, f18, f19, f20, f21, f22, f23, f24, f25, hbel, hrw, grw, i14⟩⟩ := hinv
          have e17 := f17 (hdep.get 17 rfl)
          subst e17
          go_wp2_with fail
          exact rtInv.mk u14 u34 u35 u36 u37 u38 u39 u40 u41 u42 u43 u44 u45 u46 u47 u48 u49 u50 (.int .i64 ((m : Int) + 1)) (.int .i64 (m : Int)) u53 u54 u55 u56 u57 u58 y6 y13 y14 y21 y22 p9 g9 k9 (by first | rfl | kernel_rfl) (f0.keep (i := 18) (by decide)) (f1.keep (i := 18) (by decide)) (f2.keep (i := 18) (by decide)) (f3.keep (i := 18) (by decide)) (f4.keep (i := 18) (by decide)) (f5.keep (i := 18) (by decide)) (f6.keep (i := 18) (by decide)) (f7.keep (i := 18) (by decide)) (f8.keep (i := 18) (by decide)) (f9.keep (i := 18) (by decide)) (f10.keep (i := 18) (by decide)) (f11.keep (i := 18) (by decide)) (f12.keep (i := 18) (by decide)) (f13.keep (i := 18) (by decide)) (f14.keep (i := 18) (by decide)) (f15.keep (i := 18) (by decide)) (f16.keep (i := 18) (by decide)) (Gd.new rfl) (Gd.new (by first | rfl | simp)) (f19.keep (i := 18) (by decide)) (f20.keep (i := 18) (by decide)) (f21.keep (i := 18) (by decide)) (f22.keep (i := 18) (by decide)) (f23.keep (i := 18) (by decide)) (f24.keep (i := 18) (by decide)) (f25.keep (i := 18) (by decide)) hbel (hrw.keep (i := 18) (by decide)) (grw.keep (i := 18) (by decide)) (i14.keep (i := 18) (by decide))
        refine .cons 20 rfl ?_ ?_
        · intro d a w9 hsz hcl hinv hd hdep
          obtain ⟨⟨u14, u34, u35, u36, u37, u38, u39, u40, u41, u42, u43, u44, u45, u46, u47, u48, u49, u50, u51, u52, u53, u54, u55, u56, u57, u58, y6, y13, y14, y21, y22, p9, g9, k9, rfl, f0, f1, f2, f3, f4, f5, f6, f7, f8, f9, f10, f11, f12, f13, f14, f15, f16, f17, f18, f19, f20, f21, f22, f23, f24, f25, hbel, hrw, grw, i14⟩⟩ := hinv
          have e16 := f16 (hdep.get 16 rfl)
          subst e16
          have e18 := f18 (hdep.get 18 rfl)
          subst e18
          go_wp2_with fail
          exact rtInv.mk u14 u34 u35 u36 u37 u38 u39 u40 u41 u42 u43 u44 u45 u46 u47 u48 u49 (.slice (some ⟨gb, 0, none⟩) (m + 1) co) u51 (.int .i64 (m : Int)) (.pointer (some ⟨gb, m, none⟩)) u54 u55 u56 u57 u58 y6 y13 y14 y21 y22 p9 g9 k9 (by first | rfl | kernel_rfl) (f0.keep (i := 19) (by decide)) (f1.keep (i := 19) (by decide)) (f2.keep (i := 19) (by decide)) (f3.keep (i := 19) (by decide)) (f4.keep (i := 19) (by decide)) (f5.keep (i := 19) (by decide)) (f6.keep (i := 19) (by decide)) (f7.keep (i := 19) (by decide)) (f8.keep (i := 19) (by decide)) (f9.keep (i := 19) (by decide)) (f10.keep (i := 19) (by decide)) (f11.keep (i := 19) (by decide)) (f12.keep (i := 19) (by decide)) (f13.keep (i := 19) (by decide)) (f14.keep (i := 19) (by decide)) (f15.keep (i := 19) (by decide)) (Gd.new rfl) (f17.keep (i := 19) (by decide)) (Gd.new rfl) (Gd.new (by first | rfl | simp)) (f20.keep (i := 19) (by decide)) (f21.keep (i := 19) (by decide)) (f22.keep (i := 19) (by decide)) (f23.keep (i := 19) (by decide)) (f24.keep (i := 19) (by decide)) (f25.keep (i := 19) (by decide)) hbel (hrw.keep (i := 19) (by decide)) (grw.keep (i := 19) (by decide)) (i14.keep (i := 19) (by decide))
        refine .cons 21 rfl ?_ ?_
        · intro d a w9 hsz hcl hinv hd hdep
          obtain ⟨⟨u14, u34, u35, u36, u37, u38, u39, u40, u41, u42, u43, u44, u45, u46, u47, u48, u49, u50, u51, u52, u53, u54, u55, u56, u57, u58, y6, y13, y14, y21, y22, p9, g9, k9, rfl, f0, f1, f2, f3, f4, f5, f6, f7, f8, f9, f10, f11, f12, f13, f14, f15, f16, f17, f18, f19, f20, f21, f22, f23, f24, f25, hbel, hrw, grw, i14⟩⟩ := hinv
          have e19 := f19 (hdep.get 19 rfl)
          subst e19
          have n21 := hcl.not hd 21 _ rfl rfl
          have n22 := hcl.not n21 22 _ rfl rfl
          have n23 := hcl.not n22 23 _ rfl rfl
          have n24 := hcl.not n23 24 _ rfl rfl
          obtain ⟨hcell, hfz⟩ := (hrw n24).at Hlen.out.symm m (by rw [Hlen.out]; omega)
          rw [Hgy.out] at hcell
          go_wp2_with fail
          exact rtInv.mk u14 u34 u35 u36 u37 u38 u39 u40 u41 u42 u43 u44 u45 u46 u47 u48 u49 u50 u51 u52 (.pointer (some ⟨gb, m, none⟩)) (.float .f32 y) u55 u56 u57 u58 y6 y13 y14 y21 y22 p9 g9 k9 (by first | rfl | kernel_rfl) (f0.keep (i := 20) (by decide)) (f1.keep (i := 20) (by decide)) (f2.keep (i := 20) (by decide)) (f3.keep (i := 20) (by decide)) (f4.keep (i := 20) (by decide)) (f5.keep (i := 20) (by decide)) (f6.keep (i := 20) (by decide)) (f7.keep (i := 20) (by decide)) (f8.keep (i := 20) (by decide)) (f9.keep (i := 20) (by decide)) (f10.keep (i := 20) (by decide)) (f11.keep (i := 20) (by decide)) (f12.keep (i := 20) (by decide)) (f13.keep (i := 20) (by decide)) (f14.keep (i := 20) (by decide)) (f15.keep (i := 20) (by decide)) (f16.keep (i := 20) (by decide)) (f17.keep (i := 20) (by decide)) (f18.keep (i := 20) (by decide)) (Gd.new rfl) (Gd.new (by first | rfl | simp)) (f21.keep (i := 20) (by decide)) (f22.keep (i := 20) (by decide)) (f23.keep (i := 20) (by decide)) (f24.keep (i := 20) (by decide)) (f25.keep (i := 20) (by decide)) hbel (hrw.keep (i := 20) (by decide)) (grw.keep (i := 20) (by decide)) (i14.keep (i := 20) (by decide))
        refine .cons 22 rfl ?_ ?_
        · intro d a w9 hsz hcl hinv hd hdep
          obtain ⟨⟨u14, u34, u35, u36, u37, u38, u39, u40, u41, u42, u43, u44, u45, u46, u47, u48, u49, u50, u51, u52, u53, u54, u55, u56, u57, u58, y6, y13, y14, y21, y22, p9, g9, k9, rfl, f0, f1, f2, f3, f4, f5, f6, f7, f8, f9, f10, f11, f12, f13, f14, f15, f16, f17, f18, f19, f20, f21, f22, f23, f24, f25, hbel, hrw, grw, i14⟩⟩ := hinv
          have e15 := f15 (hdep.get 15 rfl)
          subst e15
          have e20 := f20 (hdep.get 20 rfl)
          subst e20
          have n22 := hcl.not hd 22 _ rfl rfl
          have n23 := hcl.not n22 23 _ rfl rfl
          have n24 := hcl.not n23 24 _ rfl rfl
          have n25 := hcl.not n24 25 _ rfl rfl
          go_wp2_with (((with_reducible refine wpList_bin ?_); refine wpList_f32 rfl _ _ _ _ _ rfl rfl rfl (by decide) (by first | assumption | exact Is32.c (by decide)) (by first | assumption | exact Is32.c (by decide)) ?_; intro z nq hz))
          have hzn := hz
          exact rtInv.mk u14 u34 u35 u36 u37 u38 u39 u40 u41 u42 u43 u44 u45 u46 u47 u48 (.float .f32 k) u50 u51 u52 u53 (.float .f32 y) (.float .f32 z) u56 u57 u58 y6 y13 y14 z y22 p9 g9 k9 (by first | rfl | kernel_rfl) (f0.keep (i := 21) (by decide)) (f1.keep (i := 21) (by decide)) (f2.keep (i := 21) (by decide)) (f3.keep (i := 21) (by decide)) (f4.keep (i := 21) (by decide)) (f5.keep (i := 21) (by decide)) (f6.keep (i := 21) (by decide)) (f7.keep (i := 21) (by decide)) (f8.keep (i := 21) (by decide)) (f9.keep (i := 21) (by decide)) (f10.keep (i := 21) (by decide)) (f11.keep (i := 21) (by decide)) (f12.keep (i := 21) (by decide)) (f13.keep (i := 21) (by decide)) (f14.keep (i := 21) (by decide)) (Gd.new rfl) (f16.keep (i := 21) (by decide)) (f17.keep (i := 21) (by decide)) (f18.keep (i := 21) (by decide)) (f19.keep (i := 21) (by decide)) (Gd.new rfl) (Gd.new ⟨rfl, hz⟩) (Gd.undone (i := 21) n22 (by decide)) (Gd.undone (i := 21) n23 (by decide)) (Gd.undone (i := 21) n24 (by decide)) (Gd.undone (i := 21) n25 (by decide)) (beld hbel _) ((hrw.imp fun h => h.drewN _).keep (i := 21) (by decide)) (Gd.undone (i := 21) n24 (by decide)) (i14.keep (i := 21) (by decide))
        refine .cons 23 rfl ?_ ?_
        · intro d a w9 hsz hcl hinv hd hdep
          obtain ⟨⟨u14, u34, u35, u36, u37, u38, u39, u40, u41, u42, u43, u44, u45, u46, u47, u48, u49, u50, u51, u52, u53, u54, u55, u56, u57, u58, y6, y13, y14, y21, y22, p9, g9, k9, rfl, f0, f1, f2, f3, f4, f5, f6, f7, f8, f9, f10, f11, f12, f13, f14, f15, f16, f17, f18, f19, f20, f21, f22, f23, f24, f25, hbel, hrw, grw, i14⟩⟩ := hinv
          obtain ⟨e14, hy14⟩ := f14 (hdep.get 14 rfl)
          subst e14
          obtain ⟨e21, hy21⟩ := f21 (hdep.get 21 rfl)
          subst e21
          have n23 := hcl.not hd 23 _ rfl rfl
          have n24 := hcl.not n23 24 _ rfl rfl
          have n25 := hcl.not n24 25 _ rfl rfl
          go_wp2_with (((with_reducible refine wpList_bin ?_); refine wpList_f32 rfl _ _ _ _ _ rfl rfl rfl (by decide) (by first | assumption | exact Is32.c (by decide)) (by first | assumption | exact Is32.c (by decide)) ?_; intro z nq hz))
          have hzn := hz
          exact rtInv.mk u14 u34 u35 u36 u37 u38 u39 u40 u41 u42 u43 u44 u45 u46 u47 (.float .f32 y14) u49 u50 u51 u52 u53 u54 (.float .f32 y21) (.float .f32 z) u57 u58 y6 y13 y14 y21 z p9 g9 k9 (by first | rfl | kernel_rfl) (f0.keep (i := 22) (by decide)) (f1.keep (i := 22) (by decide)) (f2.keep (i := 22) (by decide)) (f3.keep (i := 22) (by decide)) (f4.keep (i := 22) (by decide)) (f5.keep (i := 22) (by decide)) (f6.keep (i := 22) (by decide)) (f7.keep (i := 22) (by decide)) (f8.keep (i := 22) (by decide)) (f9.keep (i := 22) (by decide)) (f10.keep (i := 22) (by decide)) (f11.keep (i := 22) (by decide)) (f12.keep (i := 22) (by decide)) (f13.keep (i := 22) (by decide)) (Gd.new ⟨rfl, hy14⟩) (f15.keep (i := 22) (by decide)) (f16.keep (i := 22) (by decide)) (f17.keep (i := 22) (by decide)) (f18.keep (i := 22) (by decide)) (f19.keep (i := 22) (by decide)) (f20.keep (i := 22) (by decide)) (Gd.new ⟨rfl, hy21⟩) (Gd.new ⟨rfl, hz⟩) (Gd.undone (i := 22) n23 (by decide)) (Gd.undone (i := 22) n24 (by decide)) (Gd.undone (i := 22) n25 (by decide)) (beld hbel _) ((hrw.imp fun h => h.drewN _).keep (i := 22) (by decide)) (Gd.undone (i := 22) n24 (by decide)) (i14.keep (i := 22) (by decide))
        refine .cons 24 rfl ?_ ?_
        · intro d a w9 hsz hcl hinv hd hdep
          obtain ⟨⟨u14, u34, u35, u36, u37, u38, u39, u40, u41, u42, u43, u44, u45, u46, u47, u48, u49, u50, u51, u52, u53, u54, u55, u56, u57, u58, y6, y13, y14, y21, y22, p9, g9, k9, rfl, f0, f1, f2, f3, f4, f5, f6, f7, f8, f9, f10, f11, f12, f13, f14, f15, f16, f17, f18, f19, f20, f21, f22, f23, f24, f25, hbel, hrw, grw, i14⟩⟩ := hinv
          obtain ⟨e22, hy22⟩ := f22 (hdep.get 22 rfl)
          subst e22
          have n24 := hcl.not hd 24 _ rfl rfl
          have n25 := hcl.not n24 25 _ rfl rfl
          go_wp2_with fail
          exact rtInv.mk u14 u34 u35 u36 u37 u38 u39 u40 u41 u42 u43 u44 u45 u46 u47 u48 u49 u50 u51 u52 u53 u54 u55 (.float .f32 y22) (.slice (some ⟨w9.heap.size, 0, none⟩) 1 1) u58 y6 y13 y14 y21 y22 w9.heap.size g9 k9 (by first | rfl | kernel_rfl) (f0.keep (i := 23) (by decide)) (f1.keep (i := 23) (by decide)) (f2.keep (i := 23) (by decide)) (f3.keep (i := 23) (by decide)) (f4.keep (i := 23) (by decide)) (f5.keep (i := 23) (by decide)) (f6.keep (i := 23) (by decide)) (f7.keep (i := 23) (by decide)) (f8.keep (i := 23) (by decide)) (f9.keep (i := 23) (by decide)) (f10.keep (i := 23) (by decide)) (f11.keep (i := 23) (by decide)) (f12.keep (i := 23) (by decide)) (f13.keep (i := 23) (by decide)) (f14.keep (i := 23) (by decide)) (f15.keep (i := 23) (by decide)) (f16.keep (i := 23) (by decide)) (f17.keep (i := 23) (by decide)) (f18.keep (i := 23) (by decide)) (f19.keep (i := 23) (by decide)) (f20.keep (i := 23) (by decide)) (f21.keep (i := 23) (by decide)) (Gd.new ⟨rfl, hy22⟩) (Gd.new ⟨(by first | rfl | simp), (Bx.new w9 [.float .f32 y22] _).c 0 rfl, by simp, fun h9 => by have := ((hrw (by assumption)).lo _ h9).2; omega⟩) (Gd.undone (i := 23) n24 (by decide)) (Gd.undone (i := 23) n25 (by decide)) (hbel.alloc hbel.size _) ((hrw.imp fun h => h.alloc _).keep (i := 23) (by decide)) (Gd.undone (i := 23) n24 (by decide)) (i14.keep (i := 23) (by decide))
        refine .cons 25 rfl ?_ ?_
        · intro d a w9 hsz hcl hinv hd hdep
          obtain ⟨⟨u14, u34, u35, u36, u37, u38, u39, u40, u41, u42, u43, u44, u45, u46, u47, u48, u49, u50, u51, u52, u53, u54, u55, u56, u57, u58, y6, y13, y14, y21, y22, p9, g9, k9, rfl, f0, f1, f2, f3, f4, f5, f6, f7, f8, f9, f10, f11, f12, f13, f14, f15, f16, f17, f18, f19, f20, f21, f22, f23, f24, f25, hbel, hrw, grw, i14⟩⟩ := hinv
          have e0 := f0 (hdep.get 0 rfl)
          subst e0
          obtain ⟨e23, hq23⟩ := f23 (hdep.get 23 rfl)
          subst e23
          obtain ⟨hqc, hql, hqn⟩ := hq23
          have n25 := hcl.not hd 25 _ rfl rfl
          have Hlo9 : w.heap.size ≤ w9.heap.size := hbel.size
          have Hlob := Nat.le_refl w.heap.size
          have hrow9 := hrw hd
          go_wp2_with (at_builtin; refine push_any rfl rfl _ _ rfl rfl hrow9 p9 _ y22 rfl hqc Hl9.out Hlo9 ?_)
          intro gn kn w8 hrown hp9
          go_wp2_with fail
          exact rtInv.mk u14 (.slice (some ⟨gb, 0, none⟩) (m + 1) co) u35 u36 u37 u38 u39 u40 u41 u42 u43 u44 u45 u46 u47 u48 u49 u50 u51 u52 u53 u54 u55 u56 (.slice (some ⟨p9, 0, none⟩) 1 1) (.slice (some ⟨gn, 0, none⟩) (zs.length + 1) kn) y6 y13 y14 y21 y22 p9 gn kn (by first | rfl | kernel_rfl) (Gd.new rfl) (f1.keep (i := 24) (by decide)) (f2.keep (i := 24) (by decide)) (f3.keep (i := 24) (by decide)) (f4.keep (i := 24) (by decide)) (f5.keep (i := 24) (by decide)) (f6.keep (i := 24) (by decide)) (f7.keep (i := 24) (by decide)) (f8.keep (i := 24) (by decide)) (f9.keep (i := 24) (by decide)) (f10.keep (i := 24) (by decide)) (f11.keep (i := 24) (by decide)) (f12.keep (i := 24) (by decide)) (f13.keep (i := 24) (by decide)) (f14.keep (i := 24) (by decide)) (f15.keep (i := 24) (by decide)) (f16.keep (i := 24) (by decide)) (f17.keep (i := 24) (by decide)) (f18.keep (i := 24) (by decide)) (f19.keep (i := 24) (by decide)) (f20.keep (i := 24) (by decide)) (f21.keep (i := 24) (by decide)) (f22.keep (i := 24) (by decide)) (Gd.new ⟨rfl, (hp9.1.cell hqc (fun h => hqn h.symm)), (Nat.lt_of_lt_of_le hql hp9.1.size), hqn⟩) (Gd.new (by first | rfl | simp)) (Gd.undone (i := 24) n25 (by decide)) (Below.pushed hbel hp9 hrow9 Hlob hbel.size) (Ng.new (by rw [hsz]; exact (by decide : 24 < 26))) (Gd.new hrown) (i14.keep (i := 24) (by decide))
        refine .cons 26 rfl ?_ trivial
        · intro d a w9 hsz hcl hinv hd hdep
          obtain ⟨⟨u14, u34, u35, u36, u37, u38, u39, u40, u41, u42, u43, u44, u45, u46, u47, u48, u49, u50, u51, u52, u53, u54, u55, u56, u57, u58, y6, y13, y14, y21, y22, p9, g9, k9, rfl, f0, f1, f2, f3, f4, f5, f6, f7, f8, f9, f10, f11, f12, f13, f14, f15, f16, f17, f18, f19, f20, f21, f22, f23, f24, f25, hbel, hrw, grw, i14⟩⟩ := hinv
          have e24 := f24 (hdep.get 24 rfl)
          subst e24
          go_wp2_with fail
          exact rtInv.mk (.slice (some ⟨g9, 0, none⟩) (zs.length + 1) k9) u34 u35 u36 u37 u38 u39 u40 u41 u42 u43 u44 u45 u46 u47 u48 u49 u50 u51 u52 u53 u54 u55 u56 u57 (.slice (some ⟨g9, 0, none⟩) (zs.length + 1) k9) y6 y13 y14 y21 y22 p9 g9 k9 (by first | rfl | kernel_rfl) (f0.keep (i := 25) (by decide)) (f1.keep (i := 25) (by decide)) (f2.keep (i := 25) (by decide)) (f3.keep (i := 25) (by decide)) (f4.keep (i := 25) (by decide)) (f5.keep (i := 25) (by decide)) (f6.keep (i := 25) (by decide)) (f7.keep (i := 25) (by decide)) (f8.keep (i := 25) (by decide)) (f9.keep (i := 25) (by decide)) (f10.keep (i := 25) (by decide)) (f11.keep (i := 25) (by decide)) (f12.keep (i := 25) (by decide)) (f13.keep (i := 25) (by decide)) (f14.keep (i := 25) (by decide)) (f15.keep (i := 25) (by decide)) (f16.keep (i := 25) (by decide)) (f17.keep (i := 25) (by decide)) (f18.keep (i := 25) (by decide)) (f19.keep (i := 25) (by decide)) (f20.keep (i := 25) (by decide)) (f21.keep (i := 25) (by decide)) (f22.keep (i := 25) (by decide)) (f23.keep (i := 25) (by decide)) (Gd.new rfl) (Gd.new (by first | rfl | simp)) hbel (hrw.keep (i := 25) (by decide)) (grw.keep (i := 25) (by decide)) (Ng.new (by rw [hsz]; exact (by decide : 25 < 26)))
    · have hmX : X.length = m + 1 := by omega
      have hnl : ¬ ((m : Int) + 1 < (X.length : Int)) := by omega
      have hlz : (ls ++ [y]).length = m + 1 := by rw [List.length_append, List.length_singleton, HL.out]
      have Hlz := Lib.hid hlz
      have hrf : RowF .f32 wr (some ⟨gb, 0, none⟩) (ls ++ [y]) := by have h9 := HR.out; rw [← hlz] at h9; exact (FRow.mk h9).row
      have HRF := Lib.hid hrf
      have HmX := Lib.hid hmX
      clear hlz hrf hmX
      go_wp2_with fail
      refine (by have h9 := l02Fin_g (some ⟨gb, 0, none⟩) co (ls ++ [y]) wr HRF.out (by rw [Hlz.out, ← HmX.out]; exact hl); rw [Hlz.out] at h9; exact h9 : Calls Try.prog 85 #[.slice (some ⟨gb, 0, none⟩) (m + 1) co] wr (SayQ ((ls ++ [y]).all fin32) wr)).mono ?_
      rintro e w9 ⟨bb, hbb, rfl, q9, hw9⟩
      have HB9 : Hid (Below w.heap.size w w9) := Lib.hid (by rw [hw9]; exact beld HBk.out _)
      have HRow9 : Hid (RowO w9 w.heap.size (.slice (some ⟨gb, 0, none⟩) (m + 1) co) (ls ++ [y])) := Lib.hid (by rw [hw9]; exact HR.out)
      have hall := HIs.out.fin
      have hex := HIs.out.exact
      rw [← HmX.out] at hall hex
      rw [hall] at hbb
      have HEx := Lib.hid hex
      have HBB := Lib.hid hbb
      clear hw9 hall hex hbb
      cases bb
      · go_wp2_with fail
        go_ret2
        rw [HV.out]
        unfold rowO
        rw [HBB.out]
        exact ListB.no HB9.out
      · go_wp2_with fail
        go_ret2
        rw [HV.out]
        unfold rowO
        rw [HBB.out, if_pos rfl, ← HEx.out HBB.out]
        exact ListB.yes (lo := w.heap.size) HRow9.out (Nat.le_refl _) (by rw [Hlz.out, ← HmX.out]; exact hl) HB9.out

set_option maxHeartbeats 4000000 in
theorem routeReach_s {A0 A1 T FF : Option Nat} {r0 r1 t f : Nat} (a : Option Addr) (cap : Nat) (X : List Nat) (w : World) (h0 : Is32 A0 r0) (h1 : Is32 A1 r1) (hx : RowF .f32 w a X) (hl : X.length ≤ 1048576) (hz : ∀ z ∈ X, z < 4294967296) (ht : Is32 T t) (hf : Is32 FF f) : Calls Try.prog 29 #[.agg #[.float .f32 r0, .float .f32 r1], .slice a X.length cap, .float .f32 t, .float .f32 f] w (ListB (routeO A0 A1 T FF X) w) := by
  obtain ⟨Q, hQ⟩ : ∃ Q, routeO A0 A1 T FF X = Q := ⟨_, rfl⟩
  rw [hQ]
  have HQ := Lib.hid hQ
  have HX := Lib.hid hx
  have HZ := Lib.hid hz
  clear hQ hx hz
  go_enter Try.func29, Try.ntmps29
  go_wp2_with fail
  refine (l05Reach_o _ _ (Bx.new w [.float .f32 r0, .float .f32 r1] _) h0 h1).mono ?_
  rintro e w1 ⟨bb, hbb, rfl, q1, hw1⟩
  have HB1 : Hid (Below w.heap.size w w1) := Lib.hid (by rw [hw1]; exact beld (bel1 _ _) _)
  have HX1 : Hid (Bx w1 w.heap.size [.float .f32 r0, .float .f32 r1]) := Lib.hid (by rw [hw1]; exact Bx.drewN (Bx.new w [.float .f32 r0, .float .f32 r1] _) _)
  have hs1 : w.heap.size < w1.heap.size := HX1.out.1
  have Hr := Lib.hid hbb
  clear hbb hw1
  cases bb
  · have hv : Q = ([], false) := by rw [← HQ.out]; unfold routeO; (have h9 : (sharesO A0 A1 T).2.2.2 = false := by unfold sharesO; rw [Hr.out]; rfl); rw [h9]; rfl
    have HV := Lib.hid hv
    clear hv
    go_wp2_with fail
    go_ret2
    rw [HV.out]
    exact ListB.no HB1.out
  go_wp2_with fail
  refine (l05Ins_o a cap X _ (HX.out.below HB1.out (Nat.le_refl _)) hl HZ.out).mono ?_
  rintro e w2 ⟨bb, hbb, rfl, q2, hw2⟩
  have HB2 : Hid (Below w.heap.size w w2) := Lib.hid (by rw [hw2]; exact beld HB1.out _)
  have HX2 : Hid (Bx w2 w.heap.size [.float .f32 r0, .float .f32 r1]) := Lib.hid (by rw [hw2]; exact HX1.out.drewN _)
  have HI := Lib.hid hbb
  clear hbb hw2
  cases bb
  · have hv : Q = ([], false) := by rw [← HQ.out]; unfold routeO; rw [HI.out]; simp only [Bool.false_and, Bool.and_false]; rfl
    have HV := Lib.hid hv
    clear hv
    go_wp2_with fail
    go_ret2
    rw [HV.out]
    exact ListB.no HB2.out
  go_wp2_with fail
  refine (l02Above_o _ ht).mono ?_
  rintro e w3 ⟨bb, hbb, rfl, q3, hw3⟩
  have HB3 : Hid (Below w.heap.size w w3) := Lib.hid (by rw [hw3]; exact beld HB2.out _)
  have HX3 : Hid (Bx w3 w.heap.size [.float .f32 r0, .float .f32 r1]) := Lib.hid (by rw [hw3]; exact HX2.out.drewN _)
  have HT := Lib.hid hbb
  clear hbb hw3
  cases bb
  · have hv : Q = ([], false) := by rw [← HQ.out]; unfold routeO; (have h9 : (sharesO A0 A1 T).2.2.2 = false := by unfold sharesO; rw [HT.out, Bool.and_false]; rfl); rw [h9]; rfl
    have HV := Lib.hid hv
    clear hv
    go_wp2_with fail
    go_ret2
    rw [HV.out]
    exact ListB.no HB3.out
  go_wp2_with fail
  refine (l01Fin_o _ hf).mono ?_
  rintro e w4 ⟨bb, hbb, rfl, q4, hw4⟩
  have HB4 : Hid (Below w.heap.size w w4) := Lib.hid (by rw [hw4]; exact beld HB3.out _)
  have HX4 : Hid (Bx w4 w.heap.size [.float .f32 r0, .float .f32 r1]) := Lib.hid (by rw [hw4]; exact HX3.out.drewN _)
  have HF := Lib.hid hbb
  clear hbb hw4
  cases bb
  · have hv : Q = ([], false) := by rw [← HQ.out]; unfold routeO; rw [HF.out]; simp only [Bool.and_false]; rfl
    have HV := Lib.hid hv
    clear hv
    go_wp2_with fail
    go_ret2
    rw [HV.out]
    exact ListB.no HB4.out
  have hins := HI.out
  unfold insB at hins
  simp only [Bool.and_eq_true, decide_eq_true_eq] at hins
  obtain ⟨⟨hX1, hX2⟩, hX3⟩ := hins
  clear hX2 hX3
  have hv : routeU (sharesU A0 A1 T) FF X = Q := by
    rw [← HQ.out]
    unfold routeO sharesO
    rw [Hr.out, HT.out, HI.out, HF.out]
    simp only [Bool.and_self, Bool.and_true, if_true]
    rfl
  have HV := Lib.hid hv
  clear hv
  go_wp2_with fail
  refine (l05Route_o _ a cap X _ HX4.out h0 h1 (HX.out.below HB4.out (Nat.le_refl _)) hl HZ.out ht hf hX1).mono ?_
  rw [HV.out]
  rintro e w5 ⟨a5, c5, rfl, hf5, hl5, hb5⟩
  have hs4 : w.heap.size ≤ w4.heap.size := HB4.out.size
  have HP : Hid (ListB Q w (.returned (.tuple #[.slice a5 Q.1.length c5, .bool Q.2])) w5) := Lib.hid ⟨a5, c5, rfl, hf5.mono hs4 (Nat.le_refl _) (Nat.le_refl _), hl5, HB4.out.trans (hb5.mono hs4)⟩
  clear hf5 hl5 hb5
  go_wp2_with fail
  go_ret2
  exact HP.out

end Go.Proofs.Ytdoecpghlfjhiaa
