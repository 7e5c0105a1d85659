/- A day of a river: the program. -/
import Derived.Test.YtckmacnmmloemaaDayS
import Derived.Test.YtckmacnmmloemaaClo
import Derived.Deep.Cut
import Derived.Deep.RegionHeld3
import Derived.StillTailTactics
namespace Go.Proofs.Ytckmacnmmloemaa
open Go.RowKit
set_option linter.unusedVariables false
set_option linter.unusedSimpArgs false
set_option maxRecDepth 100000
attribute [local irreducible] wpV wpList Code.wp

/-- As it was below lo, and but for one block in all that was there. -/
def Frm (lo g1 : Nat) (w w' : World) : Prop := Below lo w w' ∧ ∀ b, b < w.heap.size → b ≠ g1 → w'.heap[b]? = w.heap[b]?
theorem Frm.step {lo g1 : Nat} {w a b : World} (h : Frm lo g1 w a) (hb : Below a.heap.size a b) (hlo : lo ≤ a.heap.size) : Frm lo g1 w b := ⟨h.1.trans (hb.mono hlo), fun k h1 h2 => (hb.block k (Nat.lt_of_lt_of_le h1 h.1.size)).trans (h.2 k h1 h2)⟩
theorem Frm.setCell {lo g1 : Nat} {w a : World} (h : Frm lo g1 w a) {p : Addr} (hp : lo ≤ p.block) (hq : p.block = g1 ∨ w.heap.size ≤ p.block) (u : Value) : Frm lo g1 w (a.setCell p u) := ⟨h.1.setCell hp u, fun k h1 h2 => (Below.heap_setCell _ _ _ _ (by omega)).trans (h.2 k h1 h2)⟩
theorem set_self {l : List Int} {k : Nat} (h : k < l.length) : l.set k (l.getD k 0) = l := by
  rw [List.getD_eq_getElem?_getD, List.getElem?_eq_getElem h]; exact List.set_getElem_self h
def PasQ (D V : List Int) (S : DaySt) (O : List Nat) (n lo g0 g1 g2 gO d0 d1 d2 eO : Nat) (w : World) (e : Ending) (w' : World) : Prop :=
  ∃ h1 h2, e = .returned (.tuple #[.slice (some ⟨h1, 0, none⟩) n n, .slice (some ⟨h2, 0, none⟩) n n]) ∧ w'.ownsRow lo 2 1 (.slice (some ⟨g0, 0, none⟩) n d0) n (ic D) ∧ w'.ownsRow lo 98 4 (.slice (some ⟨g1, 0, none⟩) n d1) n (ic S.M) ∧ w'.ownsRow lo 2 1 (.slice (some ⟨g2, 0, none⟩) n d2) n (ic V) ∧ w'.ownsRow lo 2 1 (.slice (some ⟨gO, 0, none⟩) n eO) n (ic (ints O)) ∧ w'.ownsRow lo 2 1 (.slice (some ⟨h1, 0, none⟩) n n) n (ic S.G) ∧ w'.ownsRow lo 2 1 (.slice (some ⟨h2, 0, none⟩) n n) n (ic S.L) ∧ (w.heap.size ≤ h1 ∧ w.heap.size ≤ h2 ∧ h1 ≠ h2) ∧ Below lo w w' ∧ ∀ b, b < w.heap.size → b ≠ g1 → w'.heap[b]? = w.heap[b]?
structure pasIS (w0 : World) (t0_ t1_ t2_ t3_ t4_ t5_ t6_ t7_ t10_ t11_ t12_ t19_ t20_ t21_ t22_ t23_ t24_ t25_ t26_ t27_ t28_ t29_ t30_ t31_ t32_ t33_ t34_ t35_ t36_ t37_ t38_ t39_ t40_ t41_ t42_ t43_ t44_ t45_ t46_ t47_ t48_ t49_ t50_ t51_ t52_ t53_ t54_ t55_ t56_ t57_ t58_ t59_ t60_ t61_ t62_ t63_ t64_ t65_ t66_ t67_ t68_ t69_ t70_ t71_ t72_ t73_ t74_ t75_ t76_ t77_ t78_ : Value) (bi oi n ci : Nat) (d : Array Bool) (a : Act) (w9 : World) where
  u8 : Value
  u9 : Value
  u13 : Value
  u14 : Value
  u15 : Value
  u16 : Value
  u17 : Value
  u18 : Value
  g2 : Nat
  g5 : Nat
  ea : a = ⟨#[t0_, t1_, t2_, t3_, t4_, t5_, t6_, t7_, u8, u9, t10_, t11_, t12_, u13, u14, u15, u16, u17, u18, t19_, t20_, t21_, t22_, t23_, t24_, t25_, t26_, t27_, t28_, t29_, t30_, t31_, t32_, t33_, t34_, t35_, t36_, t37_, t38_, t39_, t40_, t41_, t42_, t43_, t44_, t45_, t46_, t47_, t48_, t49_, t50_, t51_, t52_, t53_, t54_, t55_, t56_, t57_, t58_, t59_, t60_, t61_, t62_, t63_, t64_, t65_, t66_, t67_, t68_, t69_, t70_, t71_, t72_, t73_, t74_, t75_, t76_, t77_, t78_], []⟩
  f0 : Gd d 0 (u13 = .slice (some ⟨bi, oi, none⟩) n ci)
  f1 : Gd d 1 (u14 = .int .i64 (n : Int))
  f2 : Gd d 2 (u15 = .slice (some ⟨g2, 0, none⟩) n n)
  f3 : Gd d 3 (u16 = .slice (some ⟨bi, oi, none⟩) n ci)
  f4 : Gd d 4 (u17 = .int .i64 (n : Int))
  f5 : Gd d 5 (u18 = .slice (some ⟨g5, 0, none⟩) n n)
  f6 : Gd d 6 (u8 = .slice (some ⟨g2, 0, none⟩) n n)
  f7 : Gd d 7 (u9 = .slice (some ⟨g5, 0, none⟩) n n)
  r2 : Gd d 2 (w9.ownsRow w0.heap.size 2 1 (.slice (some ⟨g2, 0, none⟩) n n) n (List.replicate n (.int .i64 0)))
  r5 : Gd d 5 (w9.ownsRow w0.heap.size 2 1 (.slice (some ⟨g5, 0, none⟩) n n) n (List.replicate n (.int .i64 0)))
  n2_5 : Gd d 2 (Gd d 5 (g2 ≠ g5))
  hbel : Below w0.heap.size w0 w9
def pasI (w0 : World) (t0_ t1_ t2_ t3_ t4_ t5_ t6_ t7_ t10_ t11_ t12_ t19_ t20_ t21_ t22_ t23_ t24_ t25_ t26_ t27_ t28_ t29_ t30_ t31_ t32_ t33_ t34_ t35_ t36_ t37_ t38_ t39_ t40_ t41_ t42_ t43_ t44_ t45_ t46_ t47_ t48_ t49_ t50_ t51_ t52_ t53_ t54_ t55_ t56_ t57_ t58_ t59_ t60_ t61_ t62_ t63_ t64_ t65_ t66_ t67_ t68_ t69_ t70_ t71_ t72_ t73_ t74_ t75_ t76_ t77_ t78_ : Value) (bi oi n ci : Nat) (d : Array Bool) (a : Act) (w9 : World) : Prop := Nonempty (pasIS w0 t0_ t1_ t2_ t3_ t4_ t5_ t6_ t7_ t10_ t11_ t12_ t19_ t20_ t21_ t22_ t23_ t24_ t25_ t26_ t27_ t28_ t29_ t30_ t31_ t32_ t33_ t34_ t35_ t36_ t37_ t38_ t39_ t40_ t41_ t42_ t43_ t44_ t45_ t46_ t47_ t48_ t49_ t50_ t51_ t52_ t53_ t54_ t55_ t56_ t57_ t58_ t59_ t60_ t61_ t62_ t63_ t64_ t65_ t66_ t67_ t68_ t69_ t70_ t71_ t72_ t73_ t74_ t75_ t76_ t77_ t78_ bi oi n ci d a w9)

structure pasSS (t0_ t1_ t2_ t3_ t4_ t5_ t6_ t7_ t8_ t9_ t10_ t11_ t12_ t13_ t14_ t15_ t16_ t17_ t18_ t19_ t20_ t21_ t22_ t23_ t24_ t25_ t26_ t56_ t57_ t58_ t59_ t60_ t61_ t62_ t63_ t64_ t65_ t66_ t67_ t68_ t69_ t70_ t71_ t72_ t73_ t74_ t75_ t76_ t77_ t78_ : Value) (w : World) (lo p g0 g1 g2 gO hG hL hC n d0 d1 d2 eC eO i : Nat) (s dd l q v c nn gg lv : Int) (D M1 V C1 G1 L1 : List Int) (O : List Nat) (d : Array Bool) (a : Act) (w9 : World) where
  u27 : Value
  u28 : Value
  u29 : Value
  u30 : Value
  u31 : Value
  u32 : Value
  u33 : Value
  u34 : Value
  u35 : Value
  u36 : Value
  u37 : Value
  u38 : Value
  u39 : Value
  u40 : Value
  u41 : Value
  u42 : Value
  u43 : Value
  u44 : Value
  u45 : Value
  u46 : Value
  u47 : Value
  u48 : Value
  u49 : Value
  u50 : Value
  u51 : Value
  u52 : Value
  u53 : Value
  u54 : Value
  u55 : Value
  ea : a = ⟨#[t0_, t1_, t2_, t3_, t4_, t5_, t6_, t7_, t8_, t9_, t10_, t11_, t12_, t13_, t14_, t15_, t16_, t17_, t18_, t19_, t20_, t21_, t22_, t23_, t24_, t25_, t26_, u27, u28, u29, u30, u31, u32, u33, u34, u35, u36, u37, u38, u39, u40, u41, u42, u43, u44, u45, u46, u47, u48, u49, u50, u51, u52, u53, u54, u55, t56_, t57_, t58_, t59_, t60_, t61_, t62_, t63_, t64_, t65_, t66_, t67_, t68_, t69_, t70_, t71_, t72_, t73_, t74_, t75_, t76_, t77_, t78_], []⟩
  f0 : Gd d 0 (u28 = .pointer (some ⟨p, 1, none⟩))
  f1 : Gd d 1 (u29 = .slice (some ⟨g1, 0, none⟩) n d1)
  f2 : Gd d 2 (u30 = .int .i64 (i : Int))
  f3 : Gd d 3 (u31 = .slice (some ⟨hG, 0, none⟩) n n)
  f4 : Gd d 4 (u32 = .int .i64 (i : Int))
  f5 : Gd d 5 (u33 = .slice (some ⟨hL, 0, none⟩) n n)
  f6 : Gd d 6 (u34 = .int .i64 (i : Int))
  f7 : Gd d 7 (u35 = .pointer (some ⟨p, 1, none⟩))
  f8 : Gd d 8 (u36 = .slice (some ⟨g1, 0, none⟩) n d1)
  f9 : Gd d 9 (u37 = .int .i64 (i : Int))
  f10 : Gd d 10 (u38 = .pointer (some ⟨g1, i * 4, none⟩))
  f11 : Gd d 11 (u39 = .agg #[.int .i64 s, .int .i64 dd, .int .i64 l, .int .i64 q])
  f12 : Gd d 12 (u40 = .pointer (some ⟨p, 2, none⟩))
  f13 : Gd d 13 (u41 = .slice (some ⟨g2, 0, none⟩) n d2)
  f14 : Gd d 14 (u42 = .int .i64 (i : Int))
  f15 : Gd d 15 (u43 = .pointer (some ⟨g2, i, none⟩))
  f16 : Gd d 16 (u44 = .int .i64 v)
  f17 : Gd d 17 (u45 = .slice (some ⟨hC, 0, none⟩) n eC)
  f18 : Gd d 18 (u46 = .int .i64 (i : Int))
  f19 : Gd d 19 (u47 = .pointer (some ⟨hC, i, none⟩))
  f20 : Gd d 20 (u48 = .int .i64 c)
  f21 : Gd d 21 (u49 = .tuple #[.agg #[.int .i64 s, .int .i64 dd, .int .i64 l, .int .i64 nn], .int .i64 gg, .int .i64 lv])
  f22 : Gd d 22 (u27 = .tuple #[.agg #[.int .i64 s, .int .i64 dd, .int .i64 l, .int .i64 nn], .int .i64 gg, .int .i64 lv])
  f23 : Gd d 23 (u50 = .agg #[.int .i64 s, .int .i64 dd, .int .i64 l, .int .i64 nn])
  f24 : Gd d 24 (u51 = .int .i64 gg)
  f25 : Gd d 25 (u52 = .int .i64 lv)
  f26 : Gd d 26 (u53 = .pointer (some ⟨g1, i * 4, none⟩))
  f28 : Gd d 28 (u54 = .pointer (some ⟨hG, i, none⟩))
  f30 : Gd d 30 (u55 = .pointer (some ⟨hL, i, none⟩))
  a27 : Ng d 27 (w9.ownsRow lo 98 4 (.slice (some ⟨g1, 0, none⟩) n d1) n (ic (M1)))
  b27 : Gd d 27 (w9.ownsRow lo 98 4 (.slice (some ⟨g1, 0, none⟩) n d1) n (ic (M1.set (i * 4 + 3) nn)))
  a29 : Ng d 29 (w9.ownsRow lo 2 1 (.slice (some ⟨hG, 0, none⟩) n n) n (ic (G1)))
  b29 : Gd d 29 (w9.ownsRow lo 2 1 (.slice (some ⟨hG, 0, none⟩) n n) n (ic (G1.set i gg)))
  a31 : Ng d 31 (w9.ownsRow lo 2 1 (.slice (some ⟨hL, 0, none⟩) n n) n (ic (L1)))
  b31 : Gd d 31 (w9.ownsRow lo 2 1 (.slice (some ⟨hL, 0, none⟩) n n) n (ic (L1.set i lv)))
  r0 : w9.ownsRow lo 2 1 (.slice (some ⟨g0, 0, none⟩) n d0) n (ic (D))
  r2 : w9.ownsRow lo 2 1 (.slice (some ⟨g2, 0, none⟩) n d2) n (ic (V))
  rC : w9.ownsRow lo 2 1 (.slice (some ⟨hC, 0, none⟩) n eC) n (ic (C1))
  rO : w9.ownsRow lo 2 1 (.slice (some ⟨gO, 0, none⟩) n eO) n (ic (ints O))
  bp : Bw w9 p [.slice (some ⟨g0, 0, none⟩) n d0, .slice (some ⟨g1, 0, none⟩) n d1, .slice (some ⟨g2, 0, none⟩) n d2]
  hlo : lo ≤ w9.heap.size
  hbel : Frm lo g1 w w9
def pasS (t0_ t1_ t2_ t3_ t4_ t5_ t6_ t7_ t8_ t9_ t10_ t11_ t12_ t13_ t14_ t15_ t16_ t17_ t18_ t19_ t20_ t21_ t22_ t23_ t24_ t25_ t26_ t56_ t57_ t58_ t59_ t60_ t61_ t62_ t63_ t64_ t65_ t66_ t67_ t68_ t69_ t70_ t71_ t72_ t73_ t74_ t75_ t76_ t77_ t78_ : Value) (w : World) (lo p g0 g1 g2 gO hG hL hC n d0 d1 d2 eC eO i : Nat) (s dd l q v c nn gg lv : Int) (D M1 V C1 G1 L1 : List Int) (O : List Nat) (d : Array Bool) (a : Act) (w9 : World) : Prop := Nonempty (pasSS t0_ t1_ t2_ t3_ t4_ t5_ t6_ t7_ t8_ t9_ t10_ t11_ t12_ t13_ t14_ t15_ t16_ t17_ t18_ t19_ t20_ t21_ t22_ t23_ t24_ t25_ t26_ t56_ t57_ t58_ t59_ t60_ t61_ t62_ t63_ t64_ t65_ t66_ t67_ t68_ t69_ t70_ t71_ t72_ t73_ t74_ t75_ t76_ t77_ t78_ w lo p g0 g1 g2 gO hG hL hC n d0 d1 d2 eC eO i s dd l q v c nn gg lv D M1 V C1 G1 L1 O d a w9)

set_option maxHeartbeats 64000000 in
theorem passDay_any (g0 g1 g2 gO n d0 d1 d2 eO bi oi ci lo : Nat) (D M V I : List Int) (O : List Nat) (w : World) (hr0 : w.ownsRow lo 2 1 (.slice (some ⟨g0, 0, none⟩) n d0) n (ic (D))) (hr1 : w.ownsRow lo 98 4 (.slice (some ⟨g1, 0, none⟩) n d1) n (ic (M))) (hr2 : w.ownsRow lo 2 1 (.slice (some ⟨g2, 0, none⟩) n d2) n (ic (V))) (hrO : w.ownsRow lo 2 1 (.slice (some ⟨gO, 0, none⟩) n eO) n (ic (ints O))) (hne : g0 ≠ g1 ∧ g2 ≠ g1 ∧ gO ≠ g1) (hIb : bi < w.heap.size) (hI : ∀ j, j < I.length → w.cell? ⟨bi, oi + j, none⟩ = some (.int .i64 (I.getD j 0))) (hIl : I.length = n) (hD : D.length = n) (hM : M.length = n * 4) (hV : V.length = n) (hOl : O.length = n) (hOt : ∀ k, k < n → O.getD k 0 < n) (hn1 : 0 < n) (hn12 : n ≤ 12) (hr : ∀ j, j < D.length → -1 ≤ D.getD j 0 ∧ D.getD j 0 ≤ (D.length : Int) - 1) :
    Calls Try.prog 58 #[.agg #[.slice (some ⟨g0, 0, none⟩) n d0, .slice (some ⟨g1, 0, none⟩) n d1, .slice (some ⟨g2, 0, none⟩) n d2], .slice (some ⟨gO, 0, none⟩) n eO, .slice (some ⟨bi, oi, none⟩) n ci] w (PasQ D V (dayTo D M V I n O n) O n lo g0 g1 g2 gO d0 d1 d2 eO w) := by
  have HQ0 := Lib.hid hr0
  have HQ1 := Lib.hid hr1
  have HQ2 := Lib.hid hr2
  have HQO := Lib.hid hrO
  have HI := Lib.hid hI
  have HIl := Lib.hid hIl
  have HIb := Lib.hid hIb
  have HRg := Lib.hid hr
  have HOl := Lib.hid hOl
  have HOt := Lib.hid hOt
  have HN0 := Lib.hid hD
  have HN1 := Lib.hid hM
  have HN2 := Lib.hid hV
  have HN9 : Hid (g0 ≠ g1 ∧ g2 ≠ g1 ∧ gO ≠ g1) := Lib.hid hne
  have HG9 : Hid (lo ≤ g0 ∧ lo ≤ g1 ∧ lo ≤ g2 ∧ lo ≤ gO ∧ g0 < w.heap.size ∧ g1 < w.heap.size ∧ g2 < w.heap.size ∧ gO < w.heap.size) := Lib.hid (by have h1 := hr0.lt g0 rfl; have h2 := hr1.lt g1 rfl; have h3 := hr2.lt g2 rfl; have h4 := hrO.lt gO rfl; omega)
  have HLo : Hid (lo ≤ w.heap.size) := Lib.hid (by have h9 := HG9.out; omega)
  clear hr0 hr1 hr2 hrO hI hIl hIb hr hOl hOt hD hM hV hne
  have hmm : n ≤ 1048576 := by omega
  have HB0 : Hid (Below w.heap.size w (w.alloc (.cells #[.slice (some ⟨g0, 0, none⟩) n d0, .slice (some ⟨g1, 0, none⟩) n d1, .slice (some ⟨g2, 0, none⟩) n d2] 29))) := Lib.hid (bel1 w _)
  have HP0 : Hid (Bw (w.alloc (.cells #[.slice (some ⟨g0, 0, none⟩) n d0, .slice (some ⟨g1, 0, none⟩) n d1, .slice (some ⟨g2, 0, none⟩) n d2] 29)) w.heap.size [.slice (some ⟨g0, 0, none⟩) n d0, .slice (some ⟨g1, 0, none⟩) n d1, .slice (some ⟨g2, 0, none⟩) n d2]) := Lib.hid (Bw.new w [.slice (some ⟨g0, 0, none⟩) n d0, .slice (some ⟨g1, 0, none⟩) n d1, .slice (some ⟨g2, 0, none⟩) n d2] _)
  have HS0 : Hid ((w.alloc (.cells #[.slice (some ⟨g0, 0, none⟩) n d0, .slice (some ⟨g1, 0, none⟩) n d1, .slice (some ⟨g2, 0, none⟩) n d2] 29)).heap.size = w.heap.size + 1) := Lib.hid (by simp)
  have HQ0_0 := Lib.hid (owns_below HQ0.out HB0.out (Nat.le_refl _))
  have HQ1_0 := Lib.hid (owns_below HQ1.out HB0.out (Nat.le_refl _))
  have HQ2_0 := Lib.hid (owns_below HQ2.out HB0.out (Nat.le_refl _))
  have HQO_0 := Lib.hid (owns_below HQO.out HB0.out (Nat.le_refl _))
  clear HQ0 HQ1 HQ2 HQO
  go_enter Try.func58, Try.ntmps58
  go_wp2_with fail
  generalize hW0 : World.alloc w _ = W0
  simp only [hW0] at HB0 HP0 HS0 HQ0_0 HQ1_0 HQ2_0 HQO_0
  clear hW0
  obtain ⟨p, hp⟩ : ∃ p, w.heap.size = p := ⟨_, rfl⟩
  (try rw [hp])
  rw [hp] at HP0 HS0 HG9
  have Hp := Lib.hid hp
  clear hp
  refine wp_region_inv (id := 1) (pasI (W0) _ _ _ _ _ _ _ _ _ _ _ _ _ _ _ _ _ _ _ _ _ _ _ _ _ _ _ _ _ _ _ _ _ _ _ _ _ _ _ _ _ _ _ _ _ _ _ _ _ _ _ _ _ _ _ _ _ _ _ _ _ _ _ _ _ _ _ _ _ _ _ bi oi n ci) (by kernel_rfl) (by kernel_rfl) ⟨⟨_, _, _, _, _, _, _, _, 0, 0, rfl, .start, .start, .start, .start, .start, .start, .start, .start, .start, .start, .start, beld (Below.refl _ _) 1⟩⟩ ?hend1 ?hsteps1
  rotate_left
  case hsteps1 =>
    refine .cons 1 rfl ?_ ?_
    · intro d a w9 hsz hcl hinv hd hdep
      obtain ⟨⟨u8, u9, u13, u14, u15, u16, u17, u18, g2, g5, rfl, f0, f1, f2, f3, f4, f5, f6, f7, r2, r5, n2_5, hbel⟩⟩ := hinv
      go_wp2_with fail
      exact ⟨⟨u8, u9, (.slice (some ⟨bi, oi, none⟩) n ci), u14, u15, u16, u17, u18, g2, g5, rfl, Gd.new (by first | rfl | simp), (f1.keep (i := 0) (by decide)), (f2.keep (i := 0) (by decide)), (f3.keep (i := 0) (by decide)), (f4.keep (i := 0) (by decide)), (f5.keep (i := 0) (by decide)), (f6.keep (i := 0) (by decide)), (f7.keep (i := 0) (by decide)), (r2.keep (i := 0) (by decide)), (r5.keep (i := 0) (by decide)), (Gd.keep (i := 0) (n2_5.imp fun h => Gd.keep (i := 0) h (by decide)) (by decide)), hbel⟩⟩
    refine .cons 2 rfl ?_ ?_
    · intro d a w9 hsz hcl hinv hd hdep
      obtain ⟨⟨u8, u9, u13, u14, u15, u16, u17, u18, g2, g5, rfl, f0, f1, f2, f3, f4, f5, f6, f7, r2, r5, n2_5, hbel⟩⟩ := hinv
      have e0 := f0 (hdep.get 0 rfl)
      subst e0
      go_wp2_with fail
      exact ⟨⟨u8, u9, (.slice (some ⟨bi, oi, none⟩) n ci), (.int .i64 (n : Int)), u15, u16, u17, u18, g2, g5, rfl, Gd.new rfl, Gd.new (by first | rfl | simp), (f2.keep (i := 1) (by decide)), (f3.keep (i := 1) (by decide)), (f4.keep (i := 1) (by decide)), (f5.keep (i := 1) (by decide)), (f6.keep (i := 1) (by decide)), (f7.keep (i := 1) (by decide)), (r2.keep (i := 1) (by decide)), (r5.keep (i := 1) (by decide)), (Gd.keep (i := 1) (n2_5.imp fun h => Gd.keep (i := 1) h (by decide)) (by decide)), hbel⟩⟩
    refine .cons 3 rfl ?_ ?_
    · intro d a w9 hsz hcl hinv hd hdep
      obtain ⟨⟨u8, u9, u13, u14, u15, u16, u17, u18, g2, g5, rfl, f0, f1, f2, f3, f4, f5, f6, f7, r2, r5, n2_5, hbel⟩⟩ := hinv
      have e1 := f1 (hdep.get 1 rfl)
      subst e1
      have nb6 := hcl.not hd 6 _ rfl rfl
      go_wp2_with (at_make; refine makeZ rfl rfl _ _ rfl .i64 .i64 _ _ n rfl rfl rfl rfl hmm (lo := W0.heap.size) hbel.size ?_)
      intro w8 hown hgrow
      go_wp2_with fail
      exact ⟨⟨u8, u9, u13, (.int .i64 (n : Int)), (.slice (some ⟨w9.heap.size, 0, none⟩) n n), u16, u17, u18, w9.heap.size, g5, rfl, (f0.keep (i := 2) (by decide)), Gd.new rfl, Gd.new (by first | rfl | simp), (f3.keep (i := 2) (by decide)), (f4.keep (i := 2) (by decide)), (f5.keep (i := 2) (by decide)), (Gd.undone (i := 2) nb6 (by decide)), (f7.keep (i := 2) (by decide)), Gd.new hown, ((r5.imp fun h => owns_made h hgrow).keep (i := 2) (by decide)), (fun _ hj => (by rw [set_ne (by decide)] at hj; have h9 := ((r5 hj).lt g5 rfl).2; omega)), (below_made hbel hgrow hbel.size)⟩⟩
    refine .cons 4 rfl ?_ ?_
    · intro d a w9 hsz hcl hinv hd hdep
      obtain ⟨⟨u8, u9, u13, u14, u15, u16, u17, u18, g2, g5, rfl, f0, f1, f2, f3, f4, f5, f6, f7, r2, r5, n2_5, hbel⟩⟩ := hinv
      go_wp2_with fail
      exact ⟨⟨u8, u9, u13, u14, u15, (.slice (some ⟨bi, oi, none⟩) n ci), u17, u18, g2, g5, rfl, (f0.keep (i := 3) (by decide)), (f1.keep (i := 3) (by decide)), (f2.keep (i := 3) (by decide)), Gd.new (by first | rfl | simp), (f4.keep (i := 3) (by decide)), (f5.keep (i := 3) (by decide)), (f6.keep (i := 3) (by decide)), (f7.keep (i := 3) (by decide)), (r2.keep (i := 3) (by decide)), (r5.keep (i := 3) (by decide)), (Gd.keep (i := 3) (n2_5.imp fun h => Gd.keep (i := 3) h (by decide)) (by decide)), hbel⟩⟩
    refine .cons 5 rfl ?_ ?_
    · intro d a w9 hsz hcl hinv hd hdep
      obtain ⟨⟨u8, u9, u13, u14, u15, u16, u17, u18, g2, g5, rfl, f0, f1, f2, f3, f4, f5, f6, f7, r2, r5, n2_5, hbel⟩⟩ := hinv
      have e3 := f3 (hdep.get 3 rfl)
      subst e3
      go_wp2_with fail
      exact ⟨⟨u8, u9, u13, u14, u15, (.slice (some ⟨bi, oi, none⟩) n ci), (.int .i64 (n : Int)), u18, g2, g5, rfl, (f0.keep (i := 4) (by decide)), (f1.keep (i := 4) (by decide)), (f2.keep (i := 4) (by decide)), Gd.new rfl, Gd.new (by first | rfl | simp), (f5.keep (i := 4) (by decide)), (f6.keep (i := 4) (by decide)), (f7.keep (i := 4) (by decide)), (r2.keep (i := 4) (by decide)), (r5.keep (i := 4) (by decide)), (Gd.keep (i := 4) (n2_5.imp fun h => Gd.keep (i := 4) h (by decide)) (by decide)), hbel⟩⟩
    refine .cons 6 rfl ?_ ?_
    · intro d a w9 hsz hcl hinv hd hdep
      obtain ⟨⟨u8, u9, u13, u14, u15, u16, u17, u18, g2, g5, rfl, f0, f1, f2, f3, f4, f5, f6, f7, r2, r5, n2_5, hbel⟩⟩ := hinv
      have e4 := f4 (hdep.get 4 rfl)
      subst e4
      have nb7 := hcl.not hd 7 _ rfl rfl
      go_wp2_with (at_make; refine makeZ rfl rfl _ _ rfl .i64 .i64 _ _ n rfl rfl rfl rfl hmm (lo := W0.heap.size) hbel.size ?_)
      intro w8 hown hgrow
      go_wp2_with fail
      exact ⟨⟨u8, u9, u13, u14, u15, u16, (.int .i64 (n : Int)), (.slice (some ⟨w9.heap.size, 0, none⟩) n n), g2, w9.heap.size, rfl, (f0.keep (i := 5) (by decide)), (f1.keep (i := 5) (by decide)), (f2.keep (i := 5) (by decide)), (f3.keep (i := 5) (by decide)), Gd.new rfl, Gd.new (by first | rfl | simp), (f6.keep (i := 5) (by decide)), (Gd.undone (i := 5) nb7 (by decide)), ((r2.imp fun h => owns_made h hgrow).keep (i := 5) (by decide)), Gd.new hown, (fun hj _ => (by rw [set_ne (by decide)] at hj; have h9 := ((r2 hj).lt g2 rfl).2; omega)), (below_made hbel hgrow hbel.size)⟩⟩
    refine .cons 7 rfl ?_ ?_
    · intro d a w9 hsz hcl hinv hd hdep
      obtain ⟨⟨u8, u9, u13, u14, u15, u16, u17, u18, g2, g5, rfl, f0, f1, f2, f3, f4, f5, f6, f7, r2, r5, n2_5, hbel⟩⟩ := hinv
      have e2 := f2 (hdep.get 2 rfl)
      subst e2
      go_wp2_with fail
      exact ⟨⟨(.slice (some ⟨g2, 0, none⟩) n n), u9, u13, u14, (.slice (some ⟨g2, 0, none⟩) n n), u16, u17, u18, g2, g5, rfl, (f0.keep (i := 6) (by decide)), (f1.keep (i := 6) (by decide)), Gd.new rfl, (f3.keep (i := 6) (by decide)), (f4.keep (i := 6) (by decide)), (f5.keep (i := 6) (by decide)), Gd.new (by first | rfl | simp), (f7.keep (i := 6) (by decide)), (r2.keep (i := 6) (by decide)), (r5.keep (i := 6) (by decide)), (Gd.keep (i := 6) (n2_5.imp fun h => Gd.keep (i := 6) h (by decide)) (by decide)), hbel⟩⟩
    refine .cons 8 rfl ?_ trivial
    · intro d a w9 hsz hcl hinv hd hdep
      obtain ⟨⟨u8, u9, u13, u14, u15, u16, u17, u18, g2, g5, rfl, f0, f1, f2, f3, f4, f5, f6, f7, r2, r5, n2_5, hbel⟩⟩ := hinv
      have e5 := f5 (hdep.get 5 rfl)
      subst e5
      go_wp2_with fail
      exact ⟨⟨u8, (.slice (some ⟨g5, 0, none⟩) n n), u13, u14, u15, u16, u17, (.slice (some ⟨g5, 0, none⟩) n n), g2, g5, rfl, (f0.keep (i := 7) (by decide)), (f1.keep (i := 7) (by decide)), (f2.keep (i := 7) (by decide)), (f3.keep (i := 7) (by decide)), (f4.keep (i := 7) (by decide)), Gd.new rfl, (f6.keep (i := 7) (by decide)), Gd.new (by first | rfl | simp), (r2.keep (i := 7) (by decide)), (r5.keep (i := 7) (by decide)), (Gd.keep (i := 7) (n2_5.imp fun h => Gd.keep (i := 7) h (by decide)) (by decide)), hbel⟩⟩
  case hend1 =>
    intro d a w9 hinv hall
    obtain ⟨⟨u8, u9, u13, u14, u15, u16, u17, u18, hG, hL, rfl, f0, f1, f2, f3, f4, f5, f6, f7, r2, r5, n2_5, hbel⟩⟩ := hinv
    have e0 := f0 (hall 0 (by decide))
    have e1 := f1 (hall 1 (by decide))
    have e2 := f2 (hall 2 (by decide))
    have e3 := f3 (hall 3 (by decide))
    have e4 := f4 (hall 4 (by decide))
    have e5 := f5 (hall 5 (by decide))
    have e6 := f6 (hall 6 (by decide))
    have e7 := f7 (hall 7 (by decide))
    subst e0
    subst e1
    subst e2
    subst e3
    subst e4
    subst e5
    subst e6
    subst e7
    have R2 := Lib.hid (r2 (hall 2 (by decide)))
    have R5 := Lib.hid (r5 (hall 5 (by decide)))
    have N2_5 := Lib.hid (n2_5 (hall 2 (by decide)) (hall 5 (by decide)))
    have HBL := Lib.hid hbel
    clear f0 f1 f2 f3 f4 f5 f6 f7 r2 r5 n2_5 hbel
    have HB1 : Hid (Below w.heap.size w w9) := Lib.hid (HB0.out.trans (HBL.out.mono HB0.out.size))
    have HP1 := Lib.hid (HP0.out.below HBL.out (by have h9 := HS0.out; omega))
    have HQ0_1 := Lib.hid (owns_below HQ0_0.out HBL.out (Nat.le_refl _))
    have HQ1_1 := Lib.hid (owns_below HQ1_0.out HBL.out (Nat.le_refl _))
    have HQ2_1 := Lib.hid (owns_below HQ2_0.out HBL.out (Nat.le_refl _))
    have HQO_1 := Lib.hid (owns_below HQO_0.out HBL.out (Nat.le_refl _))
    have HH1 : Hid (p < hG ∧ p < hL ∧ hG ≠ hL ∧ hG < w9.heap.size ∧ hL < w9.heap.size) := Lib.hid (by have h1 := R2.out.lt hG rfl; have h2 := R5.out.lt hL rfl; have h3 := N2_5.out; have h4 := HS0.out; omega)
    have HQG_1 : Hid (w9.ownsRow lo 2 1 (.slice (some ⟨hG, 0, none⟩) n n) n (ic (List.replicate n 0))) := Lib.hid (by unfold ic; rw [List.map_replicate]; exact owns_lo R2.out (by have h9 := HG9.out; have h8 := HS0.out; omega))
    have HQL_1 : Hid (w9.ownsRow lo 2 1 (.slice (some ⟨hL, 0, none⟩) n n) n (ic (List.replicate n 0))) := Lib.hid (by unfold ic; rw [List.map_replicate]; exact owns_lo R5.out (by have h9 := HG9.out; have h8 := HS0.out; omega))
    clear R2 R5 N2_5 HBL HB0 HP0 HS0 HQ0_0 HQ1_0 HQ2_0 HQO_0
    have HCl : Hid (Calls Try.prog 103 #[.slice (some ⟨bi, oi, none⟩) n ci] w9 fun e w' => ∃ g c, e = .returned (.slice (some ⟨g, 0, none⟩) n c) ∧ w'.ownsRow w9.heap.size 2 1 (.slice (some ⟨g, 0, none⟩) n c) n (ic I) ∧ Below w9.heap.size w9 w') := Lib.hid (cloneZ_any bi oi n ci I w9 (Nat.lt_of_lt_of_le HIb.out HB1.out.size) (fun j hj => by rw [HB1.out.cell (p := ⟨bi, oi + j, none⟩) HIb.out]; exact HI.out j hj) (by rw [HIl.out, Nat.mul_one]) hn1 hmm)
    go_wp2_with fail
    refine HCl.out.mono ?_
    rintro e w2 ⟨hC, eC, rfl, hrow, hb⟩
    have HQC_2 := Lib.hid (owns_lo (lo' := lo) hrow (by have h9 := HLo.out; have h8 := HB1.out.size; omega))
    have HH : Hid (p < hG ∧ p < hL ∧ hG ≠ hL ∧ hG < hC ∧ hL < hC) := Lib.hid (by have h1 := HH1.out; have h2 := hrow.lt hC rfl; omega)
    have HB2 : Hid (Frm lo g1 w w2) := Lib.hid ⟨(HB1.out.mono HLo.out).trans (hb.mono (Nat.le_trans HLo.out HB1.out.size)), fun b h1 _ => (HB1.out.trans (hb.mono HB1.out.size)).block b h1⟩
    have HP2 := Lib.hid (HP1.out.below hb HP1.out.1.1)
    have HQ0_2 := Lib.hid (owns_below HQ0_1.out hb (Nat.le_refl _))
    have HQ1_2 := Lib.hid (owns_below HQ1_1.out hb (Nat.le_refl _))
    have HQ2_2 := Lib.hid (owns_below HQ2_1.out hb (Nat.le_refl _))
    have HQO_2 := Lib.hid (owns_below HQO_1.out hb (Nat.le_refl _))
    have HQG_2 := Lib.hid (owns_below HQG_1.out hb (Nat.le_refl _))
    have HQL_2 := Lib.hid (owns_below HQL_1.out hb (Nat.le_refl _))
    clear hrow hb HCl HP1 HB1 HH1 HQ0_1 HQ1_1 HQ2_1 HQO_1 HQG_1 HQL_1
    go_wp2_with fail
    skip
    go_loopw [12, 23] (fun v12 iv wr => ∃ k : Nat, k ≤ n ∧ iv = .int .i64 (k : Int) ∧ Hid (wr.ownsRow lo 2 1 (.slice (some ⟨g0, 0, none⟩) n d0) n (ic (D))) ∧ Hid (wr.ownsRow lo 98 4 (.slice (some ⟨g1, 0, none⟩) n d1) n (ic ((dayTo D M V I n O k).M))) ∧ Hid (wr.ownsRow lo 2 1 (.slice (some ⟨g2, 0, none⟩) n d2) n (ic (V))) ∧ Hid (wr.ownsRow lo 2 1 (.slice (some ⟨hG, 0, none⟩) n n) n (ic ((dayTo D M V I n O k).G))) ∧ Hid (wr.ownsRow lo 2 1 (.slice (some ⟨hL, 0, none⟩) n n) n (ic ((dayTo D M V I n O k).L))) ∧ Hid (wr.ownsRow lo 2 1 (.slice (some ⟨hC, 0, none⟩) n eC) n (ic ((dayTo D M V I n O k).C))) ∧ Hid (wr.ownsRow lo 2 1 (.slice (some ⟨gO, 0, none⟩) n eO) n (ic (ints O))) ∧ Hid (Bw wr p [.slice (some ⟨g0, 0, none⟩) n d0, .slice (some ⟨g1, 0, none⟩) n d1, .slice (some ⟨g2, 0, none⟩) n d2]) ∧ Hid (Frm lo g1 w wr)) (fun _ iv _ => n - (intOf iv).toNat)
    case atStart => exact ⟨0, Nat.zero_le _, rfl, HQ0_2, HQ1_2, HQ2_2, HQG_2, HQL_2, HQC_2, HQO_2, HP2, HB2⟩
    case round =>
    clear HQ0_2 HQ1_2 HQ2_2 HQG_2 HQL_2 HQC_2 HQO_2 HP2 HB2
    obtain ⟨k, hk, rfl, RQ0, RQ1, RQ2, RQG, RQL, RQC, RQO, RP, RB⟩ := hrel
    have hk0 : (0 : Int) ≤ (k : Int) := by omega
    by_cases hlt : k < n
    · have hk1 : (k : Int) < (n : Int) := by omega
      obtain ⟨S, hS⟩ : ∃ S, dayTo D M V I n O k = S := ⟨_, rfl⟩
      have hln := dayTo_len (D := D) (V := V) (O := O) HN1.out HIl.out k
      rw [hS] at RQ1 RQG RQL RQC hln
      have HSt := Lib.hid hS
      clear hS
      obtain ⟨M1, C1, G1, L1⟩ := S
      simp only at RQ1 RQG RQL RQC hln
      have Hln := Lib.hid hln
      clear hln
      obtain ⟨i, hi⟩ : ∃ i, O.getD k 0 = i := ⟨_, rfl⟩
      have hin : i < n := hi ▸ HOt.out k hlt
      have Hi := Lib.hid hi
      clear hi
      have hin1 : (i : Int) < (n : Int) := by omega
      have hi0 : (0 : Int) ≤ (i : Int) := by omega
      obtain ⟨s, hs⟩ : ∃ z, M1.getD (i * 4) 0 = z := ⟨_, rfl⟩
      have Ns := Lib.hid hs
      clear hs
      obtain ⟨dd, hdd⟩ : ∃ z, M1.getD (i * 4 + 1) 0 = z := ⟨_, rfl⟩
      have Nd := Lib.hid hdd
      clear hdd
      obtain ⟨l, hl⟩ : ∃ z, M1.getD (i * 4 + 2) 0 = z := ⟨_, rfl⟩
      have Nl := Lib.hid hl
      clear hl
      obtain ⟨q, hq⟩ : ∃ z, M1.getD (i * 4 + 3) 0 = z := ⟨_, rfl⟩
      have Nq := Lib.hid hq
      clear hq
      obtain ⟨v, hv⟩ : ∃ z, V.getD (i) 0 = z := ⟨_, rfl⟩
      have Nv := Lib.hid hv
      clear hv
      obtain ⟨c, hc⟩ : ∃ z, C1.getD (i) 0 = z := ⟨_, rfl⟩
      have Nc := Lib.hid hc
      clear hc
      obtain ⟨z, hz⟩ : ∃ z, D.getD (i) 0 = z := ⟨_, rfl⟩
      have Nz := Lib.hid hz
      clear hz
      obtain ⟨u, hu⟩ : ∃ z, G1.getD (i) 0 = z := ⟨_, rfl⟩
      have Nu := Lib.hid hu
      clear hu
      obtain ⟨y, hy⟩ : ∃ z, L1.getD (i) 0 = z := ⟨_, rfl⟩
      have Ny := Lib.hid hy
      clear hy
      have HPas : Hid (∀ W, Calls Try.prog 105 #[.agg #[.int .i64 s, .int .i64 dd, .int .i64 l, .int .i64 q], .int .i64 v, .int .i64 c] W fun e w' => e = .returned (.tuple #[.agg #[.int .i64 s, .int .i64 dd, .int .i64 l, .int .i64 (dayN s dd l q v c)], .int .i64 (dayG dd q v c), .int .i64 (dayL s dd l q v c)]) ∧ Below W.heap.size W w') := Lib.hid (passDam_any s dd l q v c)
      have HStep0 : dayTo D M V I n O (k + 1) = ⟨M1.set (i * 4 + 3) (dayN s dd l q v c), if z < 0 then C1 else C1.set z.toNat (wrap64 (C1.getD z.toNat 0 + dayL s dd l q v c)), G1.set i (dayG dd q v c), L1.set i (dayL s dd l q v c)⟩ := by show dayStep D V (dayTo D M V I n O k) (O.getD k 0) = _; rw [HSt.out, Hi.out]; unfold dayStep; simp only [Ns.out, Nd.out, Nl.out, Nq.out, Nv.out, Nc.out, Nz.out]
      obtain ⟨nn, hnn⟩ : ∃ z, dayN s dd l q v c = z := ⟨_, rfl⟩
      obtain ⟨gg, hgg⟩ : ∃ z, dayG dd q v c = z := ⟨_, rfl⟩
      obtain ⟨lv, hlv⟩ : ∃ z, dayL s dd l q v c = z := ⟨_, rfl⟩
      rw [hnn, hgg, hlv] at HPas HStep0
      have HStep := Lib.hid HStep0
      clear HStep0 hnn hgg hlv
      have HS0 : Hid (M1.set (i * 4) s = M1) := Lib.hid (by rw [← Ns.out]; exact set_self (by rw [Hln.out.1]; omega))
      have HS1 : Hid (M1.set (i * 4 + 1) dd = M1) := Lib.hid (by rw [← Nd.out]; exact set_self (by rw [Hln.out.1]; omega))
      have HS2 : Hid (M1.set (i * 4 + 2) l = M1) := Lib.hid (by rw [← Nl.out]; exact set_self (by rw [Hln.out.1]; omega))
      have co : wr.cell? ⟨gO, k, none⟩ = some (.int .i64 (i : Int)) := by rw [RQO.out.cellAt k (by omega), ic_at (by rw [ints_length, HOl.out]; exact hlt), ints_getD (by rw [HOl.out]; exact hlt), Hi.out]
      go_wp2_with fail
      clear co
      have hdr : Below wr.heap.size wr wr.drew := (Below.refl _ _).drew
      have hlo9 : lo ≤ wr.heap.size := Nat.le_trans HLo.out RB.out.1.size
      refine wp_region_inv (id := 6) (pasS _ _ _ _ _ _ _ _ _ _ _ _ _ _ _ _ _ _ _ _ _ _ _ _ _ _ _ _ _ _ _ _ _ _ _ _ _ _ _ _ _ _ _ _ _ _ _ _ _ _ w lo p g0 g1 g2 gO hG hL hC n d0 d1 d2 eC eO i s dd l q v c nn gg lv D M1 V C1 G1 L1 O) (by kernel_rfl) (by kernel_rfl) ⟨⟨_, _, _, _, _, _, _, _, _, _, _, _, _, _, _, _, _, _, _, _, _, _, _, _, _, _, _, _, _, rfl, .start, .start, .start, .start, .start, .start, .start, .start, .start, .start, .start, .start, .start, .start, .start, .start, .start, .start, .start, .start, .start, .start, .start, .start, .start, .start, .start, .start, .start, (fun _ => owns_below RQ1.out hdr (Nat.le_refl _)), .start, (fun _ => owns_below RQG.out hdr (Nat.le_refl _)), .start, (fun _ => owns_below RQL.out hdr (Nat.le_refl _)), .start, (owns_below RQ0.out hdr (Nat.le_refl _)), (owns_below RQ2.out hdr (Nat.le_refl _)), (owns_below RQC.out hdr (Nat.le_refl _)), (owns_below RQO.out hdr (Nat.le_refl _)), (RP.out.below hdr RP.out.1.1), hlo9, (RB.out.step hdr hlo9)⟩⟩ ?hend2 ?hsteps2
      rotate_left
      case hsteps2 =>
        clear RQ0 RQ1 RQ2 RQG RQL RQC RQO RP RB hdr hlo9
        refine .cons 1 rfl ?_ ?_
        · intro d a w9 hsz hcl hinv hd hdep
          obtain ⟨⟨u27, u28, u29, u30, u31, u32, u33, u34, u35, u36, u37, u38, u39, u40, u41, u42, u43, u44, u45, u46, u47, u48, u49, u50, u51, u52, u53, u54, u55, rfl, f0, f1, f2, f3, f4, f5, f6, f7, f8, f9, f10, f11, f12, f13, f14, f15, f16, f17, f18, f19, f20, f21, f22, f23, f24, f25, f26, f28, f30, a27, b27, a29, b29, a31, b31, r0, r2, rC, rO, bp, hlo, hbel⟩⟩ := hinv
          go_wp2_with fail
          exact ⟨⟨u27, (.pointer (some ⟨p, 1, none⟩)), u29, u30, u31, u32, u33, u34, u35, u36, u37, u38, u39, u40, u41, u42, u43, u44, u45, u46, u47, u48, u49, u50, u51, u52, u53, u54, u55, rfl, Gd.new (by first | rfl | simp), (Gd.keep (i := 0) f1 (by decide)), (Gd.keep (i := 0) f2 (by decide)), (Gd.keep (i := 0) f3 (by decide)), (Gd.keep (i := 0) f4 (by decide)), (Gd.keep (i := 0) f5 (by decide)), (Gd.keep (i := 0) f6 (by decide)), (Gd.keep (i := 0) f7 (by decide)), (Gd.keep (i := 0) f8 (by decide)), (Gd.keep (i := 0) f9 (by decide)), (Gd.keep (i := 0) f10 (by decide)), (Gd.keep (i := 0) f11 (by decide)), (Gd.keep (i := 0) f12 (by decide)), (Gd.keep (i := 0) f13 (by decide)), (Gd.keep (i := 0) f14 (by decide)), (Gd.keep (i := 0) f15 (by decide)), (Gd.keep (i := 0) f16 (by decide)), (Gd.keep (i := 0) f17 (by decide)), (Gd.keep (i := 0) f18 (by decide)), (Gd.keep (i := 0) f19 (by decide)), (Gd.keep (i := 0) f20 (by decide)), (Gd.keep (i := 0) f21 (by decide)), (Gd.keep (i := 0) f22 (by decide)), (Gd.keep (i := 0) f23 (by decide)), (Gd.keep (i := 0) f24 (by decide)), (Gd.keep (i := 0) f25 (by decide)), (Gd.keep (i := 0) f26 (by decide)), (Gd.keep (i := 0) f28 (by decide)), (Gd.keep (i := 0) f30 (by decide)), (Ng.keep (i := 0) a27 (by decide)), (Gd.keep (i := 0) b27 (by decide)), (Ng.keep (i := 0) a29 (by decide)), (Gd.keep (i := 0) b29 (by decide)), (Ng.keep (i := 0) a31 (by decide)), (Gd.keep (i := 0) b31 (by decide)), r0, r2, rC, rO, bp, hlo, hbel⟩⟩
        refine .cons 2 rfl ?_ ?_
        · intro d a w9 hsz hcl hinv hd hdep
          obtain ⟨⟨u27, u28, u29, u30, u31, u32, u33, u34, u35, u36, u37, u38, u39, u40, u41, u42, u43, u44, u45, u46, u47, u48, u49, u50, u51, u52, u53, u54, u55, rfl, f0, f1, f2, f3, f4, f5, f6, f7, f8, f9, f10, f11, f12, f13, f14, f15, f16, f17, f18, f19, f20, f21, f22, f23, f24, f25, f26, f28, f30, a27, b27, a29, b29, a31, b31, r0, r2, rC, rO, bp, hlo, hbel⟩⟩ := hinv
          have e0 := f0 (hdep.get 0 rfl)
          subst e0
          have ck := bp.c 1 rfl
          go_wp2_with fail
          exact ⟨⟨u27, (.pointer (some ⟨p, 1, none⟩)), (.slice (some ⟨g1, 0, none⟩) n d1), u30, u31, u32, u33, u34, u35, u36, u37, u38, u39, u40, u41, u42, u43, u44, u45, u46, u47, u48, u49, u50, u51, u52, u53, u54, u55, rfl, Gd.new rfl, Gd.new (by first | rfl | simp), (Gd.keep (i := 1) f2 (by decide)), (Gd.keep (i := 1) f3 (by decide)), (Gd.keep (i := 1) f4 (by decide)), (Gd.keep (i := 1) f5 (by decide)), (Gd.keep (i := 1) f6 (by decide)), (Gd.keep (i := 1) f7 (by decide)), (Gd.keep (i := 1) f8 (by decide)), (Gd.keep (i := 1) f9 (by decide)), (Gd.keep (i := 1) f10 (by decide)), (Gd.keep (i := 1) f11 (by decide)), (Gd.keep (i := 1) f12 (by decide)), (Gd.keep (i := 1) f13 (by decide)), (Gd.keep (i := 1) f14 (by decide)), (Gd.keep (i := 1) f15 (by decide)), (Gd.keep (i := 1) f16 (by decide)), (Gd.keep (i := 1) f17 (by decide)), (Gd.keep (i := 1) f18 (by decide)), (Gd.keep (i := 1) f19 (by decide)), (Gd.keep (i := 1) f20 (by decide)), (Gd.keep (i := 1) f21 (by decide)), (Gd.keep (i := 1) f22 (by decide)), (Gd.keep (i := 1) f23 (by decide)), (Gd.keep (i := 1) f24 (by decide)), (Gd.keep (i := 1) f25 (by decide)), (Gd.keep (i := 1) f26 (by decide)), (Gd.keep (i := 1) f28 (by decide)), (Gd.keep (i := 1) f30 (by decide)), (Ng.keep (i := 1) a27 (by decide)), (Gd.keep (i := 1) b27 (by decide)), (Ng.keep (i := 1) a29 (by decide)), (Gd.keep (i := 1) b29 (by decide)), (Ng.keep (i := 1) a31 (by decide)), (Gd.keep (i := 1) b31 (by decide)), r0, r2, rC, rO, bp, hlo, hbel⟩⟩
        refine .cons 3 rfl ?_ ?_
        · intro d a w9 hsz hcl hinv hd hdep
          obtain ⟨⟨u27, u28, u29, u30, u31, u32, u33, u34, u35, u36, u37, u38, u39, u40, u41, u42, u43, u44, u45, u46, u47, u48, u49, u50, u51, u52, u53, u54, u55, rfl, f0, f1, f2, f3, f4, f5, f6, f7, f8, f9, f10, f11, f12, f13, f14, f15, f16, f17, f18, f19, f20, f21, f22, f23, f24, f25, f26, f28, f30, a27, b27, a29, b29, a31, b31, r0, r2, rC, rO, bp, hlo, hbel⟩⟩ := hinv
          go_wp2_with fail
          exact ⟨⟨u27, u28, u29, (.int .i64 (i : Int)), u31, u32, u33, u34, u35, u36, u37, u38, u39, u40, u41, u42, u43, u44, u45, u46, u47, u48, u49, u50, u51, u52, u53, u54, u55, rfl, (Gd.keep (i := 2) f0 (by decide)), (Gd.keep (i := 2) f1 (by decide)), Gd.new (by first | rfl | simp), (Gd.keep (i := 2) f3 (by decide)), (Gd.keep (i := 2) f4 (by decide)), (Gd.keep (i := 2) f5 (by decide)), (Gd.keep (i := 2) f6 (by decide)), (Gd.keep (i := 2) f7 (by decide)), (Gd.keep (i := 2) f8 (by decide)), (Gd.keep (i := 2) f9 (by decide)), (Gd.keep (i := 2) f10 (by decide)), (Gd.keep (i := 2) f11 (by decide)), (Gd.keep (i := 2) f12 (by decide)), (Gd.keep (i := 2) f13 (by decide)), (Gd.keep (i := 2) f14 (by decide)), (Gd.keep (i := 2) f15 (by decide)), (Gd.keep (i := 2) f16 (by decide)), (Gd.keep (i := 2) f17 (by decide)), (Gd.keep (i := 2) f18 (by decide)), (Gd.keep (i := 2) f19 (by decide)), (Gd.keep (i := 2) f20 (by decide)), (Gd.keep (i := 2) f21 (by decide)), (Gd.keep (i := 2) f22 (by decide)), (Gd.keep (i := 2) f23 (by decide)), (Gd.keep (i := 2) f24 (by decide)), (Gd.keep (i := 2) f25 (by decide)), (Gd.keep (i := 2) f26 (by decide)), (Gd.keep (i := 2) f28 (by decide)), (Gd.keep (i := 2) f30 (by decide)), (Ng.keep (i := 2) a27 (by decide)), (Gd.keep (i := 2) b27 (by decide)), (Ng.keep (i := 2) a29 (by decide)), (Gd.keep (i := 2) b29 (by decide)), (Ng.keep (i := 2) a31 (by decide)), (Gd.keep (i := 2) b31 (by decide)), r0, r2, rC, rO, bp, hlo, hbel⟩⟩
        refine .cons 4 rfl ?_ ?_
        · intro d a w9 hsz hcl hinv hd hdep
          obtain ⟨⟨u27, u28, u29, u30, u31, u32, u33, u34, u35, u36, u37, u38, u39, u40, u41, u42, u43, u44, u45, u46, u47, u48, u49, u50, u51, u52, u53, u54, u55, rfl, f0, f1, f2, f3, f4, f5, f6, f7, f8, f9, f10, f11, f12, f13, f14, f15, f16, f17, f18, f19, f20, f21, f22, f23, f24, f25, f26, f28, f30, a27, b27, a29, b29, a31, b31, r0, r2, rC, rO, bp, hlo, hbel⟩⟩ := hinv
          go_wp2_with fail
          exact ⟨⟨u27, u28, u29, u30, (.slice (some ⟨hG, 0, none⟩) n n), u32, u33, u34, u35, u36, u37, u38, u39, u40, u41, u42, u43, u44, u45, u46, u47, u48, u49, u50, u51, u52, u53, u54, u55, rfl, (Gd.keep (i := 3) f0 (by decide)), (Gd.keep (i := 3) f1 (by decide)), (Gd.keep (i := 3) f2 (by decide)), Gd.new (by first | rfl | simp), (Gd.keep (i := 3) f4 (by decide)), (Gd.keep (i := 3) f5 (by decide)), (Gd.keep (i := 3) f6 (by decide)), (Gd.keep (i := 3) f7 (by decide)), (Gd.keep (i := 3) f8 (by decide)), (Gd.keep (i := 3) f9 (by decide)), (Gd.keep (i := 3) f10 (by decide)), (Gd.keep (i := 3) f11 (by decide)), (Gd.keep (i := 3) f12 (by decide)), (Gd.keep (i := 3) f13 (by decide)), (Gd.keep (i := 3) f14 (by decide)), (Gd.keep (i := 3) f15 (by decide)), (Gd.keep (i := 3) f16 (by decide)), (Gd.keep (i := 3) f17 (by decide)), (Gd.keep (i := 3) f18 (by decide)), (Gd.keep (i := 3) f19 (by decide)), (Gd.keep (i := 3) f20 (by decide)), (Gd.keep (i := 3) f21 (by decide)), (Gd.keep (i := 3) f22 (by decide)), (Gd.keep (i := 3) f23 (by decide)), (Gd.keep (i := 3) f24 (by decide)), (Gd.keep (i := 3) f25 (by decide)), (Gd.keep (i := 3) f26 (by decide)), (Gd.keep (i := 3) f28 (by decide)), (Gd.keep (i := 3) f30 (by decide)), (Ng.keep (i := 3) a27 (by decide)), (Gd.keep (i := 3) b27 (by decide)), (Ng.keep (i := 3) a29 (by decide)), (Gd.keep (i := 3) b29 (by decide)), (Ng.keep (i := 3) a31 (by decide)), (Gd.keep (i := 3) b31 (by decide)), r0, r2, rC, rO, bp, hlo, hbel⟩⟩
        refine .cons 5 rfl ?_ ?_
        · intro d a w9 hsz hcl hinv hd hdep
          obtain ⟨⟨u27, u28, u29, u30, u31, u32, u33, u34, u35, u36, u37, u38, u39, u40, u41, u42, u43, u44, u45, u46, u47, u48, u49, u50, u51, u52, u53, u54, u55, rfl, f0, f1, f2, f3, f4, f5, f6, f7, f8, f9, f10, f11, f12, f13, f14, f15, f16, f17, f18, f19, f20, f21, f22, f23, f24, f25, f26, f28, f30, a27, b27, a29, b29, a31, b31, r0, r2, rC, rO, bp, hlo, hbel⟩⟩ := hinv
          go_wp2_with fail
          exact ⟨⟨u27, u28, u29, u30, u31, (.int .i64 (i : Int)), u33, u34, u35, u36, u37, u38, u39, u40, u41, u42, u43, u44, u45, u46, u47, u48, u49, u50, u51, u52, u53, u54, u55, rfl, (Gd.keep (i := 4) f0 (by decide)), (Gd.keep (i := 4) f1 (by decide)), (Gd.keep (i := 4) f2 (by decide)), (Gd.keep (i := 4) f3 (by decide)), Gd.new (by first | rfl | simp), (Gd.keep (i := 4) f5 (by decide)), (Gd.keep (i := 4) f6 (by decide)), (Gd.keep (i := 4) f7 (by decide)), (Gd.keep (i := 4) f8 (by decide)), (Gd.keep (i := 4) f9 (by decide)), (Gd.keep (i := 4) f10 (by decide)), (Gd.keep (i := 4) f11 (by decide)), (Gd.keep (i := 4) f12 (by decide)), (Gd.keep (i := 4) f13 (by decide)), (Gd.keep (i := 4) f14 (by decide)), (Gd.keep (i := 4) f15 (by decide)), (Gd.keep (i := 4) f16 (by decide)), (Gd.keep (i := 4) f17 (by decide)), (Gd.keep (i := 4) f18 (by decide)), (Gd.keep (i := 4) f19 (by decide)), (Gd.keep (i := 4) f20 (by decide)), (Gd.keep (i := 4) f21 (by decide)), (Gd.keep (i := 4) f22 (by decide)), (Gd.keep (i := 4) f23 (by decide)), (Gd.keep (i := 4) f24 (by decide)), (Gd.keep (i := 4) f25 (by decide)), (Gd.keep (i := 4) f26 (by decide)), (Gd.keep (i := 4) f28 (by decide)), (Gd.keep (i := 4) f30 (by decide)), (Ng.keep (i := 4) a27 (by decide)), (Gd.keep (i := 4) b27 (by decide)), (Ng.keep (i := 4) a29 (by decide)), (Gd.keep (i := 4) b29 (by decide)), (Ng.keep (i := 4) a31 (by decide)), (Gd.keep (i := 4) b31 (by decide)), r0, r2, rC, rO, bp, hlo, hbel⟩⟩
        refine .cons 6 rfl ?_ ?_
        · intro d a w9 hsz hcl hinv hd hdep
          obtain ⟨⟨u27, u28, u29, u30, u31, u32, u33, u34, u35, u36, u37, u38, u39, u40, u41, u42, u43, u44, u45, u46, u47, u48, u49, u50, u51, u52, u53, u54, u55, rfl, f0, f1, f2, f3, f4, f5, f6, f7, f8, f9, f10, f11, f12, f13, f14, f15, f16, f17, f18, f19, f20, f21, f22, f23, f24, f25, f26, f28, f30, a27, b27, a29, b29, a31, b31, r0, r2, rC, rO, bp, hlo, hbel⟩⟩ := hinv
          go_wp2_with fail
          exact ⟨⟨u27, u28, u29, u30, u31, u32, (.slice (some ⟨hL, 0, none⟩) n n), u34, u35, u36, u37, u38, u39, u40, u41, u42, u43, u44, u45, u46, u47, u48, u49, u50, u51, u52, u53, u54, u55, rfl, (Gd.keep (i := 5) f0 (by decide)), (Gd.keep (i := 5) f1 (by decide)), (Gd.keep (i := 5) f2 (by decide)), (Gd.keep (i := 5) f3 (by decide)), (Gd.keep (i := 5) f4 (by decide)), Gd.new (by first | rfl | simp), (Gd.keep (i := 5) f6 (by decide)), (Gd.keep (i := 5) f7 (by decide)), (Gd.keep (i := 5) f8 (by decide)), (Gd.keep (i := 5) f9 (by decide)), (Gd.keep (i := 5) f10 (by decide)), (Gd.keep (i := 5) f11 (by decide)), (Gd.keep (i := 5) f12 (by decide)), (Gd.keep (i := 5) f13 (by decide)), (Gd.keep (i := 5) f14 (by decide)), (Gd.keep (i := 5) f15 (by decide)), (Gd.keep (i := 5) f16 (by decide)), (Gd.keep (i := 5) f17 (by decide)), (Gd.keep (i := 5) f18 (by decide)), (Gd.keep (i := 5) f19 (by decide)), (Gd.keep (i := 5) f20 (by decide)), (Gd.keep (i := 5) f21 (by decide)), (Gd.keep (i := 5) f22 (by decide)), (Gd.keep (i := 5) f23 (by decide)), (Gd.keep (i := 5) f24 (by decide)), (Gd.keep (i := 5) f25 (by decide)), (Gd.keep (i := 5) f26 (by decide)), (Gd.keep (i := 5) f28 (by decide)), (Gd.keep (i := 5) f30 (by decide)), (Ng.keep (i := 5) a27 (by decide)), (Gd.keep (i := 5) b27 (by decide)), (Ng.keep (i := 5) a29 (by decide)), (Gd.keep (i := 5) b29 (by decide)), (Ng.keep (i := 5) a31 (by decide)), (Gd.keep (i := 5) b31 (by decide)), r0, r2, rC, rO, bp, hlo, hbel⟩⟩
        refine .cons 7 rfl ?_ ?_
        · intro d a w9 hsz hcl hinv hd hdep
          obtain ⟨⟨u27, u28, u29, u30, u31, u32, u33, u34, u35, u36, u37, u38, u39, u40, u41, u42, u43, u44, u45, u46, u47, u48, u49, u50, u51, u52, u53, u54, u55, rfl, f0, f1, f2, f3, f4, f5, f6, f7, f8, f9, f10, f11, f12, f13, f14, f15, f16, f17, f18, f19, f20, f21, f22, f23, f24, f25, f26, f28, f30, a27, b27, a29, b29, a31, b31, r0, r2, rC, rO, bp, hlo, hbel⟩⟩ := hinv
          go_wp2_with fail
          exact ⟨⟨u27, u28, u29, u30, u31, u32, u33, (.int .i64 (i : Int)), u35, u36, u37, u38, u39, u40, u41, u42, u43, u44, u45, u46, u47, u48, u49, u50, u51, u52, u53, u54, u55, rfl, (Gd.keep (i := 6) f0 (by decide)), (Gd.keep (i := 6) f1 (by decide)), (Gd.keep (i := 6) f2 (by decide)), (Gd.keep (i := 6) f3 (by decide)), (Gd.keep (i := 6) f4 (by decide)), (Gd.keep (i := 6) f5 (by decide)), Gd.new (by first | rfl | simp), (Gd.keep (i := 6) f7 (by decide)), (Gd.keep (i := 6) f8 (by decide)), (Gd.keep (i := 6) f9 (by decide)), (Gd.keep (i := 6) f10 (by decide)), (Gd.keep (i := 6) f11 (by decide)), (Gd.keep (i := 6) f12 (by decide)), (Gd.keep (i := 6) f13 (by decide)), (Gd.keep (i := 6) f14 (by decide)), (Gd.keep (i := 6) f15 (by decide)), (Gd.keep (i := 6) f16 (by decide)), (Gd.keep (i := 6) f17 (by decide)), (Gd.keep (i := 6) f18 (by decide)), (Gd.keep (i := 6) f19 (by decide)), (Gd.keep (i := 6) f20 (by decide)), (Gd.keep (i := 6) f21 (by decide)), (Gd.keep (i := 6) f22 (by decide)), (Gd.keep (i := 6) f23 (by decide)), (Gd.keep (i := 6) f24 (by decide)), (Gd.keep (i := 6) f25 (by decide)), (Gd.keep (i := 6) f26 (by decide)), (Gd.keep (i := 6) f28 (by decide)), (Gd.keep (i := 6) f30 (by decide)), (Ng.keep (i := 6) a27 (by decide)), (Gd.keep (i := 6) b27 (by decide)), (Ng.keep (i := 6) a29 (by decide)), (Gd.keep (i := 6) b29 (by decide)), (Ng.keep (i := 6) a31 (by decide)), (Gd.keep (i := 6) b31 (by decide)), r0, r2, rC, rO, bp, hlo, hbel⟩⟩
        refine .cons 8 rfl ?_ ?_
        · intro d a w9 hsz hcl hinv hd hdep
          obtain ⟨⟨u27, u28, u29, u30, u31, u32, u33, u34, u35, u36, u37, u38, u39, u40, u41, u42, u43, u44, u45, u46, u47, u48, u49, u50, u51, u52, u53, u54, u55, rfl, f0, f1, f2, f3, f4, f5, f6, f7, f8, f9, f10, f11, f12, f13, f14, f15, f16, f17, f18, f19, f20, f21, f22, f23, f24, f25, f26, f28, f30, a27, b27, a29, b29, a31, b31, r0, r2, rC, rO, bp, hlo, hbel⟩⟩ := hinv
          go_wp2_with fail
          exact ⟨⟨u27, u28, u29, u30, u31, u32, u33, u34, (.pointer (some ⟨p, 1, none⟩)), u36, u37, u38, u39, u40, u41, u42, u43, u44, u45, u46, u47, u48, u49, u50, u51, u52, u53, u54, u55, rfl, (Gd.keep (i := 7) f0 (by decide)), (Gd.keep (i := 7) f1 (by decide)), (Gd.keep (i := 7) f2 (by decide)), (Gd.keep (i := 7) f3 (by decide)), (Gd.keep (i := 7) f4 (by decide)), (Gd.keep (i := 7) f5 (by decide)), (Gd.keep (i := 7) f6 (by decide)), Gd.new (by first | rfl | simp), (Gd.keep (i := 7) f8 (by decide)), (Gd.keep (i := 7) f9 (by decide)), (Gd.keep (i := 7) f10 (by decide)), (Gd.keep (i := 7) f11 (by decide)), (Gd.keep (i := 7) f12 (by decide)), (Gd.keep (i := 7) f13 (by decide)), (Gd.keep (i := 7) f14 (by decide)), (Gd.keep (i := 7) f15 (by decide)), (Gd.keep (i := 7) f16 (by decide)), (Gd.keep (i := 7) f17 (by decide)), (Gd.keep (i := 7) f18 (by decide)), (Gd.keep (i := 7) f19 (by decide)), (Gd.keep (i := 7) f20 (by decide)), (Gd.keep (i := 7) f21 (by decide)), (Gd.keep (i := 7) f22 (by decide)), (Gd.keep (i := 7) f23 (by decide)), (Gd.keep (i := 7) f24 (by decide)), (Gd.keep (i := 7) f25 (by decide)), (Gd.keep (i := 7) f26 (by decide)), (Gd.keep (i := 7) f28 (by decide)), (Gd.keep (i := 7) f30 (by decide)), (Ng.keep (i := 7) a27 (by decide)), (Gd.keep (i := 7) b27 (by decide)), (Ng.keep (i := 7) a29 (by decide)), (Gd.keep (i := 7) b29 (by decide)), (Ng.keep (i := 7) a31 (by decide)), (Gd.keep (i := 7) b31 (by decide)), r0, r2, rC, rO, bp, hlo, hbel⟩⟩
        refine .cons 9 rfl ?_ ?_
        · intro d a w9 hsz hcl hinv hd hdep
          obtain ⟨⟨u27, u28, u29, u30, u31, u32, u33, u34, u35, u36, u37, u38, u39, u40, u41, u42, u43, u44, u45, u46, u47, u48, u49, u50, u51, u52, u53, u54, u55, rfl, f0, f1, f2, f3, f4, f5, f6, f7, f8, f9, f10, f11, f12, f13, f14, f15, f16, f17, f18, f19, f20, f21, f22, f23, f24, f25, f26, f28, f30, a27, b27, a29, b29, a31, b31, r0, r2, rC, rO, bp, hlo, hbel⟩⟩ := hinv
          have e7 := f7 (hdep.get 7 rfl)
          subst e7
          have ck := bp.c 1 rfl
          go_wp2_with fail
          exact ⟨⟨u27, u28, u29, u30, u31, u32, u33, u34, (.pointer (some ⟨p, 1, none⟩)), (.slice (some ⟨g1, 0, none⟩) n d1), u37, u38, u39, u40, u41, u42, u43, u44, u45, u46, u47, u48, u49, u50, u51, u52, u53, u54, u55, rfl, (Gd.keep (i := 8) f0 (by decide)), (Gd.keep (i := 8) f1 (by decide)), (Gd.keep (i := 8) f2 (by decide)), (Gd.keep (i := 8) f3 (by decide)), (Gd.keep (i := 8) f4 (by decide)), (Gd.keep (i := 8) f5 (by decide)), (Gd.keep (i := 8) f6 (by decide)), Gd.new rfl, Gd.new (by first | rfl | simp), (Gd.keep (i := 8) f9 (by decide)), (Gd.keep (i := 8) f10 (by decide)), (Gd.keep (i := 8) f11 (by decide)), (Gd.keep (i := 8) f12 (by decide)), (Gd.keep (i := 8) f13 (by decide)), (Gd.keep (i := 8) f14 (by decide)), (Gd.keep (i := 8) f15 (by decide)), (Gd.keep (i := 8) f16 (by decide)), (Gd.keep (i := 8) f17 (by decide)), (Gd.keep (i := 8) f18 (by decide)), (Gd.keep (i := 8) f19 (by decide)), (Gd.keep (i := 8) f20 (by decide)), (Gd.keep (i := 8) f21 (by decide)), (Gd.keep (i := 8) f22 (by decide)), (Gd.keep (i := 8) f23 (by decide)), (Gd.keep (i := 8) f24 (by decide)), (Gd.keep (i := 8) f25 (by decide)), (Gd.keep (i := 8) f26 (by decide)), (Gd.keep (i := 8) f28 (by decide)), (Gd.keep (i := 8) f30 (by decide)), (Ng.keep (i := 8) a27 (by decide)), (Gd.keep (i := 8) b27 (by decide)), (Ng.keep (i := 8) a29 (by decide)), (Gd.keep (i := 8) b29 (by decide)), (Ng.keep (i := 8) a31 (by decide)), (Gd.keep (i := 8) b31 (by decide)), r0, r2, rC, rO, bp, hlo, hbel⟩⟩
        refine .cons 10 rfl ?_ ?_
        · intro d a w9 hsz hcl hinv hd hdep
          obtain ⟨⟨u27, u28, u29, u30, u31, u32, u33, u34, u35, u36, u37, u38, u39, u40, u41, u42, u43, u44, u45, u46, u47, u48, u49, u50, u51, u52, u53, u54, u55, rfl, f0, f1, f2, f3, f4, f5, f6, f7, f8, f9, f10, f11, f12, f13, f14, f15, f16, f17, f18, f19, f20, f21, f22, f23, f24, f25, f26, f28, f30, a27, b27, a29, b29, a31, b31, r0, r2, rC, rO, bp, hlo, hbel⟩⟩ := hinv
          go_wp2_with fail
          exact ⟨⟨u27, u28, u29, u30, u31, u32, u33, u34, u35, u36, (.int .i64 (i : Int)), u38, u39, u40, u41, u42, u43, u44, u45, u46, u47, u48, u49, u50, u51, u52, u53, u54, u55, rfl, (Gd.keep (i := 9) f0 (by decide)), (Gd.keep (i := 9) f1 (by decide)), (Gd.keep (i := 9) f2 (by decide)), (Gd.keep (i := 9) f3 (by decide)), (Gd.keep (i := 9) f4 (by decide)), (Gd.keep (i := 9) f5 (by decide)), (Gd.keep (i := 9) f6 (by decide)), (Gd.keep (i := 9) f7 (by decide)), (Gd.keep (i := 9) f8 (by decide)), Gd.new (by first | rfl | simp), (Gd.keep (i := 9) f10 (by decide)), (Gd.keep (i := 9) f11 (by decide)), (Gd.keep (i := 9) f12 (by decide)), (Gd.keep (i := 9) f13 (by decide)), (Gd.keep (i := 9) f14 (by decide)), (Gd.keep (i := 9) f15 (by decide)), (Gd.keep (i := 9) f16 (by decide)), (Gd.keep (i := 9) f17 (by decide)), (Gd.keep (i := 9) f18 (by decide)), (Gd.keep (i := 9) f19 (by decide)), (Gd.keep (i := 9) f20 (by decide)), (Gd.keep (i := 9) f21 (by decide)), (Gd.keep (i := 9) f22 (by decide)), (Gd.keep (i := 9) f23 (by decide)), (Gd.keep (i := 9) f24 (by decide)), (Gd.keep (i := 9) f25 (by decide)), (Gd.keep (i := 9) f26 (by decide)), (Gd.keep (i := 9) f28 (by decide)), (Gd.keep (i := 9) f30 (by decide)), (Ng.keep (i := 9) a27 (by decide)), (Gd.keep (i := 9) b27 (by decide)), (Ng.keep (i := 9) a29 (by decide)), (Gd.keep (i := 9) b29 (by decide)), (Ng.keep (i := 9) a31 (by decide)), (Gd.keep (i := 9) b31 (by decide)), r0, r2, rC, rO, bp, hlo, hbel⟩⟩
        refine .cons 11 rfl ?_ ?_
        · intro d a w9 hsz hcl hinv hd hdep
          obtain ⟨⟨u27, u28, u29, u30, u31, u32, u33, u34, u35, u36, u37, u38, u39, u40, u41, u42, u43, u44, u45, u46, u47, u48, u49, u50, u51, u52, u53, u54, u55, rfl, f0, f1, f2, f3, f4, f5, f6, f7, f8, f9, f10, f11, f12, f13, f14, f15, f16, f17, f18, f19, f20, f21, f22, f23, f24, f25, f26, f28, f30, a27, b27, a29, b29, a31, b31, r0, r2, rC, rO, bp, hlo, hbel⟩⟩ := hinv
          have e8 := f8 (hdep.get 8 rfl)
          subst e8
          have e9 := f9 (hdep.get 9 rfl)
          subst e9
          go_wp2_with fail
          exact ⟨⟨u27, u28, u29, u30, u31, u32, u33, u34, u35, (.slice (some ⟨g1, 0, none⟩) n d1), (.int .i64 (i : Int)), (.pointer (some ⟨g1, i * 4, none⟩)), u39, u40, u41, u42, u43, u44, u45, u46, u47, u48, u49, u50, u51, u52, u53, u54, u55, rfl, (Gd.keep (i := 10) f0 (by decide)), (Gd.keep (i := 10) f1 (by decide)), (Gd.keep (i := 10) f2 (by decide)), (Gd.keep (i := 10) f3 (by decide)), (Gd.keep (i := 10) f4 (by decide)), (Gd.keep (i := 10) f5 (by decide)), (Gd.keep (i := 10) f6 (by decide)), (Gd.keep (i := 10) f7 (by decide)), Gd.new rfl, Gd.new rfl, Gd.new (by first | rfl | simp), (Gd.keep (i := 10) f11 (by decide)), (Gd.keep (i := 10) f12 (by decide)), (Gd.keep (i := 10) f13 (by decide)), (Gd.keep (i := 10) f14 (by decide)), (Gd.keep (i := 10) f15 (by decide)), (Gd.keep (i := 10) f16 (by decide)), (Gd.keep (i := 10) f17 (by decide)), (Gd.keep (i := 10) f18 (by decide)), (Gd.keep (i := 10) f19 (by decide)), (Gd.keep (i := 10) f20 (by decide)), (Gd.keep (i := 10) f21 (by decide)), (Gd.keep (i := 10) f22 (by decide)), (Gd.keep (i := 10) f23 (by decide)), (Gd.keep (i := 10) f24 (by decide)), (Gd.keep (i := 10) f25 (by decide)), (Gd.keep (i := 10) f26 (by decide)), (Gd.keep (i := 10) f28 (by decide)), (Gd.keep (i := 10) f30 (by decide)), (Ng.keep (i := 10) a27 (by decide)), (Gd.keep (i := 10) b27 (by decide)), (Ng.keep (i := 10) a29 (by decide)), (Gd.keep (i := 10) b29 (by decide)), (Ng.keep (i := 10) a31 (by decide)), (Gd.keep (i := 10) b31 (by decide)), r0, r2, rC, rO, bp, hlo, hbel⟩⟩
        refine .cons 12 rfl ?_ ?_
        · intro d a w9 hsz hcl hinv hd hdep
          obtain ⟨⟨u27, u28, u29, u30, u31, u32, u33, u34, u35, u36, u37, u38, u39, u40, u41, u42, u43, u44, u45, u46, u47, u48, u49, u50, u51, u52, u53, u54, u55, rfl, f0, f1, f2, f3, f4, f5, f6, f7, f8, f9, f10, f11, f12, f13, f14, f15, f16, f17, f18, f19, f20, f21, f22, f23, f24, f25, f26, f28, f30, a27, b27, a29, b29, a31, b31, r0, r2, rC, rO, bp, hlo, hbel⟩⟩ := hinv
          have e10 := f10 (hdep.get 10 rfl)
          subst e10
          have ns := hcl.not hd 27 _ rfl rfl
          have hr := a27 ns
          have cs := hr.cellAt (i * 4) (by omega)
          rw [ic_at (by rw [Hln.out.1]; omega), Ns.out] at cs
          have cd := hr.cellAt (i * 4 + 1) (by omega)
          rw [ic_at (by rw [Hln.out.1]; omega), Nd.out] at cd
          have cl := hr.cellAt (i * 4 + 2) (by omega)
          rw [ic_at (by rw [Hln.out.1]; omega), Nl.out] at cl
          have cq := hr.cellAt (i * 4 + 3) (by omega)
          rw [ic_at (by rw [Hln.out.1]; omega), Nq.out] at cq
          go_wp2_with fail
          exact ⟨⟨u27, u28, u29, u30, u31, u32, u33, u34, u35, u36, u37, (.pointer (some ⟨g1, i * 4, none⟩)), (.agg #[.int .i64 s, .int .i64 dd, .int .i64 l, .int .i64 q]), u40, u41, u42, u43, u44, u45, u46, u47, u48, u49, u50, u51, u52, u53, u54, u55, rfl, (Gd.keep (i := 11) f0 (by decide)), (Gd.keep (i := 11) f1 (by decide)), (Gd.keep (i := 11) f2 (by decide)), (Gd.keep (i := 11) f3 (by decide)), (Gd.keep (i := 11) f4 (by decide)), (Gd.keep (i := 11) f5 (by decide)), (Gd.keep (i := 11) f6 (by decide)), (Gd.keep (i := 11) f7 (by decide)), (Gd.keep (i := 11) f8 (by decide)), (Gd.keep (i := 11) f9 (by decide)), Gd.new rfl, Gd.new (by first | rfl | simp), (Gd.keep (i := 11) f12 (by decide)), (Gd.keep (i := 11) f13 (by decide)), (Gd.keep (i := 11) f14 (by decide)), (Gd.keep (i := 11) f15 (by decide)), (Gd.keep (i := 11) f16 (by decide)), (Gd.keep (i := 11) f17 (by decide)), (Gd.keep (i := 11) f18 (by decide)), (Gd.keep (i := 11) f19 (by decide)), (Gd.keep (i := 11) f20 (by decide)), (Gd.keep (i := 11) f21 (by decide)), (Gd.keep (i := 11) f22 (by decide)), (Gd.keep (i := 11) f23 (by decide)), (Gd.keep (i := 11) f24 (by decide)), (Gd.keep (i := 11) f25 (by decide)), (Gd.keep (i := 11) f26 (by decide)), (Gd.keep (i := 11) f28 (by decide)), (Gd.keep (i := 11) f30 (by decide)), (Ng.keep (i := 11) a27 (by decide)), (Gd.keep (i := 11) b27 (by decide)), (Ng.keep (i := 11) a29 (by decide)), (Gd.keep (i := 11) b29 (by decide)), (Ng.keep (i := 11) a31 (by decide)), (Gd.keep (i := 11) b31 (by decide)), r0, r2, rC, rO, bp, hlo, hbel⟩⟩
        refine .cons 13 rfl ?_ ?_
        · intro d a w9 hsz hcl hinv hd hdep
          obtain ⟨⟨u27, u28, u29, u30, u31, u32, u33, u34, u35, u36, u37, u38, u39, u40, u41, u42, u43, u44, u45, u46, u47, u48, u49, u50, u51, u52, u53, u54, u55, rfl, f0, f1, f2, f3, f4, f5, f6, f7, f8, f9, f10, f11, f12, f13, f14, f15, f16, f17, f18, f19, f20, f21, f22, f23, f24, f25, f26, f28, f30, a27, b27, a29, b29, a31, b31, r0, r2, rC, rO, bp, hlo, hbel⟩⟩ := hinv
          go_wp2_with fail
          exact ⟨⟨u27, u28, u29, u30, u31, u32, u33, u34, u35, u36, u37, u38, u39, (.pointer (some ⟨p, 2, none⟩)), u41, u42, u43, u44, u45, u46, u47, u48, u49, u50, u51, u52, u53, u54, u55, rfl, (Gd.keep (i := 12) f0 (by decide)), (Gd.keep (i := 12) f1 (by decide)), (Gd.keep (i := 12) f2 (by decide)), (Gd.keep (i := 12) f3 (by decide)), (Gd.keep (i := 12) f4 (by decide)), (Gd.keep (i := 12) f5 (by decide)), (Gd.keep (i := 12) f6 (by decide)), (Gd.keep (i := 12) f7 (by decide)), (Gd.keep (i := 12) f8 (by decide)), (Gd.keep (i := 12) f9 (by decide)), (Gd.keep (i := 12) f10 (by decide)), (Gd.keep (i := 12) f11 (by decide)), Gd.new (by first | rfl | simp), (Gd.keep (i := 12) f13 (by decide)), (Gd.keep (i := 12) f14 (by decide)), (Gd.keep (i := 12) f15 (by decide)), (Gd.keep (i := 12) f16 (by decide)), (Gd.keep (i := 12) f17 (by decide)), (Gd.keep (i := 12) f18 (by decide)), (Gd.keep (i := 12) f19 (by decide)), (Gd.keep (i := 12) f20 (by decide)), (Gd.keep (i := 12) f21 (by decide)), (Gd.keep (i := 12) f22 (by decide)), (Gd.keep (i := 12) f23 (by decide)), (Gd.keep (i := 12) f24 (by decide)), (Gd.keep (i := 12) f25 (by decide)), (Gd.keep (i := 12) f26 (by decide)), (Gd.keep (i := 12) f28 (by decide)), (Gd.keep (i := 12) f30 (by decide)), (Ng.keep (i := 12) a27 (by decide)), (Gd.keep (i := 12) b27 (by decide)), (Ng.keep (i := 12) a29 (by decide)), (Gd.keep (i := 12) b29 (by decide)), (Ng.keep (i := 12) a31 (by decide)), (Gd.keep (i := 12) b31 (by decide)), r0, r2, rC, rO, bp, hlo, hbel⟩⟩
        refine .cons 14 rfl ?_ ?_
        · intro d a w9 hsz hcl hinv hd hdep
          obtain ⟨⟨u27, u28, u29, u30, u31, u32, u33, u34, u35, u36, u37, u38, u39, u40, u41, u42, u43, u44, u45, u46, u47, u48, u49, u50, u51, u52, u53, u54, u55, rfl, f0, f1, f2, f3, f4, f5, f6, f7, f8, f9, f10, f11, f12, f13, f14, f15, f16, f17, f18, f19, f20, f21, f22, f23, f24, f25, f26, f28, f30, a27, b27, a29, b29, a31, b31, r0, r2, rC, rO, bp, hlo, hbel⟩⟩ := hinv
          have e12 := f12 (hdep.get 12 rfl)
          subst e12
          have ck := bp.c 2 rfl
          go_wp2_with fail
          exact ⟨⟨u27, u28, u29, u30, u31, u32, u33, u34, u35, u36, u37, u38, u39, (.pointer (some ⟨p, 2, none⟩)), (.slice (some ⟨g2, 0, none⟩) n d2), u42, u43, u44, u45, u46, u47, u48, u49, u50, u51, u52, u53, u54, u55, rfl, (Gd.keep (i := 13) f0 (by decide)), (Gd.keep (i := 13) f1 (by decide)), (Gd.keep (i := 13) f2 (by decide)), (Gd.keep (i := 13) f3 (by decide)), (Gd.keep (i := 13) f4 (by decide)), (Gd.keep (i := 13) f5 (by decide)), (Gd.keep (i := 13) f6 (by decide)), (Gd.keep (i := 13) f7 (by decide)), (Gd.keep (i := 13) f8 (by decide)), (Gd.keep (i := 13) f9 (by decide)), (Gd.keep (i := 13) f10 (by decide)), (Gd.keep (i := 13) f11 (by decide)), Gd.new rfl, Gd.new (by first | rfl | simp), (Gd.keep (i := 13) f14 (by decide)), (Gd.keep (i := 13) f15 (by decide)), (Gd.keep (i := 13) f16 (by decide)), (Gd.keep (i := 13) f17 (by decide)), (Gd.keep (i := 13) f18 (by decide)), (Gd.keep (i := 13) f19 (by decide)), (Gd.keep (i := 13) f20 (by decide)), (Gd.keep (i := 13) f21 (by decide)), (Gd.keep (i := 13) f22 (by decide)), (Gd.keep (i := 13) f23 (by decide)), (Gd.keep (i := 13) f24 (by decide)), (Gd.keep (i := 13) f25 (by decide)), (Gd.keep (i := 13) f26 (by decide)), (Gd.keep (i := 13) f28 (by decide)), (Gd.keep (i := 13) f30 (by decide)), (Ng.keep (i := 13) a27 (by decide)), (Gd.keep (i := 13) b27 (by decide)), (Ng.keep (i := 13) a29 (by decide)), (Gd.keep (i := 13) b29 (by decide)), (Ng.keep (i := 13) a31 (by decide)), (Gd.keep (i := 13) b31 (by decide)), r0, r2, rC, rO, bp, hlo, hbel⟩⟩
        refine .cons 15 rfl ?_ ?_
        · intro d a w9 hsz hcl hinv hd hdep
          obtain ⟨⟨u27, u28, u29, u30, u31, u32, u33, u34, u35, u36, u37, u38, u39, u40, u41, u42, u43, u44, u45, u46, u47, u48, u49, u50, u51, u52, u53, u54, u55, rfl, f0, f1, f2, f3, f4, f5, f6, f7, f8, f9, f10, f11, f12, f13, f14, f15, f16, f17, f18, f19, f20, f21, f22, f23, f24, f25, f26, f28, f30, a27, b27, a29, b29, a31, b31, r0, r2, rC, rO, bp, hlo, hbel⟩⟩ := hinv
          go_wp2_with fail
          exact ⟨⟨u27, u28, u29, u30, u31, u32, u33, u34, u35, u36, u37, u38, u39, u40, u41, (.int .i64 (i : Int)), u43, u44, u45, u46, u47, u48, u49, u50, u51, u52, u53, u54, u55, rfl, (Gd.keep (i := 14) f0 (by decide)), (Gd.keep (i := 14) f1 (by decide)), (Gd.keep (i := 14) f2 (by decide)), (Gd.keep (i := 14) f3 (by decide)), (Gd.keep (i := 14) f4 (by decide)), (Gd.keep (i := 14) f5 (by decide)), (Gd.keep (i := 14) f6 (by decide)), (Gd.keep (i := 14) f7 (by decide)), (Gd.keep (i := 14) f8 (by decide)), (Gd.keep (i := 14) f9 (by decide)), (Gd.keep (i := 14) f10 (by decide)), (Gd.keep (i := 14) f11 (by decide)), (Gd.keep (i := 14) f12 (by decide)), (Gd.keep (i := 14) f13 (by decide)), Gd.new (by first | rfl | simp), (Gd.keep (i := 14) f15 (by decide)), (Gd.keep (i := 14) f16 (by decide)), (Gd.keep (i := 14) f17 (by decide)), (Gd.keep (i := 14) f18 (by decide)), (Gd.keep (i := 14) f19 (by decide)), (Gd.keep (i := 14) f20 (by decide)), (Gd.keep (i := 14) f21 (by decide)), (Gd.keep (i := 14) f22 (by decide)), (Gd.keep (i := 14) f23 (by decide)), (Gd.keep (i := 14) f24 (by decide)), (Gd.keep (i := 14) f25 (by decide)), (Gd.keep (i := 14) f26 (by decide)), (Gd.keep (i := 14) f28 (by decide)), (Gd.keep (i := 14) f30 (by decide)), (Ng.keep (i := 14) a27 (by decide)), (Gd.keep (i := 14) b27 (by decide)), (Ng.keep (i := 14) a29 (by decide)), (Gd.keep (i := 14) b29 (by decide)), (Ng.keep (i := 14) a31 (by decide)), (Gd.keep (i := 14) b31 (by decide)), r0, r2, rC, rO, bp, hlo, hbel⟩⟩
        refine .cons 16 rfl ?_ ?_
        · intro d a w9 hsz hcl hinv hd hdep
          obtain ⟨⟨u27, u28, u29, u30, u31, u32, u33, u34, u35, u36, u37, u38, u39, u40, u41, u42, u43, u44, u45, u46, u47, u48, u49, u50, u51, u52, u53, u54, u55, rfl, f0, f1, f2, f3, f4, f5, f6, f7, f8, f9, f10, f11, f12, f13, f14, f15, f16, f17, f18, f19, f20, f21, f22, f23, f24, f25, f26, f28, f30, a27, b27, a29, b29, a31, b31, r0, r2, rC, rO, bp, hlo, hbel⟩⟩ := hinv
          have e13 := f13 (hdep.get 13 rfl)
          subst e13
          have e14 := f14 (hdep.get 14 rfl)
          subst e14
          go_wp2_with fail
          exact ⟨⟨u27, u28, u29, u30, u31, u32, u33, u34, u35, u36, u37, u38, u39, u40, (.slice (some ⟨g2, 0, none⟩) n d2), (.int .i64 (i : Int)), (.pointer (some ⟨g2, i, none⟩)), u44, u45, u46, u47, u48, u49, u50, u51, u52, u53, u54, u55, rfl, (Gd.keep (i := 15) f0 (by decide)), (Gd.keep (i := 15) f1 (by decide)), (Gd.keep (i := 15) f2 (by decide)), (Gd.keep (i := 15) f3 (by decide)), (Gd.keep (i := 15) f4 (by decide)), (Gd.keep (i := 15) f5 (by decide)), (Gd.keep (i := 15) f6 (by decide)), (Gd.keep (i := 15) f7 (by decide)), (Gd.keep (i := 15) f8 (by decide)), (Gd.keep (i := 15) f9 (by decide)), (Gd.keep (i := 15) f10 (by decide)), (Gd.keep (i := 15) f11 (by decide)), (Gd.keep (i := 15) f12 (by decide)), Gd.new rfl, Gd.new rfl, Gd.new (by first | rfl | simp), (Gd.keep (i := 15) f16 (by decide)), (Gd.keep (i := 15) f17 (by decide)), (Gd.keep (i := 15) f18 (by decide)), (Gd.keep (i := 15) f19 (by decide)), (Gd.keep (i := 15) f20 (by decide)), (Gd.keep (i := 15) f21 (by decide)), (Gd.keep (i := 15) f22 (by decide)), (Gd.keep (i := 15) f23 (by decide)), (Gd.keep (i := 15) f24 (by decide)), (Gd.keep (i := 15) f25 (by decide)), (Gd.keep (i := 15) f26 (by decide)), (Gd.keep (i := 15) f28 (by decide)), (Gd.keep (i := 15) f30 (by decide)), (Ng.keep (i := 15) a27 (by decide)), (Gd.keep (i := 15) b27 (by decide)), (Ng.keep (i := 15) a29 (by decide)), (Gd.keep (i := 15) b29 (by decide)), (Ng.keep (i := 15) a31 (by decide)), (Gd.keep (i := 15) b31 (by decide)), r0, r2, rC, rO, bp, hlo, hbel⟩⟩
        refine .cons 17 rfl ?_ ?_
        · intro d a w9 hsz hcl hinv hd hdep
          obtain ⟨⟨u27, u28, u29, u30, u31, u32, u33, u34, u35, u36, u37, u38, u39, u40, u41, u42, u43, u44, u45, u46, u47, u48, u49, u50, u51, u52, u53, u54, u55, rfl, f0, f1, f2, f3, f4, f5, f6, f7, f8, f9, f10, f11, f12, f13, f14, f15, f16, f17, f18, f19, f20, f21, f22, f23, f24, f25, f26, f28, f30, a27, b27, a29, b29, a31, b31, r0, r2, rC, rO, bp, hlo, hbel⟩⟩ := hinv
          have e15 := f15 (hdep.get 15 rfl)
          subst e15
          have cv := r2.cellAt (i) (by omega)
          rw [ic_at (by rw [HN2.out]; omega), Nv.out] at cv
          go_wp2_with fail
          exact ⟨⟨u27, u28, u29, u30, u31, u32, u33, u34, u35, u36, u37, u38, u39, u40, u41, u42, (.pointer (some ⟨g2, i, none⟩)), (.int .i64 v), u45, u46, u47, u48, u49, u50, u51, u52, u53, u54, u55, rfl, (Gd.keep (i := 16) f0 (by decide)), (Gd.keep (i := 16) f1 (by decide)), (Gd.keep (i := 16) f2 (by decide)), (Gd.keep (i := 16) f3 (by decide)), (Gd.keep (i := 16) f4 (by decide)), (Gd.keep (i := 16) f5 (by decide)), (Gd.keep (i := 16) f6 (by decide)), (Gd.keep (i := 16) f7 (by decide)), (Gd.keep (i := 16) f8 (by decide)), (Gd.keep (i := 16) f9 (by decide)), (Gd.keep (i := 16) f10 (by decide)), (Gd.keep (i := 16) f11 (by decide)), (Gd.keep (i := 16) f12 (by decide)), (Gd.keep (i := 16) f13 (by decide)), (Gd.keep (i := 16) f14 (by decide)), Gd.new rfl, Gd.new (by first | rfl | simp), (Gd.keep (i := 16) f17 (by decide)), (Gd.keep (i := 16) f18 (by decide)), (Gd.keep (i := 16) f19 (by decide)), (Gd.keep (i := 16) f20 (by decide)), (Gd.keep (i := 16) f21 (by decide)), (Gd.keep (i := 16) f22 (by decide)), (Gd.keep (i := 16) f23 (by decide)), (Gd.keep (i := 16) f24 (by decide)), (Gd.keep (i := 16) f25 (by decide)), (Gd.keep (i := 16) f26 (by decide)), (Gd.keep (i := 16) f28 (by decide)), (Gd.keep (i := 16) f30 (by decide)), (Ng.keep (i := 16) a27 (by decide)), (Gd.keep (i := 16) b27 (by decide)), (Ng.keep (i := 16) a29 (by decide)), (Gd.keep (i := 16) b29 (by decide)), (Ng.keep (i := 16) a31 (by decide)), (Gd.keep (i := 16) b31 (by decide)), r0, r2, rC, rO, bp, hlo, hbel⟩⟩
        refine .cons 18 rfl ?_ ?_
        · intro d a w9 hsz hcl hinv hd hdep
          obtain ⟨⟨u27, u28, u29, u30, u31, u32, u33, u34, u35, u36, u37, u38, u39, u40, u41, u42, u43, u44, u45, u46, u47, u48, u49, u50, u51, u52, u53, u54, u55, rfl, f0, f1, f2, f3, f4, f5, f6, f7, f8, f9, f10, f11, f12, f13, f14, f15, f16, f17, f18, f19, f20, f21, f22, f23, f24, f25, f26, f28, f30, a27, b27, a29, b29, a31, b31, r0, r2, rC, rO, bp, hlo, hbel⟩⟩ := hinv
          go_wp2_with fail
          exact ⟨⟨u27, u28, u29, u30, u31, u32, u33, u34, u35, u36, u37, u38, u39, u40, u41, u42, u43, u44, (.slice (some ⟨hC, 0, none⟩) n eC), u46, u47, u48, u49, u50, u51, u52, u53, u54, u55, rfl, (Gd.keep (i := 17) f0 (by decide)), (Gd.keep (i := 17) f1 (by decide)), (Gd.keep (i := 17) f2 (by decide)), (Gd.keep (i := 17) f3 (by decide)), (Gd.keep (i := 17) f4 (by decide)), (Gd.keep (i := 17) f5 (by decide)), (Gd.keep (i := 17) f6 (by decide)), (Gd.keep (i := 17) f7 (by decide)), (Gd.keep (i := 17) f8 (by decide)), (Gd.keep (i := 17) f9 (by decide)), (Gd.keep (i := 17) f10 (by decide)), (Gd.keep (i := 17) f11 (by decide)), (Gd.keep (i := 17) f12 (by decide)), (Gd.keep (i := 17) f13 (by decide)), (Gd.keep (i := 17) f14 (by decide)), (Gd.keep (i := 17) f15 (by decide)), (Gd.keep (i := 17) f16 (by decide)), Gd.new (by first | rfl | simp), (Gd.keep (i := 17) f18 (by decide)), (Gd.keep (i := 17) f19 (by decide)), (Gd.keep (i := 17) f20 (by decide)), (Gd.keep (i := 17) f21 (by decide)), (Gd.keep (i := 17) f22 (by decide)), (Gd.keep (i := 17) f23 (by decide)), (Gd.keep (i := 17) f24 (by decide)), (Gd.keep (i := 17) f25 (by decide)), (Gd.keep (i := 17) f26 (by decide)), (Gd.keep (i := 17) f28 (by decide)), (Gd.keep (i := 17) f30 (by decide)), (Ng.keep (i := 17) a27 (by decide)), (Gd.keep (i := 17) b27 (by decide)), (Ng.keep (i := 17) a29 (by decide)), (Gd.keep (i := 17) b29 (by decide)), (Ng.keep (i := 17) a31 (by decide)), (Gd.keep (i := 17) b31 (by decide)), r0, r2, rC, rO, bp, hlo, hbel⟩⟩
        refine .cons 19 rfl ?_ ?_
        · intro d a w9 hsz hcl hinv hd hdep
          obtain ⟨⟨u27, u28, u29, u30, u31, u32, u33, u34, u35, u36, u37, u38, u39, u40, u41, u42, u43, u44, u45, u46, u47, u48, u49, u50, u51, u52, u53, u54, u55, rfl, f0, f1, f2, f3, f4, f5, f6, f7, f8, f9, f10, f11, f12, f13, f14, f15, f16, f17, f18, f19, f20, f21, f22, f23, f24, f25, f26, f28, f30, a27, b27, a29, b29, a31, b31, r0, r2, rC, rO, bp, hlo, hbel⟩⟩ := hinv
          go_wp2_with fail
          exact ⟨⟨u27, u28, u29, u30, u31, u32, u33, u34, u35, u36, u37, u38, u39, u40, u41, u42, u43, u44, u45, (.int .i64 (i : Int)), u47, u48, u49, u50, u51, u52, u53, u54, u55, rfl, (Gd.keep (i := 18) f0 (by decide)), (Gd.keep (i := 18) f1 (by decide)), (Gd.keep (i := 18) f2 (by decide)), (Gd.keep (i := 18) f3 (by decide)), (Gd.keep (i := 18) f4 (by decide)), (Gd.keep (i := 18) f5 (by decide)), (Gd.keep (i := 18) f6 (by decide)), (Gd.keep (i := 18) f7 (by decide)), (Gd.keep (i := 18) f8 (by decide)), (Gd.keep (i := 18) f9 (by decide)), (Gd.keep (i := 18) f10 (by decide)), (Gd.keep (i := 18) f11 (by decide)), (Gd.keep (i := 18) f12 (by decide)), (Gd.keep (i := 18) f13 (by decide)), (Gd.keep (i := 18) f14 (by decide)), (Gd.keep (i := 18) f15 (by decide)), (Gd.keep (i := 18) f16 (by decide)), (Gd.keep (i := 18) f17 (by decide)), Gd.new (by first | rfl | simp), (Gd.keep (i := 18) f19 (by decide)), (Gd.keep (i := 18) f20 (by decide)), (Gd.keep (i := 18) f21 (by decide)), (Gd.keep (i := 18) f22 (by decide)), (Gd.keep (i := 18) f23 (by decide)), (Gd.keep (i := 18) f24 (by decide)), (Gd.keep (i := 18) f25 (by decide)), (Gd.keep (i := 18) f26 (by decide)), (Gd.keep (i := 18) f28 (by decide)), (Gd.keep (i := 18) f30 (by decide)), (Ng.keep (i := 18) a27 (by decide)), (Gd.keep (i := 18) b27 (by decide)), (Ng.keep (i := 18) a29 (by decide)), (Gd.keep (i := 18) b29 (by decide)), (Ng.keep (i := 18) a31 (by decide)), (Gd.keep (i := 18) b31 (by decide)), r0, r2, rC, rO, bp, hlo, hbel⟩⟩
        refine .cons 20 rfl ?_ ?_
        · intro d a w9 hsz hcl hinv hd hdep
          obtain ⟨⟨u27, u28, u29, u30, u31, u32, u33, u34, u35, u36, u37, u38, u39, u40, u41, u42, u43, u44, u45, u46, u47, u48, u49, u50, u51, u52, u53, u54, u55, rfl, f0, f1, f2, f3, f4, f5, f6, f7, f8, f9, f10, f11, f12, f13, f14, f15, f16, f17, f18, f19, f20, f21, f22, f23, f24, f25, f26, f28, f30, a27, b27, a29, b29, a31, b31, r0, r2, rC, rO, bp, hlo, hbel⟩⟩ := hinv
          have e17 := f17 (hdep.get 17 rfl)
          subst e17
          have e18 := f18 (hdep.get 18 rfl)
          subst e18
          go_wp2_with fail
          exact ⟨⟨u27, u28, u29, u30, u31, u32, u33, u34, u35, u36, u37, u38, u39, u40, u41, u42, u43, u44, (.slice (some ⟨hC, 0, none⟩) n eC), (.int .i64 (i : Int)), (.pointer (some ⟨hC, i, none⟩)), u48, u49, u50, u51, u52, u53, u54, u55, rfl, (Gd.keep (i := 19) f0 (by decide)), (Gd.keep (i := 19) f1 (by decide)), (Gd.keep (i := 19) f2 (by decide)), (Gd.keep (i := 19) f3 (by decide)), (Gd.keep (i := 19) f4 (by decide)), (Gd.keep (i := 19) f5 (by decide)), (Gd.keep (i := 19) f6 (by decide)), (Gd.keep (i := 19) f7 (by decide)), (Gd.keep (i := 19) f8 (by decide)), (Gd.keep (i := 19) f9 (by decide)), (Gd.keep (i := 19) f10 (by decide)), (Gd.keep (i := 19) f11 (by decide)), (Gd.keep (i := 19) f12 (by decide)), (Gd.keep (i := 19) f13 (by decide)), (Gd.keep (i := 19) f14 (by decide)), (Gd.keep (i := 19) f15 (by decide)), (Gd.keep (i := 19) f16 (by decide)), Gd.new rfl, Gd.new rfl, Gd.new (by first | rfl | simp), (Gd.keep (i := 19) f20 (by decide)), (Gd.keep (i := 19) f21 (by decide)), (Gd.keep (i := 19) f22 (by decide)), (Gd.keep (i := 19) f23 (by decide)), (Gd.keep (i := 19) f24 (by decide)), (Gd.keep (i := 19) f25 (by decide)), (Gd.keep (i := 19) f26 (by decide)), (Gd.keep (i := 19) f28 (by decide)), (Gd.keep (i := 19) f30 (by decide)), (Ng.keep (i := 19) a27 (by decide)), (Gd.keep (i := 19) b27 (by decide)), (Ng.keep (i := 19) a29 (by decide)), (Gd.keep (i := 19) b29 (by decide)), (Ng.keep (i := 19) a31 (by decide)), (Gd.keep (i := 19) b31 (by decide)), r0, r2, rC, rO, bp, hlo, hbel⟩⟩
        refine .cons 21 rfl ?_ ?_
        · intro d a w9 hsz hcl hinv hd hdep
          obtain ⟨⟨u27, u28, u29, u30, u31, u32, u33, u34, u35, u36, u37, u38, u39, u40, u41, u42, u43, u44, u45, u46, u47, u48, u49, u50, u51, u52, u53, u54, u55, rfl, f0, f1, f2, f3, f4, f5, f6, f7, f8, f9, f10, f11, f12, f13, f14, f15, f16, f17, f18, f19, f20, f21, f22, f23, f24, f25, f26, f28, f30, a27, b27, a29, b29, a31, b31, r0, r2, rC, rO, bp, hlo, hbel⟩⟩ := hinv
          have e19 := f19 (hdep.get 19 rfl)
          subst e19
          have cc := rC.cellAt (i) (by omega)
          rw [ic_at (by rw [Hln.out.2.1]; omega), Nc.out] at cc
          go_wp2_with fail
          exact ⟨⟨u27, u28, u29, u30, u31, u32, u33, u34, u35, u36, u37, u38, u39, u40, u41, u42, u43, u44, u45, u46, (.pointer (some ⟨hC, i, none⟩)), (.int .i64 c), u49, u50, u51, u52, u53, u54, u55, rfl, (Gd.keep (i := 20) f0 (by decide)), (Gd.keep (i := 20) f1 (by decide)), (Gd.keep (i := 20) f2 (by decide)), (Gd.keep (i := 20) f3 (by decide)), (Gd.keep (i := 20) f4 (by decide)), (Gd.keep (i := 20) f5 (by decide)), (Gd.keep (i := 20) f6 (by decide)), (Gd.keep (i := 20) f7 (by decide)), (Gd.keep (i := 20) f8 (by decide)), (Gd.keep (i := 20) f9 (by decide)), (Gd.keep (i := 20) f10 (by decide)), (Gd.keep (i := 20) f11 (by decide)), (Gd.keep (i := 20) f12 (by decide)), (Gd.keep (i := 20) f13 (by decide)), (Gd.keep (i := 20) f14 (by decide)), (Gd.keep (i := 20) f15 (by decide)), (Gd.keep (i := 20) f16 (by decide)), (Gd.keep (i := 20) f17 (by decide)), (Gd.keep (i := 20) f18 (by decide)), Gd.new rfl, Gd.new (by first | rfl | simp), (Gd.keep (i := 20) f21 (by decide)), (Gd.keep (i := 20) f22 (by decide)), (Gd.keep (i := 20) f23 (by decide)), (Gd.keep (i := 20) f24 (by decide)), (Gd.keep (i := 20) f25 (by decide)), (Gd.keep (i := 20) f26 (by decide)), (Gd.keep (i := 20) f28 (by decide)), (Gd.keep (i := 20) f30 (by decide)), (Ng.keep (i := 20) a27 (by decide)), (Gd.keep (i := 20) b27 (by decide)), (Ng.keep (i := 20) a29 (by decide)), (Gd.keep (i := 20) b29 (by decide)), (Ng.keep (i := 20) a31 (by decide)), (Gd.keep (i := 20) b31 (by decide)), r0, r2, rC, rO, bp, hlo, hbel⟩⟩
        refine .cons 22 rfl ?_ ?_
        · intro d a w9 hsz hcl hinv hd hdep
          obtain ⟨⟨u27, u28, u29, u30, u31, u32, u33, u34, u35, u36, u37, u38, u39, u40, u41, u42, u43, u44, u45, u46, u47, u48, u49, u50, u51, u52, u53, u54, u55, rfl, f0, f1, f2, f3, f4, f5, f6, f7, f8, f9, f10, f11, f12, f13, f14, f15, f16, f17, f18, f19, f20, f21, f22, f23, f24, f25, f26, f28, f30, a27, b27, a29, b29, a31, b31, r0, r2, rC, rO, bp, hlo, hbel⟩⟩ := hinv
          have e11 := f11 (hdep.get 11 rfl)
          subst e11
          have e16 := f16 (hdep.get 16 rfl)
          subst e16
          have e20 := f20 (hdep.get 20 rfl)
          subst e20
          go_wp2_with fail
          refine (HPas.out _).mono ?_
          rintro e w8 ⟨rfl, hb⟩
          go_wp2_with fail
          exact ⟨⟨u27, u28, u29, u30, u31, u32, u33, u34, u35, u36, u37, u38, (.agg #[.int .i64 s, .int .i64 dd, .int .i64 l, .int .i64 q]), u40, u41, u42, u43, (.int .i64 v), u45, u46, u47, (.int .i64 c), (.tuple #[.agg #[.int .i64 s, .int .i64 dd, .int .i64 l, .int .i64 nn], .int .i64 gg, .int .i64 lv]), u50, u51, u52, u53, u54, u55, rfl, (Gd.keep (i := 21) f0 (by decide)), (Gd.keep (i := 21) f1 (by decide)), (Gd.keep (i := 21) f2 (by decide)), (Gd.keep (i := 21) f3 (by decide)), (Gd.keep (i := 21) f4 (by decide)), (Gd.keep (i := 21) f5 (by decide)), (Gd.keep (i := 21) f6 (by decide)), (Gd.keep (i := 21) f7 (by decide)), (Gd.keep (i := 21) f8 (by decide)), (Gd.keep (i := 21) f9 (by decide)), (Gd.keep (i := 21) f10 (by decide)), Gd.new rfl, (Gd.keep (i := 21) f12 (by decide)), (Gd.keep (i := 21) f13 (by decide)), (Gd.keep (i := 21) f14 (by decide)), (Gd.keep (i := 21) f15 (by decide)), Gd.new rfl, (Gd.keep (i := 21) f17 (by decide)), (Gd.keep (i := 21) f18 (by decide)), (Gd.keep (i := 21) f19 (by decide)), Gd.new rfl, Gd.new (by first | rfl | simp), (Gd.keep (i := 21) f22 (by decide)), (Gd.keep (i := 21) f23 (by decide)), (Gd.keep (i := 21) f24 (by decide)), (Gd.keep (i := 21) f25 (by decide)), (Gd.keep (i := 21) f26 (by decide)), (Gd.keep (i := 21) f28 (by decide)), (Gd.keep (i := 21) f30 (by decide)), (Ng.keep (i := 21) (fun h8 => owns_below (a27 h8) hb (Nat.le_refl _)) (by decide)), (Gd.keep (i := 21) (fun h9 => owns_below (b27 h9) hb (Nat.le_refl _)) (by decide)), (Ng.keep (i := 21) (fun h8 => owns_below (a29 h8) hb (Nat.le_refl _)) (by decide)), (Gd.keep (i := 21) (fun h9 => owns_below (b29 h9) hb (Nat.le_refl _)) (by decide)), (Ng.keep (i := 21) (fun h8 => owns_below (a31 h8) hb (Nat.le_refl _)) (by decide)), (Gd.keep (i := 21) (fun h9 => owns_below (b31 h9) hb (Nat.le_refl _)) (by decide)), (owns_below r0 hb (Nat.le_refl _)), (owns_below r2 hb (Nat.le_refl _)), (owns_below rC hb (Nat.le_refl _)), (owns_below rO hb (Nat.le_refl _)), (bp.below hb bp.1.1), (Nat.le_trans hlo hb.size), (hbel.step hb hlo)⟩⟩
        refine .cons 23 rfl ?_ ?_
        · intro d a w9 hsz hcl hinv hd hdep
          obtain ⟨⟨u27, u28, u29, u30, u31, u32, u33, u34, u35, u36, u37, u38, u39, u40, u41, u42, u43, u44, u45, u46, u47, u48, u49, u50, u51, u52, u53, u54, u55, rfl, f0, f1, f2, f3, f4, f5, f6, f7, f8, f9, f10, f11, f12, f13, f14, f15, f16, f17, f18, f19, f20, f21, f22, f23, f24, f25, f26, f28, f30, a27, b27, a29, b29, a31, b31, r0, r2, rC, rO, bp, hlo, hbel⟩⟩ := hinv
          have e21 := f21 (hdep.get 21 rfl)
          subst e21
          go_wp2_with fail
          exact ⟨⟨(.tuple #[.agg #[.int .i64 s, .int .i64 dd, .int .i64 l, .int .i64 nn], .int .i64 gg, .int .i64 lv]), u28, u29, u30, u31, u32, u33, u34, u35, u36, u37, u38, u39, u40, u41, u42, u43, u44, u45, u46, u47, u48, (.tuple #[.agg #[.int .i64 s, .int .i64 dd, .int .i64 l, .int .i64 nn], .int .i64 gg, .int .i64 lv]), u50, u51, u52, u53, u54, u55, rfl, (Gd.keep (i := 22) f0 (by decide)), (Gd.keep (i := 22) f1 (by decide)), (Gd.keep (i := 22) f2 (by decide)), (Gd.keep (i := 22) f3 (by decide)), (Gd.keep (i := 22) f4 (by decide)), (Gd.keep (i := 22) f5 (by decide)), (Gd.keep (i := 22) f6 (by decide)), (Gd.keep (i := 22) f7 (by decide)), (Gd.keep (i := 22) f8 (by decide)), (Gd.keep (i := 22) f9 (by decide)), (Gd.keep (i := 22) f10 (by decide)), (Gd.keep (i := 22) f11 (by decide)), (Gd.keep (i := 22) f12 (by decide)), (Gd.keep (i := 22) f13 (by decide)), (Gd.keep (i := 22) f14 (by decide)), (Gd.keep (i := 22) f15 (by decide)), (Gd.keep (i := 22) f16 (by decide)), (Gd.keep (i := 22) f17 (by decide)), (Gd.keep (i := 22) f18 (by decide)), (Gd.keep (i := 22) f19 (by decide)), (Gd.keep (i := 22) f20 (by decide)), Gd.new rfl, Gd.new (by first | rfl | simp), (Gd.keep (i := 22) f23 (by decide)), (Gd.keep (i := 22) f24 (by decide)), (Gd.keep (i := 22) f25 (by decide)), (Gd.keep (i := 22) f26 (by decide)), (Gd.keep (i := 22) f28 (by decide)), (Gd.keep (i := 22) f30 (by decide)), (Ng.keep (i := 22) a27 (by decide)), (Gd.keep (i := 22) b27 (by decide)), (Ng.keep (i := 22) a29 (by decide)), (Gd.keep (i := 22) b29 (by decide)), (Ng.keep (i := 22) a31 (by decide)), (Gd.keep (i := 22) b31 (by decide)), r0, r2, rC, rO, bp, hlo, hbel⟩⟩
        refine .cons 24 rfl ?_ ?_
        · intro d a w9 hsz hcl hinv hd hdep
          obtain ⟨⟨u27, u28, u29, u30, u31, u32, u33, u34, u35, u36, u37, u38, u39, u40, u41, u42, u43, u44, u45, u46, u47, u48, u49, u50, u51, u52, u53, u54, u55, rfl, f0, f1, f2, f3, f4, f5, f6, f7, f8, f9, f10, f11, f12, f13, f14, f15, f16, f17, f18, f19, f20, f21, f22, f23, f24, f25, f26, f28, f30, a27, b27, a29, b29, a31, b31, r0, r2, rC, rO, bp, hlo, hbel⟩⟩ := hinv
          have e22 := f22 (hdep.get 22 rfl)
          subst e22
          go_wp2_with fail
          exact ⟨⟨(.tuple #[.agg #[.int .i64 s, .int .i64 dd, .int .i64 l, .int .i64 nn], .int .i64 gg, .int .i64 lv]), u28, u29, u30, u31, u32, u33, u34, u35, u36, u37, u38, u39, u40, u41, u42, u43, u44, u45, u46, u47, u48, u49, (.agg #[.int .i64 s, .int .i64 dd, .int .i64 l, .int .i64 nn]), u51, u52, u53, u54, u55, rfl, (Gd.keep (i := 23) f0 (by decide)), (Gd.keep (i := 23) f1 (by decide)), (Gd.keep (i := 23) f2 (by decide)), (Gd.keep (i := 23) f3 (by decide)), (Gd.keep (i := 23) f4 (by decide)), (Gd.keep (i := 23) f5 (by decide)), (Gd.keep (i := 23) f6 (by decide)), (Gd.keep (i := 23) f7 (by decide)), (Gd.keep (i := 23) f8 (by decide)), (Gd.keep (i := 23) f9 (by decide)), (Gd.keep (i := 23) f10 (by decide)), (Gd.keep (i := 23) f11 (by decide)), (Gd.keep (i := 23) f12 (by decide)), (Gd.keep (i := 23) f13 (by decide)), (Gd.keep (i := 23) f14 (by decide)), (Gd.keep (i := 23) f15 (by decide)), (Gd.keep (i := 23) f16 (by decide)), (Gd.keep (i := 23) f17 (by decide)), (Gd.keep (i := 23) f18 (by decide)), (Gd.keep (i := 23) f19 (by decide)), (Gd.keep (i := 23) f20 (by decide)), (Gd.keep (i := 23) f21 (by decide)), Gd.new rfl, Gd.new (by first | rfl | simp), (Gd.keep (i := 23) f24 (by decide)), (Gd.keep (i := 23) f25 (by decide)), (Gd.keep (i := 23) f26 (by decide)), (Gd.keep (i := 23) f28 (by decide)), (Gd.keep (i := 23) f30 (by decide)), (Ng.keep (i := 23) a27 (by decide)), (Gd.keep (i := 23) b27 (by decide)), (Ng.keep (i := 23) a29 (by decide)), (Gd.keep (i := 23) b29 (by decide)), (Ng.keep (i := 23) a31 (by decide)), (Gd.keep (i := 23) b31 (by decide)), r0, r2, rC, rO, bp, hlo, hbel⟩⟩
        refine .cons 25 rfl ?_ ?_
        · intro d a w9 hsz hcl hinv hd hdep
          obtain ⟨⟨u27, u28, u29, u30, u31, u32, u33, u34, u35, u36, u37, u38, u39, u40, u41, u42, u43, u44, u45, u46, u47, u48, u49, u50, u51, u52, u53, u54, u55, rfl, f0, f1, f2, f3, f4, f5, f6, f7, f8, f9, f10, f11, f12, f13, f14, f15, f16, f17, f18, f19, f20, f21, f22, f23, f24, f25, f26, f28, f30, a27, b27, a29, b29, a31, b31, r0, r2, rC, rO, bp, hlo, hbel⟩⟩ := hinv
          have e22 := f22 (hdep.get 22 rfl)
          subst e22
          go_wp2_with fail
          exact ⟨⟨(.tuple #[.agg #[.int .i64 s, .int .i64 dd, .int .i64 l, .int .i64 nn], .int .i64 gg, .int .i64 lv]), u28, u29, u30, u31, u32, u33, u34, u35, u36, u37, u38, u39, u40, u41, u42, u43, u44, u45, u46, u47, u48, u49, u50, (.int .i64 gg), u52, u53, u54, u55, rfl, (Gd.keep (i := 24) f0 (by decide)), (Gd.keep (i := 24) f1 (by decide)), (Gd.keep (i := 24) f2 (by decide)), (Gd.keep (i := 24) f3 (by decide)), (Gd.keep (i := 24) f4 (by decide)), (Gd.keep (i := 24) f5 (by decide)), (Gd.keep (i := 24) f6 (by decide)), (Gd.keep (i := 24) f7 (by decide)), (Gd.keep (i := 24) f8 (by decide)), (Gd.keep (i := 24) f9 (by decide)), (Gd.keep (i := 24) f10 (by decide)), (Gd.keep (i := 24) f11 (by decide)), (Gd.keep (i := 24) f12 (by decide)), (Gd.keep (i := 24) f13 (by decide)), (Gd.keep (i := 24) f14 (by decide)), (Gd.keep (i := 24) f15 (by decide)), (Gd.keep (i := 24) f16 (by decide)), (Gd.keep (i := 24) f17 (by decide)), (Gd.keep (i := 24) f18 (by decide)), (Gd.keep (i := 24) f19 (by decide)), (Gd.keep (i := 24) f20 (by decide)), (Gd.keep (i := 24) f21 (by decide)), Gd.new rfl, (Gd.keep (i := 24) f23 (by decide)), Gd.new (by first | rfl | simp), (Gd.keep (i := 24) f25 (by decide)), (Gd.keep (i := 24) f26 (by decide)), (Gd.keep (i := 24) f28 (by decide)), (Gd.keep (i := 24) f30 (by decide)), (Ng.keep (i := 24) a27 (by decide)), (Gd.keep (i := 24) b27 (by decide)), (Ng.keep (i := 24) a29 (by decide)), (Gd.keep (i := 24) b29 (by decide)), (Ng.keep (i := 24) a31 (by decide)), (Gd.keep (i := 24) b31 (by decide)), r0, r2, rC, rO, bp, hlo, hbel⟩⟩
        refine .cons 26 rfl ?_ ?_
        · intro d a w9 hsz hcl hinv hd hdep
          obtain ⟨⟨u27, u28, u29, u30, u31, u32, u33, u34, u35, u36, u37, u38, u39, u40, u41, u42, u43, u44, u45, u46, u47, u48, u49, u50, u51, u52, u53, u54, u55, rfl, f0, f1, f2, f3, f4, f5, f6, f7, f8, f9, f10, f11, f12, f13, f14, f15, f16, f17, f18, f19, f20, f21, f22, f23, f24, f25, f26, f28, f30, a27, b27, a29, b29, a31, b31, r0, r2, rC, rO, bp, hlo, hbel⟩⟩ := hinv
          have e22 := f22 (hdep.get 22 rfl)
          subst e22
          go_wp2_with fail
          exact ⟨⟨(.tuple #[.agg #[.int .i64 s, .int .i64 dd, .int .i64 l, .int .i64 nn], .int .i64 gg, .int .i64 lv]), u28, u29, u30, u31, u32, u33, u34, u35, u36, u37, u38, u39, u40, u41, u42, u43, u44, u45, u46, u47, u48, u49, u50, u51, (.int .i64 lv), u53, u54, u55, rfl, (Gd.keep (i := 25) f0 (by decide)), (Gd.keep (i := 25) f1 (by decide)), (Gd.keep (i := 25) f2 (by decide)), (Gd.keep (i := 25) f3 (by decide)), (Gd.keep (i := 25) f4 (by decide)), (Gd.keep (i := 25) f5 (by decide)), (Gd.keep (i := 25) f6 (by decide)), (Gd.keep (i := 25) f7 (by decide)), (Gd.keep (i := 25) f8 (by decide)), (Gd.keep (i := 25) f9 (by decide)), (Gd.keep (i := 25) f10 (by decide)), (Gd.keep (i := 25) f11 (by decide)), (Gd.keep (i := 25) f12 (by decide)), (Gd.keep (i := 25) f13 (by decide)), (Gd.keep (i := 25) f14 (by decide)), (Gd.keep (i := 25) f15 (by decide)), (Gd.keep (i := 25) f16 (by decide)), (Gd.keep (i := 25) f17 (by decide)), (Gd.keep (i := 25) f18 (by decide)), (Gd.keep (i := 25) f19 (by decide)), (Gd.keep (i := 25) f20 (by decide)), (Gd.keep (i := 25) f21 (by decide)), Gd.new rfl, (Gd.keep (i := 25) f23 (by decide)), (Gd.keep (i := 25) f24 (by decide)), Gd.new (by first | rfl | simp), (Gd.keep (i := 25) f26 (by decide)), (Gd.keep (i := 25) f28 (by decide)), (Gd.keep (i := 25) f30 (by decide)), (Ng.keep (i := 25) a27 (by decide)), (Gd.keep (i := 25) b27 (by decide)), (Ng.keep (i := 25) a29 (by decide)), (Gd.keep (i := 25) b29 (by decide)), (Ng.keep (i := 25) a31 (by decide)), (Gd.keep (i := 25) b31 (by decide)), r0, r2, rC, rO, bp, hlo, hbel⟩⟩
        refine .cons 27 rfl ?_ ?_
        · intro d a w9 hsz hcl hinv hd hdep
          obtain ⟨⟨u27, u28, u29, u30, u31, u32, u33, u34, u35, u36, u37, u38, u39, u40, u41, u42, u43, u44, u45, u46, u47, u48, u49, u50, u51, u52, u53, u54, u55, rfl, f0, f1, f2, f3, f4, f5, f6, f7, f8, f9, f10, f11, f12, f13, f14, f15, f16, f17, f18, f19, f20, f21, f22, f23, f24, f25, f26, f28, f30, a27, b27, a29, b29, a31, b31, r0, r2, rC, rO, bp, hlo, hbel⟩⟩ := hinv
          have e1 := f1 (hdep.get 1 rfl)
          subst e1
          have e2 := f2 (hdep.get 2 rfl)
          subst e2
          go_wp2_with fail
          exact ⟨⟨u27, u28, (.slice (some ⟨g1, 0, none⟩) n d1), (.int .i64 (i : Int)), u31, u32, u33, u34, u35, u36, u37, u38, u39, u40, u41, u42, u43, u44, u45, u46, u47, u48, u49, u50, u51, u52, (.pointer (some ⟨g1, i * 4, none⟩)), u54, u55, rfl, (Gd.keep (i := 26) f0 (by decide)), Gd.new rfl, Gd.new rfl, (Gd.keep (i := 26) f3 (by decide)), (Gd.keep (i := 26) f4 (by decide)), (Gd.keep (i := 26) f5 (by decide)), (Gd.keep (i := 26) f6 (by decide)), (Gd.keep (i := 26) f7 (by decide)), (Gd.keep (i := 26) f8 (by decide)), (Gd.keep (i := 26) f9 (by decide)), (Gd.keep (i := 26) f10 (by decide)), (Gd.keep (i := 26) f11 (by decide)), (Gd.keep (i := 26) f12 (by decide)), (Gd.keep (i := 26) f13 (by decide)), (Gd.keep (i := 26) f14 (by decide)), (Gd.keep (i := 26) f15 (by decide)), (Gd.keep (i := 26) f16 (by decide)), (Gd.keep (i := 26) f17 (by decide)), (Gd.keep (i := 26) f18 (by decide)), (Gd.keep (i := 26) f19 (by decide)), (Gd.keep (i := 26) f20 (by decide)), (Gd.keep (i := 26) f21 (by decide)), (Gd.keep (i := 26) f22 (by decide)), (Gd.keep (i := 26) f23 (by decide)), (Gd.keep (i := 26) f24 (by decide)), (Gd.keep (i := 26) f25 (by decide)), Gd.new (by first | rfl | simp), (Gd.keep (i := 26) f28 (by decide)), (Gd.keep (i := 26) f30 (by decide)), (Ng.keep (i := 26) a27 (by decide)), (Gd.keep (i := 26) b27 (by decide)), (Ng.keep (i := 26) a29 (by decide)), (Gd.keep (i := 26) b29 (by decide)), (Ng.keep (i := 26) a31 (by decide)), (Gd.keep (i := 26) b31 (by decide)), r0, r2, rC, rO, bp, hlo, hbel⟩⟩
        refine .cons 28 rfl ?_ ?_
        · intro d a w9 hsz hcl hinv hd hdep
          obtain ⟨⟨u27, u28, u29, u30, u31, u32, u33, u34, u35, u36, u37, u38, u39, u40, u41, u42, u43, u44, u45, u46, u47, u48, u49, u50, u51, u52, u53, u54, u55, rfl, f0, f1, f2, f3, f4, f5, f6, f7, f8, f9, f10, f11, f12, f13, f14, f15, f16, f17, f18, f19, f20, f21, f22, f23, f24, f25, f26, f28, f30, a27, b27, a29, b29, a31, b31, r0, r2, rC, rO, bp, hlo, hbel⟩⟩ := hinv
          have e26 := f26 (hdep.get 26 rfl)
          subst e26
          have e23 := f23 (hdep.get 23 rfl)
          subst e23
          have hr := a27 hd
          have cs := hr.cellAt (i * 4) (by omega)
          rw [ic_at (by rw [Hln.out.1]; omega), Ns.out] at cs
          have cd := hr.cellAt (i * 4 + 1) (by omega)
          rw [ic_at (by rw [Hln.out.1]; omega), Nd.out] at cd
          have cl := hr.cellAt (i * 4 + 2) (by omega)
          rw [ic_at (by rw [Hln.out.1]; omega), Nl.out] at cl
          have cq := hr.cellAt (i * 4 + 3) (by omega)
          rw [ic_at (by rw [Hln.out.1]; omega), Nq.out] at cq
          have z0 := hr.frozenAt (i * 4)
          have z1 := hr.frozenAt (i * 4 + 1)
          have z2 := hr.frozenAt (i * 4 + 2)
          have z3 := hr.frozenAt (i * 4 + 3)
          have h4 := stored4 (k := i) hr (.int .i64 s) (.int .i64 dd) (.int .i64 l) (.int .i64 nn)
          rw [← ic_set, ← ic_set, ← ic_set, ← ic_set, HS0.out, HS1.out, HS2.out] at h4
          go_wp2_with fail
          exact ⟨⟨u27, u28, u29, u30, u31, u32, u33, u34, u35, u36, u37, u38, u39, u40, u41, u42, u43, u44, u45, u46, u47, u48, u49, (.agg #[.int .i64 s, .int .i64 dd, .int .i64 l, .int .i64 nn]), u51, u52, (.pointer (some ⟨g1, i * 4, none⟩)), u54, u55, rfl, (Gd.keep (i := 27) f0 (by decide)), (Gd.keep (i := 27) f1 (by decide)), (Gd.keep (i := 27) f2 (by decide)), (Gd.keep (i := 27) f3 (by decide)), (Gd.keep (i := 27) f4 (by decide)), (Gd.keep (i := 27) f5 (by decide)), (Gd.keep (i := 27) f6 (by decide)), (Gd.keep (i := 27) f7 (by decide)), (Gd.keep (i := 27) f8 (by decide)), (Gd.keep (i := 27) f9 (by decide)), (Gd.keep (i := 27) f10 (by decide)), (Gd.keep (i := 27) f11 (by decide)), (Gd.keep (i := 27) f12 (by decide)), (Gd.keep (i := 27) f13 (by decide)), (Gd.keep (i := 27) f14 (by decide)), (Gd.keep (i := 27) f15 (by decide)), (Gd.keep (i := 27) f16 (by decide)), (Gd.keep (i := 27) f17 (by decide)), (Gd.keep (i := 27) f18 (by decide)), (Gd.keep (i := 27) f19 (by decide)), (Gd.keep (i := 27) f20 (by decide)), (Gd.keep (i := 27) f21 (by decide)), (Gd.keep (i := 27) f22 (by decide)), Gd.new rfl, (Gd.keep (i := 27) f24 (by decide)), (Gd.keep (i := 27) f25 (by decide)), Gd.new rfl, (Gd.keep (i := 27) f28 (by decide)), (Gd.keep (i := 27) f30 (by decide)), (Ng.new (by rw [hsz]; exact (by decide : 27 < 32))), (Gd.new h4), (Ng.keep (i := 27) (fun h8 => (owns_far (owns_far (owns_far (owns_far (a29 h8) (by have g9 := HG9.out; have n9 := HN9.out; have hh := HH.out; simp [Value.ownBlock]; omega) _) (by have g9 := HG9.out; have n9 := HN9.out; have hh := HH.out; simp [Value.ownBlock]; omega) _) (by have g9 := HG9.out; have n9 := HN9.out; have hh := HH.out; simp [Value.ownBlock]; omega) _) (by have g9 := HG9.out; have n9 := HN9.out; have hh := HH.out; simp [Value.ownBlock]; omega) _)) (by decide)), (Gd.keep (i := 27) (fun h9 => (owns_far (owns_far (owns_far (owns_far (b29 h9) (by have g9 := HG9.out; have n9 := HN9.out; have hh := HH.out; simp [Value.ownBlock]; omega) _) (by have g9 := HG9.out; have n9 := HN9.out; have hh := HH.out; simp [Value.ownBlock]; omega) _) (by have g9 := HG9.out; have n9 := HN9.out; have hh := HH.out; simp [Value.ownBlock]; omega) _) (by have g9 := HG9.out; have n9 := HN9.out; have hh := HH.out; simp [Value.ownBlock]; omega) _)) (by decide)), (Ng.keep (i := 27) (fun h8 => (owns_far (owns_far (owns_far (owns_far (a31 h8) (by have g9 := HG9.out; have n9 := HN9.out; have hh := HH.out; simp [Value.ownBlock]; omega) _) (by have g9 := HG9.out; have n9 := HN9.out; have hh := HH.out; simp [Value.ownBlock]; omega) _) (by have g9 := HG9.out; have n9 := HN9.out; have hh := HH.out; simp [Value.ownBlock]; omega) _) (by have g9 := HG9.out; have n9 := HN9.out; have hh := HH.out; simp [Value.ownBlock]; omega) _)) (by decide)), (Gd.keep (i := 27) (fun h9 => (owns_far (owns_far (owns_far (owns_far (b31 h9) (by have g9 := HG9.out; have n9 := HN9.out; have hh := HH.out; simp [Value.ownBlock]; omega) _) (by have g9 := HG9.out; have n9 := HN9.out; have hh := HH.out; simp [Value.ownBlock]; omega) _) (by have g9 := HG9.out; have n9 := HN9.out; have hh := HH.out; simp [Value.ownBlock]; omega) _) (by have g9 := HG9.out; have n9 := HN9.out; have hh := HH.out; simp [Value.ownBlock]; omega) _)) (by decide)), (owns_far (owns_far (owns_far (owns_far r0 (by have g9 := HG9.out; have n9 := HN9.out; have hh := HH.out; simp [Value.ownBlock]; omega) _) (by have g9 := HG9.out; have n9 := HN9.out; have hh := HH.out; simp [Value.ownBlock]; omega) _) (by have g9 := HG9.out; have n9 := HN9.out; have hh := HH.out; simp [Value.ownBlock]; omega) _) (by have g9 := HG9.out; have n9 := HN9.out; have hh := HH.out; simp [Value.ownBlock]; omega) _), (owns_far (owns_far (owns_far (owns_far r2 (by have g9 := HG9.out; have n9 := HN9.out; have hh := HH.out; simp [Value.ownBlock]; omega) _) (by have g9 := HG9.out; have n9 := HN9.out; have hh := HH.out; simp [Value.ownBlock]; omega) _) (by have g9 := HG9.out; have n9 := HN9.out; have hh := HH.out; simp [Value.ownBlock]; omega) _) (by have g9 := HG9.out; have n9 := HN9.out; have hh := HH.out; simp [Value.ownBlock]; omega) _), (owns_far (owns_far (owns_far (owns_far rC (by have g9 := HG9.out; have n9 := HN9.out; have hh := HH.out; simp [Value.ownBlock]; omega) _) (by have g9 := HG9.out; have n9 := HN9.out; have hh := HH.out; simp [Value.ownBlock]; omega) _) (by have g9 := HG9.out; have n9 := HN9.out; have hh := HH.out; simp [Value.ownBlock]; omega) _) (by have g9 := HG9.out; have n9 := HN9.out; have hh := HH.out; simp [Value.ownBlock]; omega) _), (owns_far (owns_far (owns_far (owns_far rO (by have g9 := HG9.out; have n9 := HN9.out; have hh := HH.out; simp [Value.ownBlock]; omega) _) (by have g9 := HG9.out; have n9 := HN9.out; have hh := HH.out; simp [Value.ownBlock]; omega) _) (by have g9 := HG9.out; have n9 := HN9.out; have hh := HH.out; simp [Value.ownBlock]; omega) _) (by have g9 := HG9.out; have n9 := HN9.out; have hh := HH.out; simp [Value.ownBlock]; omega) _), ((((bp.setOther (by have g9 := HG9.out; have n9 := HN9.out; have hh := HH.out; show g1 ≠ p; omega) _).setOther (by have g9 := HG9.out; have n9 := HN9.out; have hh := HH.out; show g1 ≠ p; omega) _).setOther (by have g9 := HG9.out; have n9 := HN9.out; have hh := HH.out; show g1 ≠ p; omega) _).setOther (by have g9 := HG9.out; have n9 := HN9.out; have hh := HH.out; show g1 ≠ p; omega) _), (by simp; exact hlo), ((((hbel.setCell (p := ⟨g1, i * 4, none⟩) (by have g9 := HG9.out; have n9 := HN9.out; have hh := HH.out; show lo ≤ g1; omega) (by have g9 := HG9.out; have n9 := HN9.out; have hh := HH.out; have pp9 := Hp.out; show g1 = g1 ∨ w.heap.size ≤ g1; omega) _).setCell (p := ⟨g1, i * 4 + 1, none⟩) (by have g9 := HG9.out; have n9 := HN9.out; have hh := HH.out; show lo ≤ g1; omega) (by have g9 := HG9.out; have n9 := HN9.out; have hh := HH.out; have pp9 := Hp.out; show g1 = g1 ∨ w.heap.size ≤ g1; omega) _).setCell (p := ⟨g1, i * 4 + 2, none⟩) (by have g9 := HG9.out; have n9 := HN9.out; have hh := HH.out; show lo ≤ g1; omega) (by have g9 := HG9.out; have n9 := HN9.out; have hh := HH.out; have pp9 := Hp.out; show g1 = g1 ∨ w.heap.size ≤ g1; omega) _).setCell (p := ⟨g1, i * 4 + 3, none⟩) (by have g9 := HG9.out; have n9 := HN9.out; have hh := HH.out; show lo ≤ g1; omega) (by have g9 := HG9.out; have n9 := HN9.out; have hh := HH.out; have pp9 := Hp.out; show g1 = g1 ∨ w.heap.size ≤ g1; omega) _)⟩⟩
        refine .cons 29 rfl ?_ ?_
        · intro d a w9 hsz hcl hinv hd hdep
          obtain ⟨⟨u27, u28, u29, u30, u31, u32, u33, u34, u35, u36, u37, u38, u39, u40, u41, u42, u43, u44, u45, u46, u47, u48, u49, u50, u51, u52, u53, u54, u55, rfl, f0, f1, f2, f3, f4, f5, f6, f7, f8, f9, f10, f11, f12, f13, f14, f15, f16, f17, f18, f19, f20, f21, f22, f23, f24, f25, f26, f28, f30, a27, b27, a29, b29, a31, b31, r0, r2, rC, rO, bp, hlo, hbel⟩⟩ := hinv
          have e3 := f3 (hdep.get 3 rfl)
          subst e3
          have e4 := f4 (hdep.get 4 rfl)
          subst e4
          go_wp2_with fail
          exact ⟨⟨u27, u28, u29, u30, (.slice (some ⟨hG, 0, none⟩) n n), (.int .i64 (i : Int)), u33, u34, u35, u36, u37, u38, u39, u40, u41, u42, u43, u44, u45, u46, u47, u48, u49, u50, u51, u52, u53, (.pointer (some ⟨hG, i, none⟩)), u55, rfl, (Gd.keep (i := 28) f0 (by decide)), (Gd.keep (i := 28) f1 (by decide)), (Gd.keep (i := 28) f2 (by decide)), Gd.new rfl, Gd.new rfl, (Gd.keep (i := 28) f5 (by decide)), (Gd.keep (i := 28) f6 (by decide)), (Gd.keep (i := 28) f7 (by decide)), (Gd.keep (i := 28) f8 (by decide)), (Gd.keep (i := 28) f9 (by decide)), (Gd.keep (i := 28) f10 (by decide)), (Gd.keep (i := 28) f11 (by decide)), (Gd.keep (i := 28) f12 (by decide)), (Gd.keep (i := 28) f13 (by decide)), (Gd.keep (i := 28) f14 (by decide)), (Gd.keep (i := 28) f15 (by decide)), (Gd.keep (i := 28) f16 (by decide)), (Gd.keep (i := 28) f17 (by decide)), (Gd.keep (i := 28) f18 (by decide)), (Gd.keep (i := 28) f19 (by decide)), (Gd.keep (i := 28) f20 (by decide)), (Gd.keep (i := 28) f21 (by decide)), (Gd.keep (i := 28) f22 (by decide)), (Gd.keep (i := 28) f23 (by decide)), (Gd.keep (i := 28) f24 (by decide)), (Gd.keep (i := 28) f25 (by decide)), (Gd.keep (i := 28) f26 (by decide)), Gd.new (by first | rfl | simp), (Gd.keep (i := 28) f30 (by decide)), (Ng.keep (i := 28) a27 (by decide)), (Gd.keep (i := 28) b27 (by decide)), (Ng.keep (i := 28) a29 (by decide)), (Gd.keep (i := 28) b29 (by decide)), (Ng.keep (i := 28) a31 (by decide)), (Gd.keep (i := 28) b31 (by decide)), r0, r2, rC, rO, bp, hlo, hbel⟩⟩
        refine .cons 30 rfl ?_ ?_
        · intro d a w9 hsz hcl hinv hd hdep
          obtain ⟨⟨u27, u28, u29, u30, u31, u32, u33, u34, u35, u36, u37, u38, u39, u40, u41, u42, u43, u44, u45, u46, u47, u48, u49, u50, u51, u52, u53, u54, u55, rfl, f0, f1, f2, f3, f4, f5, f6, f7, f8, f9, f10, f11, f12, f13, f14, f15, f16, f17, f18, f19, f20, f21, f22, f23, f24, f25, f26, f28, f30, a27, b27, a29, b29, a31, b31, r0, r2, rC, rO, bp, hlo, hbel⟩⟩ := hinv
          have e28 := f28 (hdep.get 28 rfl)
          subst e28
          have e24 := f24 (hdep.get 24 rfl)
          subst e24
          have hr := a29 hd
          have c0 := hr.cellAt (i) (by omega)
          rw [ic_at (by rw [Hln.out.2.2.1]; omega), Nu.out] at c0
          have z0 := hr.frozenAt i
          have h4 := (hr.stored i (.int .i64 gg)).1
          rw [← ic_set] at h4
          go_wp2_with fail
          exact ⟨⟨u27, u28, u29, u30, u31, u32, u33, u34, u35, u36, u37, u38, u39, u40, u41, u42, u43, u44, u45, u46, u47, u48, u49, u50, (.int .i64 gg), u52, u53, (.pointer (some ⟨hG, i, none⟩)), u55, rfl, (Gd.keep (i := 29) f0 (by decide)), (Gd.keep (i := 29) f1 (by decide)), (Gd.keep (i := 29) f2 (by decide)), (Gd.keep (i := 29) f3 (by decide)), (Gd.keep (i := 29) f4 (by decide)), (Gd.keep (i := 29) f5 (by decide)), (Gd.keep (i := 29) f6 (by decide)), (Gd.keep (i := 29) f7 (by decide)), (Gd.keep (i := 29) f8 (by decide)), (Gd.keep (i := 29) f9 (by decide)), (Gd.keep (i := 29) f10 (by decide)), (Gd.keep (i := 29) f11 (by decide)), (Gd.keep (i := 29) f12 (by decide)), (Gd.keep (i := 29) f13 (by decide)), (Gd.keep (i := 29) f14 (by decide)), (Gd.keep (i := 29) f15 (by decide)), (Gd.keep (i := 29) f16 (by decide)), (Gd.keep (i := 29) f17 (by decide)), (Gd.keep (i := 29) f18 (by decide)), (Gd.keep (i := 29) f19 (by decide)), (Gd.keep (i := 29) f20 (by decide)), (Gd.keep (i := 29) f21 (by decide)), (Gd.keep (i := 29) f22 (by decide)), (Gd.keep (i := 29) f23 (by decide)), Gd.new rfl, (Gd.keep (i := 29) f25 (by decide)), (Gd.keep (i := 29) f26 (by decide)), Gd.new rfl, (Gd.keep (i := 29) f30 (by decide)), (Ng.keep (i := 29) (fun h8 => (owns_far (a27 h8) (by have g9 := HG9.out; have n9 := HN9.out; have hh := HH.out; simp [Value.ownBlock]; omega) _)) (by decide)), (Gd.keep (i := 29) (fun h9 => (owns_far (b27 h9) (by have g9 := HG9.out; have n9 := HN9.out; have hh := HH.out; simp [Value.ownBlock]; omega) _)) (by decide)), (Ng.new (by rw [hsz]; exact (by decide : 29 < 32))), (Gd.new h4), (Ng.keep (i := 29) (fun h8 => (owns_far (a31 h8) (by have g9 := HG9.out; have n9 := HN9.out; have hh := HH.out; simp [Value.ownBlock]; omega) _)) (by decide)), (Gd.keep (i := 29) (fun h9 => (owns_far (b31 h9) (by have g9 := HG9.out; have n9 := HN9.out; have hh := HH.out; simp [Value.ownBlock]; omega) _)) (by decide)), (owns_far r0 (by have g9 := HG9.out; have n9 := HN9.out; have hh := HH.out; simp [Value.ownBlock]; omega) _), (owns_far r2 (by have g9 := HG9.out; have n9 := HN9.out; have hh := HH.out; simp [Value.ownBlock]; omega) _), (owns_far rC (by have g9 := HG9.out; have n9 := HN9.out; have hh := HH.out; simp [Value.ownBlock]; omega) _), (owns_far rO (by have g9 := HG9.out; have n9 := HN9.out; have hh := HH.out; simp [Value.ownBlock]; omega) _), (bp.setOther (by have g9 := HG9.out; have n9 := HN9.out; have hh := HH.out; show hG ≠ p; omega) _), (by simp; exact hlo), (hbel.setCell (p := ⟨hG, i, none⟩) (by have g9 := HG9.out; have n9 := HN9.out; have hh := HH.out; show lo ≤ hG; omega) (by have g9 := HG9.out; have n9 := HN9.out; have hh := HH.out; have pp9 := Hp.out; show hG = g1 ∨ w.heap.size ≤ hG; omega) _)⟩⟩
        refine .cons 31 rfl ?_ ?_
        · intro d a w9 hsz hcl hinv hd hdep
          obtain ⟨⟨u27, u28, u29, u30, u31, u32, u33, u34, u35, u36, u37, u38, u39, u40, u41, u42, u43, u44, u45, u46, u47, u48, u49, u50, u51, u52, u53, u54, u55, rfl, f0, f1, f2, f3, f4, f5, f6, f7, f8, f9, f10, f11, f12, f13, f14, f15, f16, f17, f18, f19, f20, f21, f22, f23, f24, f25, f26, f28, f30, a27, b27, a29, b29, a31, b31, r0, r2, rC, rO, bp, hlo, hbel⟩⟩ := hinv
          have e5 := f5 (hdep.get 5 rfl)
          subst e5
          have e6 := f6 (hdep.get 6 rfl)
          subst e6
          go_wp2_with fail
          exact ⟨⟨u27, u28, u29, u30, u31, u32, (.slice (some ⟨hL, 0, none⟩) n n), (.int .i64 (i : Int)), u35, u36, u37, u38, u39, u40, u41, u42, u43, u44, u45, u46, u47, u48, u49, u50, u51, u52, u53, u54, (.pointer (some ⟨hL, i, none⟩)), rfl, (Gd.keep (i := 30) f0 (by decide)), (Gd.keep (i := 30) f1 (by decide)), (Gd.keep (i := 30) f2 (by decide)), (Gd.keep (i := 30) f3 (by decide)), (Gd.keep (i := 30) f4 (by decide)), Gd.new rfl, Gd.new rfl, (Gd.keep (i := 30) f7 (by decide)), (Gd.keep (i := 30) f8 (by decide)), (Gd.keep (i := 30) f9 (by decide)), (Gd.keep (i := 30) f10 (by decide)), (Gd.keep (i := 30) f11 (by decide)), (Gd.keep (i := 30) f12 (by decide)), (Gd.keep (i := 30) f13 (by decide)), (Gd.keep (i := 30) f14 (by decide)), (Gd.keep (i := 30) f15 (by decide)), (Gd.keep (i := 30) f16 (by decide)), (Gd.keep (i := 30) f17 (by decide)), (Gd.keep (i := 30) f18 (by decide)), (Gd.keep (i := 30) f19 (by decide)), (Gd.keep (i := 30) f20 (by decide)), (Gd.keep (i := 30) f21 (by decide)), (Gd.keep (i := 30) f22 (by decide)), (Gd.keep (i := 30) f23 (by decide)), (Gd.keep (i := 30) f24 (by decide)), (Gd.keep (i := 30) f25 (by decide)), (Gd.keep (i := 30) f26 (by decide)), (Gd.keep (i := 30) f28 (by decide)), Gd.new (by first | rfl | simp), (Ng.keep (i := 30) a27 (by decide)), (Gd.keep (i := 30) b27 (by decide)), (Ng.keep (i := 30) a29 (by decide)), (Gd.keep (i := 30) b29 (by decide)), (Ng.keep (i := 30) a31 (by decide)), (Gd.keep (i := 30) b31 (by decide)), r0, r2, rC, rO, bp, hlo, hbel⟩⟩
        refine .cons 32 rfl ?_ trivial
        · intro d a w9 hsz hcl hinv hd hdep
          obtain ⟨⟨u27, u28, u29, u30, u31, u32, u33, u34, u35, u36, u37, u38, u39, u40, u41, u42, u43, u44, u45, u46, u47, u48, u49, u50, u51, u52, u53, u54, u55, rfl, f0, f1, f2, f3, f4, f5, f6, f7, f8, f9, f10, f11, f12, f13, f14, f15, f16, f17, f18, f19, f20, f21, f22, f23, f24, f25, f26, f28, f30, a27, b27, a29, b29, a31, b31, r0, r2, rC, rO, bp, hlo, hbel⟩⟩ := hinv
          have e30 := f30 (hdep.get 30 rfl)
          subst e30
          have e25 := f25 (hdep.get 25 rfl)
          subst e25
          have hr := a31 hd
          have c0 := hr.cellAt (i) (by omega)
          rw [ic_at (by rw [Hln.out.2.2.2]; omega), Ny.out] at c0
          have z0 := hr.frozenAt i
          have h4 := (hr.stored i (.int .i64 lv)).1
          rw [← ic_set] at h4
          go_wp2_with fail
          exact ⟨⟨u27, u28, u29, u30, u31, u32, u33, u34, u35, u36, u37, u38, u39, u40, u41, u42, u43, u44, u45, u46, u47, u48, u49, u50, u51, (.int .i64 lv), u53, u54, (.pointer (some ⟨hL, i, none⟩)), rfl, (Gd.keep (i := 31) f0 (by decide)), (Gd.keep (i := 31) f1 (by decide)), (Gd.keep (i := 31) f2 (by decide)), (Gd.keep (i := 31) f3 (by decide)), (Gd.keep (i := 31) f4 (by decide)), (Gd.keep (i := 31) f5 (by decide)), (Gd.keep (i := 31) f6 (by decide)), (Gd.keep (i := 31) f7 (by decide)), (Gd.keep (i := 31) f8 (by decide)), (Gd.keep (i := 31) f9 (by decide)), (Gd.keep (i := 31) f10 (by decide)), (Gd.keep (i := 31) f11 (by decide)), (Gd.keep (i := 31) f12 (by decide)), (Gd.keep (i := 31) f13 (by decide)), (Gd.keep (i := 31) f14 (by decide)), (Gd.keep (i := 31) f15 (by decide)), (Gd.keep (i := 31) f16 (by decide)), (Gd.keep (i := 31) f17 (by decide)), (Gd.keep (i := 31) f18 (by decide)), (Gd.keep (i := 31) f19 (by decide)), (Gd.keep (i := 31) f20 (by decide)), (Gd.keep (i := 31) f21 (by decide)), (Gd.keep (i := 31) f22 (by decide)), (Gd.keep (i := 31) f23 (by decide)), (Gd.keep (i := 31) f24 (by decide)), Gd.new rfl, (Gd.keep (i := 31) f26 (by decide)), (Gd.keep (i := 31) f28 (by decide)), Gd.new rfl, (Ng.keep (i := 31) (fun h8 => (owns_far (a27 h8) (by have g9 := HG9.out; have n9 := HN9.out; have hh := HH.out; simp [Value.ownBlock]; omega) _)) (by decide)), (Gd.keep (i := 31) (fun h9 => (owns_far (b27 h9) (by have g9 := HG9.out; have n9 := HN9.out; have hh := HH.out; simp [Value.ownBlock]; omega) _)) (by decide)), (Ng.keep (i := 31) (fun h8 => (owns_far (a29 h8) (by have g9 := HG9.out; have n9 := HN9.out; have hh := HH.out; simp [Value.ownBlock]; omega) _)) (by decide)), (Gd.keep (i := 31) (fun h9 => (owns_far (b29 h9) (by have g9 := HG9.out; have n9 := HN9.out; have hh := HH.out; simp [Value.ownBlock]; omega) _)) (by decide)), (Ng.new (by rw [hsz]; exact (by decide : 31 < 32))), (Gd.new h4), (owns_far r0 (by have g9 := HG9.out; have n9 := HN9.out; have hh := HH.out; simp [Value.ownBlock]; omega) _), (owns_far r2 (by have g9 := HG9.out; have n9 := HN9.out; have hh := HH.out; simp [Value.ownBlock]; omega) _), (owns_far rC (by have g9 := HG9.out; have n9 := HN9.out; have hh := HH.out; simp [Value.ownBlock]; omega) _), (owns_far rO (by have g9 := HG9.out; have n9 := HN9.out; have hh := HH.out; simp [Value.ownBlock]; omega) _), (bp.setOther (by have g9 := HG9.out; have n9 := HN9.out; have hh := HH.out; show hL ≠ p; omega) _), (by simp; exact hlo), (hbel.setCell (p := ⟨hL, i, none⟩) (by have g9 := HG9.out; have n9 := HN9.out; have hh := HH.out; show lo ≤ hL; omega) (by have g9 := HG9.out; have n9 := HN9.out; have hh := HH.out; have pp9 := Hp.out; show hL = g1 ∨ w.heap.size ≤ hL; omega) _)⟩⟩
      case hend2 =>
        clear RQ0 RQ1 RQ2 RQG RQL RQC RQO RP RB hdr hlo9
        intro d a w9 hinv hall
        obtain ⟨⟨u27, u28, u29, u30, u31, u32, u33, u34, u35, u36, u37, u38, u39, u40, u41, u42, u43, u44, u45, u46, u47, u48, u49, u50, u51, u52, u53, u54, u55, rfl, f0, f1, f2, f3, f4, f5, f6, f7, f8, f9, f10, f11, f12, f13, f14, f15, f16, f17, f18, f19, f20, f21, f22, f23, f24, f25, f26, f28, f30, a27, b27, a29, b29, a31, b31, r0, r2, rC, rO, bp, hlo, hbel⟩⟩ := hinv
        have B27 := Lib.hid (b27 (hall 27 (by decide)))
        have B29 := Lib.hid (b29 (hall 29 (by decide)))
        have B31 := Lib.hid (b31 (hall 31 (by decide)))
        have W_r0 := Lib.hid r0
        have W_r2 := Lib.hid r2
        have W_rC := Lib.hid rC
        have W_rO := Lib.hid rO
        have W_bp := Lib.hid bp
        have W_hlo := Lib.hid hlo
        have W_hbel := Lib.hid hbel
        clear f0 f1 f2 f3 f4 f5 f6 f7 f8 f9 f10 f11 f12 f13 f14 f15 f16 f17 f18 f19 f20 f21 f22 f23 f24 f25 f26 f28 f30 a27 b27 a29 b29 a31 b31 r0 r2 rC rO bp hlo hbel
        have HLo9 := W_hlo
        have xt0 := W_bp.out.c 0 rfl
        have cz := W_r0.out.cellAt i (by omega)
        rw [ic_at (by rw [HN0.out]; omega), Nz.out] at cz
        by_cases hzn : z < 0
        · have hzg : ¬ 0 ≤ z := by omega
          have hz1 : ¬ z = -1 → False := fun h => by have hrk := HRg.out i (by rw [HN0.out]; exact hin); rw [Nz.out] at hrk; omega
          obtain rfl : z = -1 := Decidable.byContradiction hz1
          go_wp2_with fail
          go_roundw
          case rel => exact ⟨k + 1, by omega, by go_num, W_r0, Lib.hid (by rw [HStep.out]; exact B27.out), W_r2, Lib.hid (by rw [HStep.out]; exact B29.out), Lib.hid (by rw [HStep.out]; exact B31.out), Lib.hid (by rw [HStep.out]; simp only [if_pos hzn]; exact W_rC.out), W_rO, W_bp, W_hbel⟩
          case measure => simp [intOf]; omega
        · have hrk := HRg.out i (by rw [HN0.out]; exact hin)
          rw [Nz.out, HN0.out] at hrk
          obtain ⟨j, rfl⟩ : ∃ j : Nat, z = (j : Int) := ⟨z.toNat, by omega⟩
          have hjn : j < n := by omega
          have hj0 : (0 : Int) ≤ (j : Int) := by omega
          have hj1 : (j : Int) < (n : Int) := by omega
          have hjm : ¬ (j : Int) = -1 := by omega
          obtain ⟨cj, hcj⟩ : ∃ x, C1.getD j 0 = x := ⟨_, rfl⟩
          have hdr : Below w9.heap.size w9 w9.drew := (Below.refl _ _).drew
          have W_r0' := Lib.hid (owns_below W_r0.out hdr (Nat.le_refl _))
          have W_r2' := Lib.hid (owns_below W_r2.out hdr (Nat.le_refl _))
          have W_rC' := Lib.hid (owns_below W_rC.out hdr (Nat.le_refl _))
          have W_rO' := Lib.hid (owns_below W_rO.out hdr (Nat.le_refl _))
          have B27' := Lib.hid (owns_below B27.out hdr (Nat.le_refl _))
          have B29' := Lib.hid (owns_below B29.out hdr (Nat.le_refl _))
          have B31' := Lib.hid (owns_below B31.out hdr (Nat.le_refl _))
          have W_bp' := Lib.hid (W_bp.out.below hdr W_bp.out.1.1)
          have W_hbel' : Hid (Frm lo g1 w w9.drew) := Lib.hid (W_hbel.out.step hdr HLo9.out)
          clear hdr
          have xd0 := W_bp'.out.c 0 rfl
          have cd := W_r0'.out.cellAt i (by omega)
          rw [ic_at (by rw [HN0.out]; omega), Nz.out] at cd
          have ccj := W_rC'.out.cellAt j (by omega)
          rw [ic_at (by rw [Hln.out.2.1]; omega), hcj] at ccj
          have fcj := W_rC'.out.frozenAt j
          have cl9 := B31'.out.cellAt i (by omega)
          rw [ic_at (by rw [List.length_set, Hln.out.2.2.2]; omega), List.getD_eq_getElem?_getD, List.getElem?_set_self (by rw [Hln.out.2.2.2]; exact hin)] at cl9
          simp only [Option.getD_some] at cl9
          obtain ⟨cs, hcs⟩ : ∃ x, wrap64 (cj + lv) = x := ⟨_, rfl⟩
          have w7b := iw hcs
          have HCs : Hid ((if (j : Int) < 0 then C1 else C1.set (j : Int).toNat (wrap64 (C1.getD (j : Int).toNat 0 + lv))) = C1.set j cs) := Lib.hid (by rw [if_neg (by omega), Int.toNat_natCast, hcj, hcs])
          clear hcj
          go_wp2_with fail
          go_still_tail 14, (by kernel_rfl)
          (try change wpList _ _ _ _ _ w9.drew)
          go_wp2_with fail
          have hst := (W_rC'.out.stored j (.int .i64 cs)).1
          rw [← ic_set] at hst
          go_roundw
          case rel => exact ⟨k + 1, by omega, by go_num, Lib.hid (owns_far W_r0'.out (by have g9 := HG9.out; have n9 := HN9.out; have hh := HH.out; simp [Value.ownBlock]; omega) _), Lib.hid (by rw [HStep.out]; exact (owns_far B27'.out (by have g9 := HG9.out; have n9 := HN9.out; have hh := HH.out; simp [Value.ownBlock]; omega) _)), Lib.hid (owns_far W_r2'.out (by have g9 := HG9.out; have n9 := HN9.out; have hh := HH.out; simp [Value.ownBlock]; omega) _), Lib.hid (by rw [HStep.out]; exact (owns_far B29'.out (by have g9 := HG9.out; have n9 := HN9.out; have hh := HH.out; simp [Value.ownBlock]; omega) _)), Lib.hid (by rw [HStep.out]; exact (owns_far B31'.out (by have g9 := HG9.out; have n9 := HN9.out; have hh := HH.out; simp [Value.ownBlock]; omega) _)), Lib.hid (by rw [HStep.out]; simp only [HCs.out]; exact hst), Lib.hid (owns_far W_rO'.out (by have g9 := HG9.out; have n9 := HN9.out; have hh := HH.out; simp [Value.ownBlock]; omega) _), Lib.hid (W_bp'.out.setOther (by have g9 := HG9.out; have n9 := HN9.out; have hh := HH.out; show hC ≠ p; omega) _), Lib.hid (W_hbel'.out.setCell (p := ⟨hC, j, none⟩) (by have g9 := HG9.out; have n9 := HN9.out; have hh := HH.out; show lo ≤ hC; omega) (by have g9 := HG9.out; have n9 := HN9.out; have hh := HH.out; have pp9 := Hp.out; show hC = g1 ∨ w.heap.size ≤ hC; omega) _)⟩
          case measure => simp [intOf]; omega
    · obtain rfl : k = n := by omega
      go_wp2_with fail
      have hpp := Hp.out
      have hh9 := HH.out
      exact bodyPost_ret (v := .tuple #[.slice (some ⟨hG, 0, none⟩) k k, .slice (some ⟨hL, 0, none⟩) k k]) (by first | (simp [results, Try.results58, go_sem, *]; done) | (simp (maxDischargeDepth := 12) [results, Try.results58, go_sem, *]; done) | (simp (maxDischargeDepth := 12) [results, Try.results58, go_sem, *]; rfl)) rfl ⟨hG, hL, rfl, RQ0.out, RQ1.out, RQ2.out, RQO.out, RQG.out, RQL.out, by omega, RB.out.1, RB.out.2⟩

end Go.Proofs.Ytckmacnmmloemaa
