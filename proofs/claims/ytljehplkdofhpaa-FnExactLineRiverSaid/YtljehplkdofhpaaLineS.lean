/- Rivers in a line: the model. -/
import Derived.Test.YtljehplkdofhpaaLineV
namespace Go.Proofs.Ytljehplkdofhpaa
open Go.RowKit
set_option linter.unusedVariables false
set_option linter.unusedSimpArgs false
set_option maxRecDepth 100000
attribute [local irreducible] wpV wpList Code.wp

structure lineSS (w0 : World) (t0_ t1_ t2_ t4_ t11_ t12_ t13_ t14_ t15_ t16_ t17_ t18_ t19_ t20_ t21_ t22_ t23_ t24_ t25_ t26_ t27_ : Value) (m : Nat) (d : Array Bool) (a : Act) (w : World) where
  u3 : Value
  u5 : Value
  u6 : Value
  u7 : Value
  u8 : Value
  u9 : Value
  u10 : Value
  g0 : Nat
  g2 : Nat
  g4 : Nat
  p : Nat
  ea : a = ⟨#[t0_, t1_, t2_, u3, t4_, u5, u6, u7, u8, u9, u10, t11_, t12_, t13_, t14_, t15_, t16_, t17_, t18_, t19_, t20_, t21_, t22_, t23_, t24_, t25_, t26_, t27_], []⟩
  f0 : Gd d 0 (u5 = .slice (some ⟨g0, 0, none⟩) 0 0)
  f1 : Gd d 1 (u6 = .int .i64 (m : Int))
  f2 : Gd d 2 (u7 = .slice (some ⟨g2, 0, none⟩) m m)
  f3 : Gd d 3 (u8 = .int .i64 (m : Int))
  f4 : Gd d 4 (u9 = .slice (some ⟨g4, 0, none⟩) m m)
  f5 : Gd d 5 (u10 = .agg #[.slice (some ⟨g0, 0, none⟩) 0 0, .slice (some ⟨g2, 0, none⟩) m m, .slice (some ⟨g4, 0, none⟩) m m])
  f6 : Gd d 6 (u3 = .pointer (some ⟨p, 0, none⟩))
  r0 : Gd d 0 (w.ownsRow w0.heap.size 2 1 (.slice (some ⟨g0, 0, none⟩) 0 0) 0 ([]))
  r2 : Gd d 2 (w.ownsRow w0.heap.size 42 4 (.slice (some ⟨g2, 0, none⟩) m m) m (List.replicate (m * 4) (.int .i64 0)))
  r4 : Gd d 4 (w.ownsRow w0.heap.size 2 1 (.slice (some ⟨g4, 0, none⟩) m m) m (List.replicate m (.int .i64 0)))
  s8 : Gd d 6 (p < w.heap.size ∧ w0.heap.size ≤ p)
  b8 : Gd d 6 (Ng d 7 (Bw w p [.slice none 0 0, .slice none 0 0, .slice none 0 0]))
  b9 : Gd d 7 (Bw w p [.slice (some ⟨g0, 0, none⟩) 0 0, .slice (some ⟨g2, 0, none⟩) m m, .slice (some ⟨g4, 0, none⟩) m m])
  n0_2 : Gd d 0 (Gd d 2 (g0 ≠ g2))
  n0_4 : Gd d 0 (Gd d 4 (g0 ≠ g4))
  n0_6 : Gd d 0 (Gd d 6 (g0 ≠ p))
  n2_4 : Gd d 2 (Gd d 4 (g2 ≠ g4))
  n2_6 : Gd d 2 (Gd d 6 (g2 ≠ p))
  n4_6 : Gd d 4 (Gd d 6 (g4 ≠ p))
  hbel : Below w0.heap.size w0 w
def lineS (w0 : World) (t0_ t1_ t2_ t4_ t11_ t12_ t13_ t14_ t15_ t16_ t17_ t18_ t19_ t20_ t21_ t22_ t23_ t24_ t25_ t26_ t27_ : Value) (m : Nat) (d : Array Bool) (a : Act) (w : World) : Prop := Nonempty (lineSS w0 t0_ t1_ t2_ t4_ t11_ t12_ t13_ t14_ t15_ t16_ t17_ t18_ t19_ t20_ t21_ t22_ t23_ t24_ t25_ t26_ t27_ m d a w)

def LineQ (m : Nat) (w : World) (e : Ending) (w' : World) : Prop :=
  ∃ lo g0 g1 g2 c0 c1 c2, e = .returned (.agg #[.slice (some ⟨g0, 0, none⟩) m c0, .slice (some ⟨g1, 0, none⟩) m c1, .slice (some ⟨g2, 0, none⟩) m c2]) ∧ w'.ownsRow lo 2 1 (.slice (some ⟨g0, 0, none⟩) m c0) m (ic (lineD m)) ∧ w'.ownsRow lo 42 4 (.slice (some ⟨g1, 0, none⟩) m c1) m (ic (List.replicate (m * 4) 0)) ∧ w'.ownsRow lo 2 1 (.slice (some ⟨g2, 0, none⟩) m c2) m (ic (List.replicate m 0)) ∧ g0 ≠ g1 ∧ g0 ≠ g2 ∧ g1 ≠ g2 ∧ w.heap.size ≤ lo ∧ Below w.heap.size w w'

set_option maxHeartbeats 8000000 in
theorem l06Line_any (m : Nat) (w : World) (hm1 : 1 ≤ m) (hm12 : m ≤ 12) (hmm : m ≤ 1048576) :
    Calls Try.prog 65 #[.int .i64 (m : Int)] w (LineQ m w) := by
  go_enter Try.func65, Try.ntmps65
  go_wp2_with fail
  generalize hw0 : World.alloc w _ = w0
  have bw0 : Bw w0 w.heap.size [.slice none 0 0, .slice none 0 0, .slice none 0 0] := by rw [← hw0]; exact Bw.new w _ _
  have hB0 : Below w.heap.size w w0 := by rw [← hw0]; exact bel1 _ _
  have hs0 : w0.heap.size = w.heap.size + 1 := by rw [← hw0]; simp
  have BW0 := Lib.hid bw0
  have HB0 := Lib.hid hB0
  have HS0 := Lib.hid hs0
  clear bw0 hB0 hw0 hs0
  refine wp_region_inv (id := 1) (lineS (w0) _ _ _ _ _ _ _ _ _ _ _ _ _ _ _ _ _ _ _ _ _ m) (by kernel_rfl) (by kernel_rfl) ⟨⟨_, _, _, _, _, _, _, 0, 0, 0, 0, rfl, .start, .start, .start, .start, .start, .start, .start, .start, .start, .start, .start, .start, .start, .start, .start, .start, .start, .start, .start, beld (Below.refl _ _) 1⟩⟩ ?hend1 ?hsteps1
  rotate_left
  case hsteps1 =>
    refine .cons 1 rfl ?_ ?_
    · intro d a w9 hsz hcl hinv hd hdep
      obtain ⟨⟨u3, u5, u6, u7, u8, u9, u10, g0, g2, g4, p, rfl, f0, f1, f2, f3, f4, f5, f6, r0, r2, r4, s8, b8, b9, n0_2, n0_4, n0_6, n2_4, n2_6, n4_6, hbel⟩⟩ := hinv
      have nb := hcl.not hd 5 _ rfl rfl
      have ns := hcl.not nb 7 _ rfl rfl
      go_wp2_with fail
      exact ⟨⟨u3, (.slice (some ⟨w9.heap.size, 0, none⟩) 0 0), u6, u7, u8, u9, u10, w9.heap.size, g2, g4, p, rfl, Gd.new (by first | rfl | simp), (f1.keep (i := 0) (by decide)), (f2.keep (i := 0) (by decide)), (f3.keep (i := 0) (by decide)), (f4.keep (i := 0) (by decide)), (Gd.undone (i := 0) nb (by decide)), (f6.keep (i := 0) (by decide)), Gd.new (World.ownsRow_lit w9 #[] 0 hbel.size (by decide) rfl), ((r2.imp fun h => h.alloc _).keep (i := 0) (by decide)), ((r4.imp fun h => h.alloc _).keep (i := 0) (by decide)), ((s8.imp fun h => ⟨by have := h.1; simp; omega, h.2⟩).keep (i := 0) (by decide)), (Gd.keep (i := 0) (b8.imp fun hb => Ng.keep (i := 0) (hb.imp fun h => h.alloc _) (by decide)) (by decide)), (Gd.undone (i := 0) ns (by decide)), (fun _ hj => (by rw [set_ne (by decide)] at hj; have h9 := ((r2 hj).lt g2 rfl).2; omega)), (fun _ hj => (by rw [set_ne (by decide)] at hj; have h9 := ((r4 hj).lt g4 rfl).2; omega)), (fun _ hj => (by rw [set_ne (by decide)] at hj; have h9 := (s8 hj).1; omega)), (Gd.keep (i := 0) (n2_4.imp fun h => Gd.keep (i := 0) h (by decide)) (by decide)), (Gd.keep (i := 0) (n2_6.imp fun h => Gd.keep (i := 0) h (by decide)) (by decide)), (Gd.keep (i := 0) (n4_6.imp fun h => Gd.keep (i := 0) h (by decide)) (by decide)), (hbel.alloc hbel.size _)⟩⟩
    refine .cons 2 rfl ?_ ?_
    · intro d a w9 hsz hcl hinv hd hdep
      obtain ⟨⟨u3, u5, u6, u7, u8, u9, u10, g0, g2, g4, p, rfl, f0, f1, f2, f3, f4, f5, f6, r0, r2, r4, s8, b8, b9, n0_2, n0_4, n0_6, n2_4, n2_6, n4_6, hbel⟩⟩ := hinv
      go_wp2_with fail
      exact ⟨⟨u3, u5, (.int .i64 (m : Int)), u7, u8, u9, u10, g0, g2, g4, p, rfl, (f0.keep (i := 1) (by decide)), Gd.new (by first | rfl | simp), (f2.keep (i := 1) (by decide)), (f3.keep (i := 1) (by decide)), (f4.keep (i := 1) (by decide)), (f5.keep (i := 1) (by decide)), (f6.keep (i := 1) (by decide)), (r0.keep (i := 1) (by decide)), (r2.keep (i := 1) (by decide)), (r4.keep (i := 1) (by decide)), (s8.keep (i := 1) (by decide)), (Gd.keep (i := 1) (b8.imp fun h => Ng.keep (i := 1) h (by decide)) (by decide)), (b9.keep (i := 1) (by decide)), (Gd.keep (i := 1) (n0_2.imp fun h => Gd.keep (i := 1) h (by decide)) (by decide)), (Gd.keep (i := 1) (n0_4.imp fun h => Gd.keep (i := 1) h (by decide)) (by decide)), (Gd.keep (i := 1) (n0_6.imp fun h => Gd.keep (i := 1) h (by decide)) (by decide)), (Gd.keep (i := 1) (n2_4.imp fun h => Gd.keep (i := 1) h (by decide)) (by decide)), (Gd.keep (i := 1) (n2_6.imp fun h => Gd.keep (i := 1) h (by decide)) (by decide)), (Gd.keep (i := 1) (n4_6.imp fun h => Gd.keep (i := 1) h (by decide)) (by decide)), hbel⟩⟩
    refine .cons 3 rfl ?_ ?_
    · intro d a w9 hsz hcl hinv hd hdep
      obtain ⟨⟨u3, u5, u6, u7, u8, u9, u10, g0, g2, g4, p, rfl, f0, f1, f2, f3, f4, f5, f6, r0, r2, r4, s8, b8, b9, n0_2, n0_4, n0_6, n2_4, n2_6, n4_6, hbel⟩⟩ := hinv
      have e1 := f1 (hdep.get 1 rfl)
      subst e1
      have nb := hcl.not hd 5 _ rfl rfl
      have ns := hcl.not nb 7 _ rfl rfl
      go_wp2_with (at_make; refine makeD rfl rfl _ _ rfl .i64 .i64 _ _ m rfl rfl rfl rfl hmm (lo := w0.heap.size) hbel.size ?_)
      intro w8 hown hgrow
      have hb8 : Below w9.heap.size w9 w8 := below_made (Below.refl _ _) hgrow (Nat.le_refl _)
      have hz8 : w9.heap.size ≤ w8.heap.size := hb8.size
      go_wp2_with fail
      exact ⟨⟨u3, u5, (.int .i64 (m : Int)), (.slice (some ⟨w9.heap.size, 0, none⟩) m m), u8, u9, u10, g0, w9.heap.size, g4, p, rfl, (f0.keep (i := 2) (by decide)), Gd.new rfl, Gd.new (by first | rfl | simp), (f3.keep (i := 2) (by decide)), (f4.keep (i := 2) (by decide)), (Gd.undone (i := 2) nb (by decide)), (f6.keep (i := 2) (by decide)), ((r0.imp fun h => owns_made h hgrow).keep (i := 2) (by decide)), Gd.new hown, ((r4.imp fun h => owns_made h hgrow).keep (i := 2) (by decide)), ((s8.imp fun h => ⟨Nat.lt_of_lt_of_le h.1 hz8, h.2⟩).keep (i := 2) (by decide)), (Gd.keep (i := 2) (Gd.imp2 s8 b8 fun hs hb => Ng.keep (i := 2) (hb.imp fun h => h.below hb8 hs.1) (by decide)) (by decide)), (Gd.undone (i := 2) ns (by decide)), (fun hj _ => (by rw [set_ne (by decide)] at hj; have h9 := ((r0 hj).lt g0 rfl).2; omega)), (Gd.keep (i := 2) (n0_4.imp fun h => Gd.keep (i := 2) h (by decide)) (by decide)), (Gd.keep (i := 2) (n0_6.imp fun h => Gd.keep (i := 2) h (by decide)) (by decide)), (fun _ hj => (by rw [set_ne (by decide)] at hj; have h9 := ((r4 hj).lt g4 rfl).2; omega)), (fun _ hj => (by rw [set_ne (by decide)] at hj; have h9 := (s8 hj).1; omega)), (Gd.keep (i := 2) (n4_6.imp fun h => Gd.keep (i := 2) h (by decide)) (by decide)), (below_made hbel hgrow hbel.size)⟩⟩
    refine .cons 4 rfl ?_ ?_
    · intro d a w9 hsz hcl hinv hd hdep
      obtain ⟨⟨u3, u5, u6, u7, u8, u9, u10, g0, g2, g4, p, rfl, f0, f1, f2, f3, f4, f5, f6, r0, r2, r4, s8, b8, b9, n0_2, n0_4, n0_6, n2_4, n2_6, n4_6, hbel⟩⟩ := hinv
      go_wp2_with fail
      exact ⟨⟨u3, u5, u6, u7, (.int .i64 (m : Int)), u9, u10, g0, g2, g4, p, rfl, (f0.keep (i := 3) (by decide)), (f1.keep (i := 3) (by decide)), (f2.keep (i := 3) (by decide)), Gd.new (by first | rfl | simp), (f4.keep (i := 3) (by decide)), (f5.keep (i := 3) (by decide)), (f6.keep (i := 3) (by decide)), (r0.keep (i := 3) (by decide)), (r2.keep (i := 3) (by decide)), (r4.keep (i := 3) (by decide)), (s8.keep (i := 3) (by decide)), (Gd.keep (i := 3) (b8.imp fun h => Ng.keep (i := 3) h (by decide)) (by decide)), (b9.keep (i := 3) (by decide)), (Gd.keep (i := 3) (n0_2.imp fun h => Gd.keep (i := 3) h (by decide)) (by decide)), (Gd.keep (i := 3) (n0_4.imp fun h => Gd.keep (i := 3) h (by decide)) (by decide)), (Gd.keep (i := 3) (n0_6.imp fun h => Gd.keep (i := 3) h (by decide)) (by decide)), (Gd.keep (i := 3) (n2_4.imp fun h => Gd.keep (i := 3) h (by decide)) (by decide)), (Gd.keep (i := 3) (n2_6.imp fun h => Gd.keep (i := 3) h (by decide)) (by decide)), (Gd.keep (i := 3) (n4_6.imp fun h => Gd.keep (i := 3) h (by decide)) (by decide)), hbel⟩⟩
    refine .cons 5 rfl ?_ ?_
    · intro d a w9 hsz hcl hinv hd hdep
      obtain ⟨⟨u3, u5, u6, u7, u8, u9, u10, g0, g2, g4, p, rfl, f0, f1, f2, f3, f4, f5, f6, r0, r2, r4, s8, b8, b9, n0_2, n0_4, n0_6, n2_4, n2_6, n4_6, hbel⟩⟩ := hinv
      have e3 := f3 (hdep.get 3 rfl)
      subst e3
      have nb := hcl.not hd 5 _ rfl rfl
      have ns := hcl.not nb 7 _ rfl rfl
      go_wp2_with (at_make; refine makeZ rfl rfl _ _ rfl .i64 .i64 _ _ m rfl rfl rfl rfl hmm (lo := w0.heap.size) hbel.size ?_)
      intro w8 hown hgrow
      have hb8 : Below w9.heap.size w9 w8 := below_made (Below.refl _ _) hgrow (Nat.le_refl _)
      have hz8 : w9.heap.size ≤ w8.heap.size := hb8.size
      go_wp2_with fail
      exact ⟨⟨u3, u5, u6, u7, (.int .i64 (m : Int)), (.slice (some ⟨w9.heap.size, 0, none⟩) m m), u10, g0, g2, w9.heap.size, p, rfl, (f0.keep (i := 4) (by decide)), (f1.keep (i := 4) (by decide)), (f2.keep (i := 4) (by decide)), Gd.new rfl, Gd.new (by first | rfl | simp), (Gd.undone (i := 4) nb (by decide)), (f6.keep (i := 4) (by decide)), ((r0.imp fun h => owns_made h hgrow).keep (i := 4) (by decide)), ((r2.imp fun h => owns_made h hgrow).keep (i := 4) (by decide)), Gd.new hown, ((s8.imp fun h => ⟨Nat.lt_of_lt_of_le h.1 hz8, h.2⟩).keep (i := 4) (by decide)), (Gd.keep (i := 4) (Gd.imp2 s8 b8 fun hs hb => Ng.keep (i := 4) (hb.imp fun h => h.below hb8 hs.1) (by decide)) (by decide)), (Gd.undone (i := 4) ns (by decide)), (Gd.keep (i := 4) (n0_2.imp fun h => Gd.keep (i := 4) h (by decide)) (by decide)), (fun hj _ => (by rw [set_ne (by decide)] at hj; have h9 := ((r0 hj).lt g0 rfl).2; omega)), (Gd.keep (i := 4) (n0_6.imp fun h => Gd.keep (i := 4) h (by decide)) (by decide)), (fun hj _ => (by rw [set_ne (by decide)] at hj; have h9 := ((r2 hj).lt g2 rfl).2; omega)), (Gd.keep (i := 4) (n2_6.imp fun h => Gd.keep (i := 4) h (by decide)) (by decide)), (fun _ hj => (by rw [set_ne (by decide)] at hj; have h9 := (s8 hj).1; omega)), (below_made hbel hgrow hbel.size)⟩⟩
    refine .cons 6 rfl ?_ ?_
    · intro d a w9 hsz hcl hinv hd hdep
      obtain ⟨⟨u3, u5, u6, u7, u8, u9, u10, g0, g2, g4, p, rfl, f0, f1, f2, f3, f4, f5, f6, r0, r2, r4, s8, b8, b9, n0_2, n0_4, n0_6, n2_4, n2_6, n4_6, hbel⟩⟩ := hinv
      have e0 := f0 (hdep.get 0 rfl)
      subst e0
      have e2 := f2 (hdep.get 2 rfl)
      subst e2
      have e4 := f4 (hdep.get 4 rfl)
      subst e4
      go_wp2_with fail
      exact ⟨⟨u3, (.slice (some ⟨g0, 0, none⟩) 0 0), u6, (.slice (some ⟨g2, 0, none⟩) m m), u8, (.slice (some ⟨g4, 0, none⟩) m m), (.agg #[.slice (some ⟨g0, 0, none⟩) 0 0, .slice (some ⟨g2, 0, none⟩) m m, .slice (some ⟨g4, 0, none⟩) m m]), g0, g2, g4, p, rfl, Gd.new rfl, (f1.keep (i := 5) (by decide)), Gd.new rfl, (f3.keep (i := 5) (by decide)), Gd.new rfl, Gd.new (by first | rfl | simp), (f6.keep (i := 5) (by decide)), (r0.keep (i := 5) (by decide)), (r2.keep (i := 5) (by decide)), (r4.keep (i := 5) (by decide)), (s8.keep (i := 5) (by decide)), (Gd.keep (i := 5) (b8.imp fun h => Ng.keep (i := 5) h (by decide)) (by decide)), (b9.keep (i := 5) (by decide)), (Gd.keep (i := 5) (n0_2.imp fun h => Gd.keep (i := 5) h (by decide)) (by decide)), (Gd.keep (i := 5) (n0_4.imp fun h => Gd.keep (i := 5) h (by decide)) (by decide)), (Gd.keep (i := 5) (n0_6.imp fun h => Gd.keep (i := 5) h (by decide)) (by decide)), (Gd.keep (i := 5) (n2_4.imp fun h => Gd.keep (i := 5) h (by decide)) (by decide)), (Gd.keep (i := 5) (n2_6.imp fun h => Gd.keep (i := 5) h (by decide)) (by decide)), (Gd.keep (i := 5) (n4_6.imp fun h => Gd.keep (i := 5) h (by decide)) (by decide)), hbel⟩⟩
    refine .cons 7 rfl ?_ ?_
    · intro d a w9 hsz hcl hinv hd hdep
      obtain ⟨⟨u3, u5, u6, u7, u8, u9, u10, g0, g2, g4, p, rfl, f0, f1, f2, f3, f4, f5, f6, r0, r2, r4, s8, b8, b9, n0_2, n0_4, n0_6, n2_4, n2_6, n4_6, hbel⟩⟩ := hinv
      have ns := hcl.not hd 7 _ rfl rfl
      go_wp2_with fail
      exact ⟨⟨(.pointer (some ⟨w9.heap.size, 0, none⟩)), u5, u6, u7, u8, u9, u10, g0, g2, g4, w9.heap.size, rfl, (f0.keep (i := 6) (by decide)), (f1.keep (i := 6) (by decide)), (f2.keep (i := 6) (by decide)), (f3.keep (i := 6) (by decide)), (f4.keep (i := 6) (by decide)), (f5.keep (i := 6) (by decide)), Gd.new (by first | rfl | simp), ((r0.imp fun h => h.alloc _).keep (i := 6) (by decide)), ((r2.imp fun h => h.alloc _).keep (i := 6) (by decide)), ((r4.imp fun h => h.alloc _).keep (i := 6) (by decide)), Gd.new ⟨by simp, hbel.size⟩, Gd.new (fun _ => Bw.new w9 [.slice none 0 0, .slice none 0 0, .slice none 0 0] _), (Gd.undone (i := 6) ns (by decide)), (Gd.keep (i := 6) (n0_2.imp fun h => Gd.keep (i := 6) h (by decide)) (by decide)), (Gd.keep (i := 6) (n0_4.imp fun h => Gd.keep (i := 6) h (by decide)) (by decide)), (fun hj _ => (by rw [set_ne (by decide)] at hj; have h9 := ((r0 hj).lt g0 rfl).2; omega)), (Gd.keep (i := 6) (n2_4.imp fun h => Gd.keep (i := 6) h (by decide)) (by decide)), (fun hj _ => (by rw [set_ne (by decide)] at hj; have h9 := ((r2 hj).lt g2 rfl).2; omega)), (fun hj _ => (by rw [set_ne (by decide)] at hj; have h9 := ((r4 hj).lt g4 rfl).2; omega)), (hbel.alloc hbel.size _)⟩⟩
    refine .cons 8 rfl ?_ trivial
    · intro d a w9 hsz hcl hinv hd hdep
      obtain ⟨⟨u3, u5, u6, u7, u8, u9, u10, g0, g2, g4, p, rfl, f0, f1, f2, f3, f4, f5, f6, r0, r2, r4, s8, b8, b9, n0_2, n0_4, n0_6, n2_4, n2_6, n4_6, hbel⟩⟩ := hinv
      have e6 := f6 (hdep.get 6 rfl)
      subst e6
      have e5 := f5 (hdep.get 5 rfl)
      subst e5
      have hbp := b8 (hdep.get 6 rfl) hd
      have hc0 := hbp.c 0 rfl
      have hc1 := hbp.c 1 rfl
      have hc2 := hbp.c 2 rfl
      have hf0 := hbp.f 0 (by simp)
      have hf1 := hbp.f 1 (by simp)
      have hf2 := hbp.f 2 (by simp)
      have hp9 := s8 (hdep.get 6 rfl)
      have dd0 := (hcl 5 _ rfl (hdep.get 5 rfl)).get 0 rfl
      have dd2 := (hcl 5 _ rfl (hdep.get 5 rfl)).get 2 rfl
      have dd4 := (hcl 5 _ rfl (hdep.get 5 rfl)).get 4 rfl
      have hn0 := n0_6 (dd0) (hdep.get 6 rfl)
      have hn2 := n2_6 (dd2) (hdep.get 6 rfl)
      have hn4 := n4_6 (dd4) (hdep.get 6 rfl)
      go_wp2_with fail
      exact ⟨⟨(.pointer (some ⟨p, 0, none⟩)), u5, u6, u7, u8, u9, (.agg #[.slice (some ⟨g0, 0, none⟩) 0 0, .slice (some ⟨g2, 0, none⟩) m m, .slice (some ⟨g4, 0, none⟩) m m]), g0, g2, g4, p, rfl, (f0.keep (i := 7) (by decide)), (f1.keep (i := 7) (by decide)), (f2.keep (i := 7) (by decide)), (f3.keep (i := 7) (by decide)), (f4.keep (i := 7) (by decide)), Gd.new rfl, Gd.new rfl, ((r0.imp fun h => (owns_far (owns_far (owns_far h (by simp [Value.ownBlock]; exact hn0) (.slice (some ⟨g0, 0, none⟩) 0 0)) (by simp [Value.ownBlock]; exact hn0) (.slice (some ⟨g2, 0, none⟩) m m)) (by simp [Value.ownBlock]; exact hn0) (.slice (some ⟨g4, 0, none⟩) m m))).keep (i := 7) (by decide)), ((r2.imp fun h => (owns_far (owns_far (owns_far h (by simp [Value.ownBlock]; exact hn2) (.slice (some ⟨g0, 0, none⟩) 0 0)) (by simp [Value.ownBlock]; exact hn2) (.slice (some ⟨g2, 0, none⟩) m m)) (by simp [Value.ownBlock]; exact hn2) (.slice (some ⟨g4, 0, none⟩) m m))).keep (i := 7) (by decide)), ((r4.imp fun h => (owns_far (owns_far (owns_far h (by simp [Value.ownBlock]; exact hn4) (.slice (some ⟨g0, 0, none⟩) 0 0)) (by simp [Value.ownBlock]; exact hn4) (.slice (some ⟨g2, 0, none⟩) m m)) (by simp [Value.ownBlock]; exact hn4) (.slice (some ⟨g4, 0, none⟩) m m))).keep (i := 7) (by decide)), ((s8.imp fun h => ⟨by simp; exact h.1, h.2⟩).keep (i := 7) (by decide)), (Gd.keep (i := 7) (b8.imp fun h => Ng.new (by rw [hsz]; exact (by decide : 7 < 8))) (by decide)), Gd.new (((hbp.put 0 (by simp) (.slice (some ⟨g0, 0, none⟩) 0 0)).put 1 (by simp) (.slice (some ⟨g2, 0, none⟩) m m)).put 2 (by simp) (.slice (some ⟨g4, 0, none⟩) m m)), (Gd.keep (i := 7) (n0_2.imp fun h => Gd.keep (i := 7) h (by decide)) (by decide)), (Gd.keep (i := 7) (n0_4.imp fun h => Gd.keep (i := 7) h (by decide)) (by decide)), (Gd.keep (i := 7) (n0_6.imp fun h => Gd.keep (i := 7) h (by decide)) (by decide)), (Gd.keep (i := 7) (n2_4.imp fun h => Gd.keep (i := 7) h (by decide)) (by decide)), (Gd.keep (i := 7) (n2_6.imp fun h => Gd.keep (i := 7) h (by decide)) (by decide)), (Gd.keep (i := 7) (n4_6.imp fun h => Gd.keep (i := 7) h (by decide)) (by decide)), (((hbel.setCell hp9.2 _).setCell hp9.2 _).setCell hp9.2 _)⟩⟩
  case hend1 =>
    intro d a w9 hinv hall
    obtain ⟨⟨u3, u5, u6, u7, u8, u9, u10, g0, g2, g4, p, rfl, f0, f1, f2, f3, f4, f5, f6, r0, r2, r4, s8, b8, b9, n0_2, n0_4, n0_6, n2_4, n2_6, n4_6, hbel⟩⟩ := hinv
    have e6 := f6 (hall 6 (by decide))
    subst e6
    have R0 := Lib.hid (r0 (hall 0 (by decide)))
    have R2 := Lib.hid (r2 (hall 2 (by decide)))
    have R4 := Lib.hid (r4 (hall 4 (by decide)))
    have HP := Lib.hid (b9 (hall 7 (by decide)))
    have HS := Lib.hid (s8 (hall 6 (by decide)))
    have N0_2 := Lib.hid (n0_2 (hall 0 (by decide)) (hall 2 (by decide)))
    have N0_4 := Lib.hid (n0_4 (hall 0 (by decide)) (hall 4 (by decide)))
    have N0_6 := Lib.hid (n0_6 (hall 0 (by decide)) (hall 6 (by decide)))
    have N2_4 := Lib.hid (n2_4 (hall 2 (by decide)) (hall 4 (by decide)))
    have N2_6 := Lib.hid (n2_6 (hall 2 (by decide)) (hall 6 (by decide)))
    have N4_6 := Lib.hid (n4_6 (hall 4 (by decide)) (hall 6 (by decide)))
    have HBL := Lib.hid hbel
    clear f0 f1 f2 f3 f4 f5 f6 r0 r2 r4 s8 b8 b9 n0_2 n0_4 n0_6 n2_4 n2_6 n4_6 hbel
    have HB9 : Hid (Below w.heap.size w w9) := Lib.hid (HB0.out.trans (HBL.out.mono HB0.out.size))
    have BW9 : Hid (Bw w9 w.heap.size [.slice none 0 0, .slice none 0 0, .slice none 0 0]) := Lib.hid (BW0.out.below HBL.out BW0.out.1.1)
    have HPL : Hid (w.heap.size < p ∧ p < w9.heap.size) := Lib.hid (by have h9 := HS.out; have h8 := HS0.out; omega)
    have G0 := Lib.hid (R0.out.lt g0 rfl)
    have G2 := Lib.hid (R2.out.lt g2 rfl)
    have G4 := Lib.hid (R4.out.lt g4 rfl)
    have HG : Hid (w.heap.size < g0 ∧ w.heap.size < g2 ∧ w.heap.size < g4 ∧ w.heap.size + 1 ≤ w0.heap.size) := Lib.hid (by have h1 := G0.out.1; have h3 := G2.out.1; have h5 := G4.out.1; have h8 := HS0.out; omega)
    clear HBL HS G0 G2 G4 HB0 BW0 HS0
    obtain ⟨l0, hl0⟩ : ∃ l, w0.heap.size = l := ⟨_, rfl⟩
    rw [hl0] at R0 R2 R4 HG
    clear hl0
    go_wp2_with fail
    go_loopw [4] (fun iv wr => ∃ k g c : Nat, k + 1 ≤ m ∧ iv = .int .i64 ((k + 1 : Nat) : Int) ∧ Hid (wr.ownsRow l0 2 1 (.slice (some ⟨g, 0, none⟩) k c) k (ic (lineP k))) ∧ Hid (g ≠ g2 ∧ g ≠ g4 ∧ g ≠ p ∧ w.heap.size < g) ∧ Hid (Bw wr p [.slice (some ⟨g, 0, none⟩) k c, .slice (some ⟨g2, 0, none⟩) m m, .slice (some ⟨g4, 0, none⟩) m m]) ∧ Hid (wr.ownsRow l0 42 4 (.slice (some ⟨g2, 0, none⟩) m m) m (List.replicate (m * 4) (.int .i64 0))) ∧ Hid (wr.ownsRow l0 2 1 (.slice (some ⟨g4, 0, none⟩) m m) m (List.replicate m (.int .i64 0))) ∧ Hid (Bw wr w.heap.size [.slice none 0 0, .slice none 0 0, .slice none 0 0]) ∧ Hid (Below w.heap.size w wr)) (fun iv _ => m - (intOf iv).toNat)
    case atStart => exact ⟨0, g0, 0, by omega, rfl, R0, Lib.hid ⟨N0_2.out, N0_4.out, N0_6.out, HG.out.1⟩, HP, R2, R4, BW9, HB9⟩
    case round =>
      clear R0 HP R2 R4 BW9 HB9
      obtain ⟨k, g, c, hk, rfl, R0, Hg, HP, R2, R4, BW9, HB9⟩ := hrel
      have hx0 := HP.out.c 0 rfl
      have hy0 := HP.out.f 0 (by simp)
      have hx1 := HP.out.c 1 rfl
      have hy1 := HP.out.f 1 (by simp)
      have hx2 := HP.out.c 2 rfl
      have hy2 := HP.out.f 2 (by simp)
      by_cases hlt : k + 1 < m
      · have hk1 : ((k + 1 : Nat) : Int) < (m : Int) := by omega
        have hcast : ((k + 1 : Nat) : Int) = (k : Int) + 1 := by omega
        have hk0 : (0 : Int) ≤ (k : Int) := by omega
        have Hcell := Lib.hid (show (wr.alloc (.cells #[.int .i64 ((k : Int) + 1)] 2)).cell? ⟨wr.heap.size, 0, none⟩ = some (.int .i64 ((k : Int) + 1)) by simp [go_sem])
        have Hlo := Lib.hid (show l0 ≤ (wr.alloc (.cells #[.int .i64 ((k : Int) + 1)] 2)).heap.size by have h8 := (R0.out.lt g rfl); simp; omega)
        have hkl : k ≤ 1048576 := by omega
        go_wp2_with (at_builtin; refine pushZ rfl rfl _ _ rfl rfl (R0.out.alloc _) wr.heap.size _ ((k : Int) + 1) rfl Hcell.out hkl Hlo.out ?_)
        intro gn cn w8 hrow hgrow hgn hgl
        clear hx0 hx1 hx2 hy0 hy1 hy2
        have hgg := Hg.out; have hpl := HPL.out; have hgs := HG.out
        have hG2 := (R2.out.lt g2 rfl).2
        have hG4 := (R4.out.lt g4 rfl).2
        have hGp := HP.out.1.1
        have hGw := BW9.out.1.1
        have hgn9 : gn ≠ g2 ∧ gn ≠ g4 ∧ gn ≠ p ∧ w.heap.size < gn := by
          rcases hgn with h | h
          · simp only [Value.ownBlock, Option.some.injEq] at h; omega
          · (try simp at h); omega
        have HP8 := Lib.hid ((HP.out.alloc (.cells #[.int .i64 ((k : Int) + 1)] 2)).pushed hgrow (by simp [Value.ownBlock]; omega))
        have BW8 := Lib.hid ((BW9.out.alloc (.cells #[.int .i64 ((k : Int) + 1)] 2)).pushed hgrow (by simp [Value.ownBlock]; omega))
        have R28 := Lib.hid (owns_pushed (R2.out.alloc (.cells #[.int .i64 ((k : Int) + 1)] 2)) hgrow (by intro k hk; simp only [Value.ownBlock, Option.some.injEq, ne_eq] at hk ⊢; omega))
        have R48 := Lib.hid (owns_pushed (R4.out.alloc (.cells #[.int .i64 ((k : Int) + 1)] 2)) hgrow (by intro k hk; simp only [Value.ownBlock, Option.some.injEq, ne_eq] at hk ⊢; omega))
        have HB8 : Hid (Below w.heap.size w w8) := Lib.hid ((HB9.out.alloc HB9.out.size (.cells #[.int .i64 ((k : Int) + 1)] 2)).grown hgrow (by have := HB9.out.size; simp; omega) (by intro k hk; simp only [Value.ownBlock, Option.some.injEq] at hk; omega))
        rw [lineP_succ2] at hrow
        have R08 := Lib.hid hrow
        have Hgn := Lib.hid hgn9
        clear hrow hgrow hgn hgl hgn9 hgg hpl hgs hG2 hG4 hGp hGw Hcell Hlo
        clear R0 Hg HP R2 R4 BW9 HB9
        have hx0 := HP8.out.c 0 rfl
        have hy0 := HP8.out.f 0 (by simp)
        have hx1 := HP8.out.c 1 rfl
        have hy1 := HP8.out.f 1 (by simp)
        have hx2 := HP8.out.c 2 rfl
        have hy2 := HP8.out.f 2 (by simp)
        go_wp2_with fail
        go_roundw
        case rel =>
          have hn := Hgn.out; have hpl := HPL.out; have hn1 := N2_6.out; have hn2 := N4_6.out
          exact ⟨k + 1, gn, cn, by omega, by go_num, Lib.hid (owns_far R08.out (by simp [Value.ownBlock]; omega) _), Hgn, Lib.hid (HP8.out.put 0 (by simp) _), Lib.hid (owns_far R28.out (by simp [Value.ownBlock]; omega) _), Lib.hid (owns_far R48.out (by simp [Value.ownBlock]; omega) _), Lib.hid (BW8.out.setOther (by show p ≠ w.heap.size; omega) _), Lib.hid (HB8.out.setCell (by show w.heap.size ≤ p; omega) _)⟩
        case measure => simp [intOf]; omega
      · obtain rfl : m = k + 1 := by omega
        have hcast : ((k + 1 : Nat) : Int) = (k : Int) + 1 := by omega
        have hk0 : (0 : Int) ≤ (k : Int) := by omega
        have Hcell := Lib.hid (show (wr.alloc (.cells #[.int .i64 (-1)] 2)).cell? ⟨wr.heap.size, 0, none⟩ = some (.int .i64 (-1)) by simp [go_sem])
        have Hlo := Lib.hid (show l0 ≤ (wr.alloc (.cells #[.int .i64 (-1)] 2)).heap.size by have h8 := (R0.out.lt g rfl); simp; omega)
        have hkl : k ≤ 1048576 := by omega
        go_wp2_with (at_builtin; refine pushZ rfl rfl _ _ rfl rfl (R0.out.alloc _) wr.heap.size _ (-1) rfl Hcell.out hkl Hlo.out ?_)
        intro gn cn w8 hrow hgrow hgn hgl
        clear hx0 hx1 hx2 hy0 hy1 hy2
        have hgg := Hg.out; have hpl := HPL.out; have hgs := HG.out
        have hG2 := (R2.out.lt g2 rfl).2
        have hG4 := (R4.out.lt g4 rfl).2
        have hGp := HP.out.1.1
        have hGw := BW9.out.1.1
        have hgn9 : gn ≠ g2 ∧ gn ≠ g4 ∧ gn ≠ p ∧ w.heap.size < gn := by
          rcases hgn with h | h
          · simp only [Value.ownBlock, Option.some.injEq] at h; omega
          · (try simp at h); omega
        have HP8 := Lib.hid ((HP.out.alloc (.cells #[.int .i64 (-1)] 2)).pushed hgrow (by simp [Value.ownBlock]; omega))
        have BW8 := Lib.hid ((BW9.out.alloc (.cells #[.int .i64 (-1)] 2)).pushed hgrow (by simp [Value.ownBlock]; omega))
        have R28 := Lib.hid (owns_pushed (R2.out.alloc (.cells #[.int .i64 (-1)] 2)) hgrow (by intro k hk; simp only [Value.ownBlock, Option.some.injEq, ne_eq] at hk ⊢; omega))
        have R48 := Lib.hid (owns_pushed (R4.out.alloc (.cells #[.int .i64 (-1)] 2)) hgrow (by intro k hk; simp only [Value.ownBlock, Option.some.injEq, ne_eq] at hk ⊢; omega))
        have HB8 : Hid (Below w.heap.size w w8) := Lib.hid ((HB9.out.alloc HB9.out.size (.cells #[.int .i64 (-1)] 2)).grown hgrow (by have := HB9.out.size; simp; omega) (by intro k hk; simp only [Value.ownBlock, Option.some.injEq] at hk; omega))
        rw [lineP_last] at hrow
        have R08 := Lib.hid hrow
        have Hgn := Lib.hid hgn9
        clear hrow hgrow hgn hgl hgn9 hgg hpl hgs hG2 hG4 hGp hGw Hcell Hlo
        clear R0 Hg HP R2 R4 BW9 HB9
        have hx0 := HP8.out.c 0 rfl
        have hy0 := HP8.out.f 0 (by simp)
        have hx1 := HP8.out.c 1 rfl
        have hy1 := HP8.out.f 1 (by simp)
        have hx2 := HP8.out.c 2 rfl
        have hy2 := HP8.out.f 2 (by simp)
        have hb0 := BW8.out.c 0 rfl
        have hb1 := BW8.out.c 1 rfl
        have hb2 := BW8.out.c 2 rfl
        have hd0 := BW8.out.f 0 (by simp)
        have hd1 := BW8.out.f 1 (by simp)
        have hd2 := BW8.out.f 2 (by simp)
        have hgne4 : ¬ w.heap.size = p := by have := HPL.out; omega
        have hgne5 : ¬ p = w.heap.size := by have := HPL.out; omega
        go_wp2_with fail
        have hn := Hgn.out; have hpl := HPL.out; have hn1 := N2_6.out; have hn2 := N4_6.out; have hn3 := N2_4.out; have hg := HG.out
        refine bodyPost_ret (v := .agg #[.slice (some ⟨gn, 0, none⟩) (k + 1) cn, .slice (some ⟨g2, 0, none⟩) (k + 1) (k + 1), .slice (some ⟨g4, 0, none⟩) (k + 1) (k + 1)]) (by first | (simp [results, Try.results65, go_sem, *]; done) | (simp (maxDischargeDepth := 12) [results, Try.results65, go_sem, *]; done) | (simp (maxDischargeDepth := 12) [results, Try.results65, go_sem, *]; rfl)) rfl ⟨l0, gn, g2, g4, cn, k + 1, k + 1, rfl, ?_, ?_, ?_, hn.1, hn.2.1, hn3, by omega, ?_⟩
        · exact owns_far (owns_far (owns_far (owns_far R08.out (by simp [Value.ownBlock]; omega) _) (by simp [Value.ownBlock]; omega) _) (by simp [Value.ownBlock]; omega) _) (by simp [Value.ownBlock]; omega) _
        · rw [ic_replicate]; exact owns_far (owns_far (owns_far (owns_far R28.out (by simp [Value.ownBlock]; omega) _) (by simp [Value.ownBlock]; omega) _) (by simp [Value.ownBlock]; omega) _) (by simp [Value.ownBlock]; omega) _
        · rw [ic_replicate]; exact owns_far (owns_far (owns_far (owns_far R48.out (by simp [Value.ownBlock]; omega) _) (by simp [Value.ownBlock]; omega) _) (by simp [Value.ownBlock]; omega) _) (by simp [Value.ownBlock]; omega) _
        · exact (((HB8.out.setCell (by show w.heap.size ≤ p; omega) _).setCell (Nat.le_refl _) _).setCell (Nat.le_refl _) _).setCell (Nat.le_refl _) _

set_option maxHeartbeats 4000000 in
theorem lineRiver_s (n : Int) (w : World) :
    Calls Try.prog 22 #[.int .i64 n] w (RivP (lineR n) w) := by
  obtain ⟨Q, hQ⟩ : ∃ Q, lineR n = Q := ⟨_, rfl⟩
  rw [hQ]
  have HQ := Lib.hid hQ
  clear hQ
  go_enter Try.func22, Try.ntmps22
  go_wp2_with fail
  refine (inZ_any n 1 12 _).mono ?_
  rintro e w' ⟨bb, hbb, rfl, rfl⟩
  have HC := Lib.hid hbb
  clear hbb
  cases bb
  · have hv : Q = failR := by rw [← HQ.out]; unfold lineR; rw [HC.out]; rfl
    have HV := Lib.hid hv
    clear hv
    go_wp2_with fail
    rw [HV.out]
    exact bodyPost_ret (v := .tuple #[.agg #[.slice none 0 0, .slice none 0 0, .slice none 0 0], .bool false]) (by first | (simp [results, Try.results22, go_sem]; done) | (simp (maxDischargeDepth := 12) [results, Try.results22, go_sem]; done) | (simp (maxDischargeDepth := 12) [results, Try.results22, go_sem]; rfl)) rfl (RivP.no (by repeat (first | with_reducible exact Below.refl _ _ | with_reducible refine beld ?_ _ | (with_reducible refine Below.alloc ?_ ?_ _; rotate_left; exact (by first | (simp; done) | (simp; omega) | omega)) | (with_reducible refine Below.setCell ?_ ?_ _; rotate_left; exact (by first | (simp; done) | (simp; omega) | omega)))))
  have hcc := HC.out
  rw [Bool.and_eq_true, decide_eq_true_eq, decide_eq_true_eq] at hcc
  obtain ⟨m, rfl⟩ := Int.eq_ofNat_of_zero_le (show 0 ≤ n by omega)
  have hm1 : 1 ≤ m := by omega
  have hm12 : m ≤ 12 := by omega
  clear hcc
  go_wp2_with fail
  refine (l06Line_any m _ hm1 hm12 (by omega)).mono ?_
  rintro e w1 ⟨lo, g0, g1, g2, c0, c1, c2, rfl, h0, h1, h2, n01, n02, n12, hlo, hb⟩
  have BW1 := Lib.hid ((Bw.new w [.slice none 0 0, .slice none 0 0, .slice none 0 0] _).below hb (by simp))
  have HB1 : Hid (Below w.heap.size w w1) := Lib.hid ((bel1 w _).trans (hb.mono (by simp)))
  have hlo1 : w.heap.size + 1 ≤ lo := by simpa using hlo
  have H0 := Lib.hid h0
  have H1 := Lib.hid h1
  have H2 := Lib.hid h2
  have K0 := h0.lt g0 rfl
  have K1 := h1.lt g1 rfl
  have K2 := h2.lt g2 rfl
  clear h0 h1 h2 hb hlo
  have hx0 := BW1.out.c 0 rfl
  have hy0 := BW1.out.f 0 (by simp)
  have hx1 := BW1.out.c 1 rfl
  have hy1 := BW1.out.f 1 (by simp)
  have hx2 := BW1.out.c 2 rfl
  have hy2 := BW1.out.f 2 (by simp)
  have hv : Q = ⟨m, lineD m, List.replicate (m * 4) 0, List.replicate m 0, true⟩ := by rw [← HQ.out]; unfold lineR; rw [HC.out, Int.toNat_natCast]; rfl
  have HV := Lib.hid hv
  clear hv
  go_wp2_with fail
  rw [HV.out]
  refine bodyPost_ret (v := .tuple #[.agg #[.slice (some ⟨g0, 0, none⟩) m c0, .slice (some ⟨g1, 0, none⟩) m c1, .slice (some ⟨g2, 0, none⟩) m c2], .bool true]) (by first | (simp [results, Try.results22, go_sem, *]; done) | (simp (maxDischargeDepth := 12) [results, Try.results22, go_sem, *]; done) | (simp (maxDischargeDepth := 12) [results, Try.results22, go_sem, *]; rfl)) rfl (RivP.yes (lo := lo) ?_ ?_ ?_ n01 n02 n12 (by omega) ?_)
  · exact owns_far (owns_far (owns_far H0.out (by simp [Value.ownBlock]; omega) _) (by simp [Value.ownBlock]; omega) _) (by simp [Value.ownBlock]; omega) _
  · exact owns_far (owns_far (owns_far H1.out (by simp [Value.ownBlock]; omega) _) (by simp [Value.ownBlock]; omega) _) (by simp [Value.ownBlock]; omega) _
  · exact owns_far (owns_far (owns_far H2.out (by simp [Value.ownBlock]; omega) _) (by simp [Value.ownBlock]; omega) _) (by simp [Value.ownBlock]; omega) _
  · exact ((HB1.out.setCell (Nat.le_refl _) _).setCell (Nat.le_refl _) _).setCell (Nat.le_refl _) _

end Go.Proofs.Ytljehplkdofhpaa
