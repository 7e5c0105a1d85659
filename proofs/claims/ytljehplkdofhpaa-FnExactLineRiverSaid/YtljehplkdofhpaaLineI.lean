/- Rivers in a line: the program. -/
import Derived.Test.YtljehplkdofhpaaLineV
namespace Go.Proofs.Ytljehplkdofhpaa
open Go.RowKit
set_option linter.unusedVariables false
set_option linter.unusedSimpArgs false
set_option maxRecDepth 100000
attribute [local irreducible] wpV wpList Code.wp

structure lineIS (w0 : World) (t0_ t1_ t2_ t3_ t5_ t6_ t7_ t8_ t9_ t17_ t18_ t19_ t20_ t21_ t22_ t23_ t24_ t25_ t26_ t27_ t28_ t29_ t30_ t31_ t32_ t33_ : Value) (m : Nat) (d : Array Bool) (a : Act) (w : World) where
  u4 : Value
  u10 : Value
  u11 : Value
  u12 : Value
  u13 : Value
  u14 : Value
  u15 : Value
  u16 : Value
  g1 : Nat
  g3 : Nat
  g5 : Nat
  p : Nat
  ea : a = ⟨#[t0_, t1_, t2_, t3_, u4, t5_, t6_, t7_, t8_, t9_, u10, u11, u12, u13, u14, u15, u16, t17_, t18_, t19_, t20_, t21_, t22_, t23_, t24_, t25_, t26_, t27_, t28_, t29_, t30_, t31_, t32_, t33_], []⟩
  f0 : Gd d 0 (u10 = .int .i64 (m : Int))
  f1 : Gd d 1 (u11 = .slice (some ⟨g1, 0, none⟩) m m)
  f2 : Gd d 2 (u12 = .int .i64 (m : Int))
  f3 : Gd d 3 (u13 = .slice (some ⟨g3, 0, none⟩) m m)
  f4 : Gd d 4 (u14 = .int .i64 (m : Int))
  f5 : Gd d 5 (u15 = .slice (some ⟨g5, 0, none⟩) m m)
  f6 : Gd d 6 (u16 = .agg #[.slice (some ⟨g1, 0, none⟩) m m, .slice (some ⟨g3, 0, none⟩) m m, .slice (some ⟨g5, 0, none⟩) m m])
  f7 : Gd d 7 (u4 = .pointer (some ⟨p, 0, none⟩))
  r1 : Gd d 1 (w.ownsRow w0.heap.size 2 1 (.slice (some ⟨g1, 0, none⟩) m m) m (List.replicate m (.int .i64 0)))
  r3 : Gd d 3 (w.ownsRow w0.heap.size 42 4 (.slice (some ⟨g3, 0, none⟩) m m) m (List.replicate (m * 4) (.int .i64 0)))
  r5 : Gd d 5 (w.ownsRow w0.heap.size 2 1 (.slice (some ⟨g5, 0, none⟩) m m) m (List.replicate m (.int .i64 0)))
  s8 : Gd d 7 (p < w.heap.size ∧ w0.heap.size ≤ p)
  b8 : Gd d 7 (Ng d 8 (Bw w p [.slice none 0 0, .slice none 0 0, .slice none 0 0]))
  b9 : Gd d 8 (Bw w p [.slice (some ⟨g1, 0, none⟩) m m, .slice (some ⟨g3, 0, none⟩) m m, .slice (some ⟨g5, 0, none⟩) m m])
  n1_3 : Gd d 1 (Gd d 3 (g1 ≠ g3))
  n1_5 : Gd d 1 (Gd d 5 (g1 ≠ g5))
  n1_7 : Gd d 1 (Gd d 7 (g1 ≠ p))
  n3_5 : Gd d 3 (Gd d 5 (g3 ≠ g5))
  n3_7 : Gd d 3 (Gd d 7 (g3 ≠ p))
  n5_7 : Gd d 5 (Gd d 7 (g5 ≠ p))
  hbel : Below w0.heap.size w0 w
def lineI (w0 : World) (t0_ t1_ t2_ t3_ t5_ t6_ t7_ t8_ t9_ t17_ t18_ t19_ t20_ t21_ t22_ t23_ t24_ t25_ t26_ t27_ t28_ t29_ t30_ t31_ t32_ t33_ : Value) (m : Nat) (d : Array Bool) (a : Act) (w : World) : Prop := Nonempty (lineIS w0 t0_ t1_ t2_ t3_ t5_ t6_ t7_ t8_ t9_ t17_ t18_ t19_ t20_ t21_ t22_ t23_ t24_ t25_ t26_ t27_ t28_ t29_ t30_ t31_ t32_ t33_ m d a w)

set_option maxHeartbeats 8000000 in
theorem lineRiver_i (n : Int) (w : World) :
    Calls Try.prog 23 #[.int .i64 n] w (RivP (lineR n) w) := by
  obtain ⟨Q, hQ⟩ : ∃ Q, lineR n = Q := ⟨_, rfl⟩
  rw [hQ]
  have HQ := Lib.hid hQ
  clear hQ
  go_enter Try.func23, Try.ntmps23
  go_wp2_with fail
  refine (isNodeCount_any n _).mono ?_
  rintro e w' ⟨bb, hbb, rfl, rfl⟩
  have HC := Lib.hid hbb
  clear hbb
  cases bb
  · have hv : Q = failR := by rw [← HQ.out]; unfold lineR; rw [HC.out]; rfl
    have HV := Lib.hid hv
    clear hv
    go_wp2_with fail
    rw [HV.out]
    exact bodyPost_ret (v := .tuple #[.agg #[.slice none 0 0, .slice none 0 0, .slice none 0 0], .bool false]) (by first | (simp [results, Try.results23, go_sem]; done) | (simp (maxDischargeDepth := 12) [results, Try.results23, go_sem]; done) | (simp (maxDischargeDepth := 12) [results, Try.results23, go_sem]; rfl)) rfl (RivP.no (by repeat (first | with_reducible exact Below.refl _ _ | with_reducible refine beld ?_ _ | (with_reducible refine Below.alloc ?_ ?_ _; rotate_left; exact (by first | (simp; done) | (simp; omega) | omega)) | (with_reducible refine Below.setCell ?_ ?_ _; rotate_left; exact (by first | (simp; done) | (simp; omega) | omega)))))
  have hcc := HC.out
  rw [Bool.and_eq_true, decide_eq_true_eq, decide_eq_true_eq] at hcc
  obtain ⟨m, rfl⟩ := Int.eq_ofNat_of_zero_le (show 0 ≤ n by omega)
  have hmm : m ≤ 1048576 := by omega
  have hm1 : 1 ≤ m := by omega
  have hm12 : m ≤ 12 := by omega
  clear hcc
  go_wp2_with fail
  generalize hw0 : World.alloc w _ = w0
  have bw0 : Bw w0 w.heap.size [.slice none 0 0, .slice none 0 0, .slice none 0 0] := by rw [← hw0]; exact Bw.new w _ _
  have hB0 : Below w.heap.size w w0 := by rw [← hw0]; exact bel1 _ _
  have hs0 : w0.heap.size = w.heap.size + 1 := by rw [← hw0]; simp
  have BW0 := Lib.hid bw0
  have HB0 := Lib.hid hB0
  have HS0 := Lib.hid hs0
  clear bw0 hB0 hw0 hs0
  refine wp_region_inv (id := 3) (lineI (w0) _ _ _ _ _ _ _ _ _ _ _ _ _ _ _ _ _ _ _ _ _ _ _ _ _ _ m) (by kernel_rfl) (by kernel_rfl) ⟨⟨_, _, _, _, _, _, _, _, 0, 0, 0, 0, rfl, .start, .start, .start, .start, .start, .start, .start, .start, .start, .start, .start, .start, .start, .start, .start, .start, .start, .start, .start, .start, beld (Below.refl _ _) 1⟩⟩ ?hend1 ?hsteps1
  rotate_left
  case hsteps1 =>
    refine .cons 1 rfl ?_ ?_
    · intro d a w9 hsz hcl hinv hd hdep
      obtain ⟨⟨u4, u10, u11, u12, u13, u14, u15, u16, g1, g3, g5, p, rfl, f0, f1, f2, f3, f4, f5, f6, f7, r1, r3, r5, s8, b8, b9, n1_3, n1_5, n1_7, n3_5, n3_7, n5_7, hbel⟩⟩ := hinv
      go_wp2_with fail
      exact ⟨⟨u4, (.int .i64 (m : Int)), u11, u12, u13, u14, u15, u16, g1, g3, g5, p, rfl, Gd.new (by first | rfl | simp), (f1.keep (i := 0) (by decide)), (f2.keep (i := 0) (by decide)), (f3.keep (i := 0) (by decide)), (f4.keep (i := 0) (by decide)), (f5.keep (i := 0) (by decide)), (f6.keep (i := 0) (by decide)), (f7.keep (i := 0) (by decide)), (r1.keep (i := 0) (by decide)), (r3.keep (i := 0) (by decide)), (r5.keep (i := 0) (by decide)), (s8.keep (i := 0) (by decide)), (Gd.keep (i := 0) (b8.imp fun h => Ng.keep (i := 0) h (by decide)) (by decide)), (b9.keep (i := 0) (by decide)), (Gd.keep (i := 0) (n1_3.imp fun h => Gd.keep (i := 0) h (by decide)) (by decide)), (Gd.keep (i := 0) (n1_5.imp fun h => Gd.keep (i := 0) h (by decide)) (by decide)), (Gd.keep (i := 0) (n1_7.imp fun h => Gd.keep (i := 0) h (by decide)) (by decide)), (Gd.keep (i := 0) (n3_5.imp fun h => Gd.keep (i := 0) h (by decide)) (by decide)), (Gd.keep (i := 0) (n3_7.imp fun h => Gd.keep (i := 0) h (by decide)) (by decide)), (Gd.keep (i := 0) (n5_7.imp fun h => Gd.keep (i := 0) h (by decide)) (by decide)), hbel⟩⟩
    refine .cons 2 rfl ?_ ?_
    · intro d a w9 hsz hcl hinv hd hdep
      obtain ⟨⟨u4, u10, u11, u12, u13, u14, u15, u16, g1, g3, g5, p, rfl, f0, f1, f2, f3, f4, f5, f6, f7, r1, r3, r5, s8, b8, b9, n1_3, n1_5, n1_7, n3_5, n3_7, n5_7, hbel⟩⟩ := hinv
      have e0 := f0 (hdep.get 0 rfl)
      subst e0
      have nb := hcl.not hd 6 _ rfl rfl
      have ns := hcl.not nb 8 _ rfl rfl
      go_wp2_with (at_make; refine makeZ rfl rfl _ _ rfl .i64 .i64 _ _ m rfl rfl rfl rfl hmm (lo := w0.heap.size) hbel.size ?_)
      intro w8 hown hgrow
      have hb8 : Below w9.heap.size w9 w8 := below_made (Below.refl _ _) hgrow (Nat.le_refl _)
      have hz8 : w9.heap.size ≤ w8.heap.size := hb8.size
      go_wp2_with fail
      exact ⟨⟨u4, (.int .i64 (m : Int)), (.slice (some ⟨w9.heap.size, 0, none⟩) m m), u12, u13, u14, u15, u16, w9.heap.size, g3, g5, p, rfl, Gd.new rfl, Gd.new (by first | rfl | simp), (f2.keep (i := 1) (by decide)), (f3.keep (i := 1) (by decide)), (f4.keep (i := 1) (by decide)), (f5.keep (i := 1) (by decide)), (Gd.undone (i := 1) nb (by decide)), (f7.keep (i := 1) (by decide)), Gd.new hown, ((r3.imp fun h => owns_made h hgrow).keep (i := 1) (by decide)), ((r5.imp fun h => owns_made h hgrow).keep (i := 1) (by decide)), ((s8.imp fun h => ⟨Nat.lt_of_lt_of_le h.1 hz8, h.2⟩).keep (i := 1) (by decide)), (Gd.keep (i := 1) (Gd.imp2 s8 b8 fun hs hb => Ng.keep (i := 1) (hb.imp fun h => h.below hb8 hs.1) (by decide)) (by decide)), (Gd.undone (i := 1) ns (by decide)), (fun _ hj => (by rw [set_ne (by decide)] at hj; have h9 := ((r3 hj).lt g3 rfl).2; omega)), (fun _ hj => (by rw [set_ne (by decide)] at hj; have h9 := ((r5 hj).lt g5 rfl).2; omega)), (fun _ hj => (by rw [set_ne (by decide)] at hj; have h9 := (s8 hj).1; omega)), (Gd.keep (i := 1) (n3_5.imp fun h => Gd.keep (i := 1) h (by decide)) (by decide)), (Gd.keep (i := 1) (n3_7.imp fun h => Gd.keep (i := 1) h (by decide)) (by decide)), (Gd.keep (i := 1) (n5_7.imp fun h => Gd.keep (i := 1) h (by decide)) (by decide)), (below_made hbel hgrow hbel.size)⟩⟩
    refine .cons 3 rfl ?_ ?_
    · intro d a w9 hsz hcl hinv hd hdep
      obtain ⟨⟨u4, u10, u11, u12, u13, u14, u15, u16, g1, g3, g5, p, rfl, f0, f1, f2, f3, f4, f5, f6, f7, r1, r3, r5, s8, b8, b9, n1_3, n1_5, n1_7, n3_5, n3_7, n5_7, hbel⟩⟩ := hinv
      go_wp2_with fail
      exact ⟨⟨u4, u10, u11, (.int .i64 (m : Int)), u13, u14, u15, u16, g1, g3, g5, p, rfl, (f0.keep (i := 2) (by decide)), (f1.keep (i := 2) (by decide)), Gd.new (by first | rfl | simp), (f3.keep (i := 2) (by decide)), (f4.keep (i := 2) (by decide)), (f5.keep (i := 2) (by decide)), (f6.keep (i := 2) (by decide)), (f7.keep (i := 2) (by decide)), (r1.keep (i := 2) (by decide)), (r3.keep (i := 2) (by decide)), (r5.keep (i := 2) (by decide)), (s8.keep (i := 2) (by decide)), (Gd.keep (i := 2) (b8.imp fun h => Ng.keep (i := 2) h (by decide)) (by decide)), (b9.keep (i := 2) (by decide)), (Gd.keep (i := 2) (n1_3.imp fun h => Gd.keep (i := 2) h (by decide)) (by decide)), (Gd.keep (i := 2) (n1_5.imp fun h => Gd.keep (i := 2) h (by decide)) (by decide)), (Gd.keep (i := 2) (n1_7.imp fun h => Gd.keep (i := 2) h (by decide)) (by decide)), (Gd.keep (i := 2) (n3_5.imp fun h => Gd.keep (i := 2) h (by decide)) (by decide)), (Gd.keep (i := 2) (n3_7.imp fun h => Gd.keep (i := 2) h (by decide)) (by decide)), (Gd.keep (i := 2) (n5_7.imp fun h => Gd.keep (i := 2) h (by decide)) (by decide)), hbel⟩⟩
    refine .cons 4 rfl ?_ ?_
    · intro d a w9 hsz hcl hinv hd hdep
      obtain ⟨⟨u4, u10, u11, u12, u13, u14, u15, u16, g1, g3, g5, p, rfl, f0, f1, f2, f3, f4, f5, f6, f7, r1, r3, r5, s8, b8, b9, n1_3, n1_5, n1_7, n3_5, n3_7, n5_7, hbel⟩⟩ := hinv
      have e2 := f2 (hdep.get 2 rfl)
      subst e2
      have nb := hcl.not hd 6 _ rfl rfl
      have ns := hcl.not nb 8 _ rfl rfl
      go_wp2_with (at_make; refine makeD rfl rfl _ _ rfl .i64 .i64 _ _ m rfl rfl rfl rfl hmm (lo := w0.heap.size) hbel.size ?_)
      intro w8 hown hgrow
      have hb8 : Below w9.heap.size w9 w8 := below_made (Below.refl _ _) hgrow (Nat.le_refl _)
      have hz8 : w9.heap.size ≤ w8.heap.size := hb8.size
      go_wp2_with fail
      exact ⟨⟨u4, u10, u11, (.int .i64 (m : Int)), (.slice (some ⟨w9.heap.size, 0, none⟩) m m), u14, u15, u16, g1, w9.heap.size, g5, p, rfl, (f0.keep (i := 3) (by decide)), (f1.keep (i := 3) (by decide)), Gd.new rfl, Gd.new (by first | rfl | simp), (f4.keep (i := 3) (by decide)), (f5.keep (i := 3) (by decide)), (Gd.undone (i := 3) nb (by decide)), (f7.keep (i := 3) (by decide)), ((r1.imp fun h => owns_made h hgrow).keep (i := 3) (by decide)), Gd.new hown, ((r5.imp fun h => owns_made h hgrow).keep (i := 3) (by decide)), ((s8.imp fun h => ⟨Nat.lt_of_lt_of_le h.1 hz8, h.2⟩).keep (i := 3) (by decide)), (Gd.keep (i := 3) (Gd.imp2 s8 b8 fun hs hb => Ng.keep (i := 3) (hb.imp fun h => h.below hb8 hs.1) (by decide)) (by decide)), (Gd.undone (i := 3) ns (by decide)), (fun hj _ => (by rw [set_ne (by decide)] at hj; have h9 := ((r1 hj).lt g1 rfl).2; omega)), (Gd.keep (i := 3) (n1_5.imp fun h => Gd.keep (i := 3) h (by decide)) (by decide)), (Gd.keep (i := 3) (n1_7.imp fun h => Gd.keep (i := 3) h (by decide)) (by decide)), (fun _ hj => (by rw [set_ne (by decide)] at hj; have h9 := ((r5 hj).lt g5 rfl).2; omega)), (fun _ hj => (by rw [set_ne (by decide)] at hj; have h9 := (s8 hj).1; omega)), (Gd.keep (i := 3) (n5_7.imp fun h => Gd.keep (i := 3) h (by decide)) (by decide)), (below_made hbel hgrow hbel.size)⟩⟩
    refine .cons 5 rfl ?_ ?_
    · intro d a w9 hsz hcl hinv hd hdep
      obtain ⟨⟨u4, u10, u11, u12, u13, u14, u15, u16, g1, g3, g5, p, rfl, f0, f1, f2, f3, f4, f5, f6, f7, r1, r3, r5, s8, b8, b9, n1_3, n1_5, n1_7, n3_5, n3_7, n5_7, hbel⟩⟩ := hinv
      go_wp2_with fail
      exact ⟨⟨u4, u10, u11, u12, u13, (.int .i64 (m : Int)), u15, u16, g1, g3, g5, p, rfl, (f0.keep (i := 4) (by decide)), (f1.keep (i := 4) (by decide)), (f2.keep (i := 4) (by decide)), (f3.keep (i := 4) (by decide)), Gd.new (by first | rfl | simp), (f5.keep (i := 4) (by decide)), (f6.keep (i := 4) (by decide)), (f7.keep (i := 4) (by decide)), (r1.keep (i := 4) (by decide)), (r3.keep (i := 4) (by decide)), (r5.keep (i := 4) (by decide)), (s8.keep (i := 4) (by decide)), (Gd.keep (i := 4) (b8.imp fun h => Ng.keep (i := 4) h (by decide)) (by decide)), (b9.keep (i := 4) (by decide)), (Gd.keep (i := 4) (n1_3.imp fun h => Gd.keep (i := 4) h (by decide)) (by decide)), (Gd.keep (i := 4) (n1_5.imp fun h => Gd.keep (i := 4) h (by decide)) (by decide)), (Gd.keep (i := 4) (n1_7.imp fun h => Gd.keep (i := 4) h (by decide)) (by decide)), (Gd.keep (i := 4) (n3_5.imp fun h => Gd.keep (i := 4) h (by decide)) (by decide)), (Gd.keep (i := 4) (n3_7.imp fun h => Gd.keep (i := 4) h (by decide)) (by decide)), (Gd.keep (i := 4) (n5_7.imp fun h => Gd.keep (i := 4) h (by decide)) (by decide)), hbel⟩⟩
    refine .cons 6 rfl ?_ ?_
    · intro d a w9 hsz hcl hinv hd hdep
      obtain ⟨⟨u4, u10, u11, u12, u13, u14, u15, u16, g1, g3, g5, p, rfl, f0, f1, f2, f3, f4, f5, f6, f7, r1, r3, r5, s8, b8, b9, n1_3, n1_5, n1_7, n3_5, n3_7, n5_7, hbel⟩⟩ := hinv
      have e4 := f4 (hdep.get 4 rfl)
      subst e4
      have nb := hcl.not hd 6 _ rfl rfl
      have ns := hcl.not nb 8 _ rfl rfl
      go_wp2_with (at_make; refine makeZ rfl rfl _ _ rfl .i64 .i64 _ _ m rfl rfl rfl rfl hmm (lo := w0.heap.size) hbel.size ?_)
      intro w8 hown hgrow
      have hb8 : Below w9.heap.size w9 w8 := below_made (Below.refl _ _) hgrow (Nat.le_refl _)
      have hz8 : w9.heap.size ≤ w8.heap.size := hb8.size
      go_wp2_with fail
      exact ⟨⟨u4, u10, u11, u12, u13, (.int .i64 (m : Int)), (.slice (some ⟨w9.heap.size, 0, none⟩) m m), u16, g1, g3, w9.heap.size, p, rfl, (f0.keep (i := 5) (by decide)), (f1.keep (i := 5) (by decide)), (f2.keep (i := 5) (by decide)), (f3.keep (i := 5) (by decide)), Gd.new rfl, Gd.new (by first | rfl | simp), (Gd.undone (i := 5) nb (by decide)), (f7.keep (i := 5) (by decide)), ((r1.imp fun h => owns_made h hgrow).keep (i := 5) (by decide)), ((r3.imp fun h => owns_made h hgrow).keep (i := 5) (by decide)), Gd.new hown, ((s8.imp fun h => ⟨Nat.lt_of_lt_of_le h.1 hz8, h.2⟩).keep (i := 5) (by decide)), (Gd.keep (i := 5) (Gd.imp2 s8 b8 fun hs hb => Ng.keep (i := 5) (hb.imp fun h => h.below hb8 hs.1) (by decide)) (by decide)), (Gd.undone (i := 5) ns (by decide)), (Gd.keep (i := 5) (n1_3.imp fun h => Gd.keep (i := 5) h (by decide)) (by decide)), (fun hj _ => (by rw [set_ne (by decide)] at hj; have h9 := ((r1 hj).lt g1 rfl).2; omega)), (Gd.keep (i := 5) (n1_7.imp fun h => Gd.keep (i := 5) h (by decide)) (by decide)), (fun hj _ => (by rw [set_ne (by decide)] at hj; have h9 := ((r3 hj).lt g3 rfl).2; omega)), (Gd.keep (i := 5) (n3_7.imp fun h => Gd.keep (i := 5) h (by decide)) (by decide)), (fun _ hj => (by rw [set_ne (by decide)] at hj; have h9 := (s8 hj).1; omega)), (below_made hbel hgrow hbel.size)⟩⟩
    refine .cons 7 rfl ?_ ?_
    · intro d a w9 hsz hcl hinv hd hdep
      obtain ⟨⟨u4, u10, u11, u12, u13, u14, u15, u16, g1, g3, g5, p, rfl, f0, f1, f2, f3, f4, f5, f6, f7, r1, r3, r5, s8, b8, b9, n1_3, n1_5, n1_7, n3_5, n3_7, n5_7, hbel⟩⟩ := hinv
      have e1 := f1 (hdep.get 1 rfl)
      subst e1
      have e3 := f3 (hdep.get 3 rfl)
      subst e3
      have e5 := f5 (hdep.get 5 rfl)
      subst e5
      go_wp2_with fail
      exact ⟨⟨u4, u10, (.slice (some ⟨g1, 0, none⟩) m m), u12, (.slice (some ⟨g3, 0, none⟩) m m), u14, (.slice (some ⟨g5, 0, none⟩) m m), (.agg #[.slice (some ⟨g1, 0, none⟩) m m, .slice (some ⟨g3, 0, none⟩) m m, .slice (some ⟨g5, 0, none⟩) m m]), g1, g3, g5, p, rfl, (f0.keep (i := 6) (by decide)), Gd.new rfl, (f2.keep (i := 6) (by decide)), Gd.new rfl, (f4.keep (i := 6) (by decide)), Gd.new rfl, Gd.new (by first | rfl | simp), (f7.keep (i := 6) (by decide)), (r1.keep (i := 6) (by decide)), (r3.keep (i := 6) (by decide)), (r5.keep (i := 6) (by decide)), (s8.keep (i := 6) (by decide)), (Gd.keep (i := 6) (b8.imp fun h => Ng.keep (i := 6) h (by decide)) (by decide)), (b9.keep (i := 6) (by decide)), (Gd.keep (i := 6) (n1_3.imp fun h => Gd.keep (i := 6) h (by decide)) (by decide)), (Gd.keep (i := 6) (n1_5.imp fun h => Gd.keep (i := 6) h (by decide)) (by decide)), (Gd.keep (i := 6) (n1_7.imp fun h => Gd.keep (i := 6) h (by decide)) (by decide)), (Gd.keep (i := 6) (n3_5.imp fun h => Gd.keep (i := 6) h (by decide)) (by decide)), (Gd.keep (i := 6) (n3_7.imp fun h => Gd.keep (i := 6) h (by decide)) (by decide)), (Gd.keep (i := 6) (n5_7.imp fun h => Gd.keep (i := 6) h (by decide)) (by decide)), hbel⟩⟩
    refine .cons 8 rfl ?_ ?_
    · intro d a w9 hsz hcl hinv hd hdep
      obtain ⟨⟨u4, u10, u11, u12, u13, u14, u15, u16, g1, g3, g5, p, rfl, f0, f1, f2, f3, f4, f5, f6, f7, r1, r3, r5, s8, b8, b9, n1_3, n1_5, n1_7, n3_5, n3_7, n5_7, hbel⟩⟩ := hinv
      have ns := hcl.not hd 8 _ rfl rfl
      go_wp2_with fail
      exact ⟨⟨(.pointer (some ⟨w9.heap.size, 0, none⟩)), u10, u11, u12, u13, u14, u15, u16, g1, g3, g5, w9.heap.size, rfl, (f0.keep (i := 7) (by decide)), (f1.keep (i := 7) (by decide)), (f2.keep (i := 7) (by decide)), (f3.keep (i := 7) (by decide)), (f4.keep (i := 7) (by decide)), (f5.keep (i := 7) (by decide)), (f6.keep (i := 7) (by decide)), Gd.new (by first | rfl | simp), ((r1.imp fun h => h.alloc _).keep (i := 7) (by decide)), ((r3.imp fun h => h.alloc _).keep (i := 7) (by decide)), ((r5.imp fun h => h.alloc _).keep (i := 7) (by decide)), Gd.new ⟨by simp, hbel.size⟩, Gd.new (fun _ => Bw.new w9 [.slice none 0 0, .slice none 0 0, .slice none 0 0] _), (Gd.undone (i := 7) ns (by decide)), (Gd.keep (i := 7) (n1_3.imp fun h => Gd.keep (i := 7) h (by decide)) (by decide)), (Gd.keep (i := 7) (n1_5.imp fun h => Gd.keep (i := 7) h (by decide)) (by decide)), (fun hj _ => (by rw [set_ne (by decide)] at hj; have h9 := ((r1 hj).lt g1 rfl).2; omega)), (Gd.keep (i := 7) (n3_5.imp fun h => Gd.keep (i := 7) h (by decide)) (by decide)), (fun hj _ => (by rw [set_ne (by decide)] at hj; have h9 := ((r3 hj).lt g3 rfl).2; omega)), (fun hj _ => (by rw [set_ne (by decide)] at hj; have h9 := ((r5 hj).lt g5 rfl).2; omega)), (hbel.alloc hbel.size _)⟩⟩
    refine .cons 9 rfl ?_ trivial
    · intro d a w9 hsz hcl hinv hd hdep
      obtain ⟨⟨u4, u10, u11, u12, u13, u14, u15, u16, g1, g3, g5, p, rfl, f0, f1, f2, f3, f4, f5, f6, f7, r1, r3, r5, s8, b8, b9, n1_3, n1_5, n1_7, n3_5, n3_7, n5_7, hbel⟩⟩ := hinv
      have e7 := f7 (hdep.get 7 rfl)
      subst e7
      have e6 := f6 (hdep.get 6 rfl)
      subst e6
      have hbp := b8 (hdep.get 7 rfl) hd
      have hc0 := hbp.c 0 rfl
      have hc1 := hbp.c 1 rfl
      have hc2 := hbp.c 2 rfl
      have hf0 := hbp.f 0 (by simp)
      have hf1 := hbp.f 1 (by simp)
      have hf2 := hbp.f 2 (by simp)
      have hp9 := s8 (hdep.get 7 rfl)
      have dd1 := (hcl 6 _ rfl (hdep.get 6 rfl)).get 1 rfl
      have dd3 := (hcl 6 _ rfl (hdep.get 6 rfl)).get 3 rfl
      have dd5 := (hcl 6 _ rfl (hdep.get 6 rfl)).get 5 rfl
      have hn1 := n1_7 (dd1) (hdep.get 7 rfl)
      have hn3 := n3_7 (dd3) (hdep.get 7 rfl)
      have hn5 := n5_7 (dd5) (hdep.get 7 rfl)
      go_wp2_with fail
      exact ⟨⟨(.pointer (some ⟨p, 0, none⟩)), u10, u11, u12, u13, u14, u15, (.agg #[.slice (some ⟨g1, 0, none⟩) m m, .slice (some ⟨g3, 0, none⟩) m m, .slice (some ⟨g5, 0, none⟩) m m]), g1, g3, g5, p, rfl, (f0.keep (i := 8) (by decide)), (f1.keep (i := 8) (by decide)), (f2.keep (i := 8) (by decide)), (f3.keep (i := 8) (by decide)), (f4.keep (i := 8) (by decide)), (f5.keep (i := 8) (by decide)), Gd.new rfl, Gd.new rfl, ((r1.imp fun h => (owns_far (owns_far (owns_far h (by simp [Value.ownBlock]; exact hn1) (.slice (some ⟨g1, 0, none⟩) m m)) (by simp [Value.ownBlock]; exact hn1) (.slice (some ⟨g3, 0, none⟩) m m)) (by simp [Value.ownBlock]; exact hn1) (.slice (some ⟨g5, 0, none⟩) m m))).keep (i := 8) (by decide)), ((r3.imp fun h => (owns_far (owns_far (owns_far h (by simp [Value.ownBlock]; exact hn3) (.slice (some ⟨g1, 0, none⟩) m m)) (by simp [Value.ownBlock]; exact hn3) (.slice (some ⟨g3, 0, none⟩) m m)) (by simp [Value.ownBlock]; exact hn3) (.slice (some ⟨g5, 0, none⟩) m m))).keep (i := 8) (by decide)), ((r5.imp fun h => (owns_far (owns_far (owns_far h (by simp [Value.ownBlock]; exact hn5) (.slice (some ⟨g1, 0, none⟩) m m)) (by simp [Value.ownBlock]; exact hn5) (.slice (some ⟨g3, 0, none⟩) m m)) (by simp [Value.ownBlock]; exact hn5) (.slice (some ⟨g5, 0, none⟩) m m))).keep (i := 8) (by decide)), ((s8.imp fun h => ⟨by simp; exact h.1, h.2⟩).keep (i := 8) (by decide)), (Gd.keep (i := 8) (b8.imp fun h => Ng.new (by rw [hsz]; exact (by decide : 8 < 9))) (by decide)), Gd.new (((hbp.put 0 (by simp) (.slice (some ⟨g1, 0, none⟩) m m)).put 1 (by simp) (.slice (some ⟨g3, 0, none⟩) m m)).put 2 (by simp) (.slice (some ⟨g5, 0, none⟩) m m)), (Gd.keep (i := 8) (n1_3.imp fun h => Gd.keep (i := 8) h (by decide)) (by decide)), (Gd.keep (i := 8) (n1_5.imp fun h => Gd.keep (i := 8) h (by decide)) (by decide)), (Gd.keep (i := 8) (n1_7.imp fun h => Gd.keep (i := 8) h (by decide)) (by decide)), (Gd.keep (i := 8) (n3_5.imp fun h => Gd.keep (i := 8) h (by decide)) (by decide)), (Gd.keep (i := 8) (n3_7.imp fun h => Gd.keep (i := 8) h (by decide)) (by decide)), (Gd.keep (i := 8) (n5_7.imp fun h => Gd.keep (i := 8) h (by decide)) (by decide)), (((hbel.setCell hp9.2 _).setCell hp9.2 _).setCell hp9.2 _)⟩⟩
  case hend1 =>
    intro d a w9 hinv hall
    obtain ⟨⟨u4, u10, u11, u12, u13, u14, u15, u16, g1, g3, g5, p, rfl, f0, f1, f2, f3, f4, f5, f6, f7, r1, r3, r5, s8, b8, b9, n1_3, n1_5, n1_7, n3_5, n3_7, n5_7, hbel⟩⟩ := hinv
    have e7 := f7 (hall 7 (by decide))
    subst e7
    have R1 := Lib.hid (r1 (hall 1 (by decide)))
    have R3 := Lib.hid (r3 (hall 3 (by decide)))
    have R5 := Lib.hid (r5 (hall 5 (by decide)))
    have HP := Lib.hid (b9 (hall 8 (by decide)))
    have HS := Lib.hid (s8 (hall 7 (by decide)))
    have N1_3 := Lib.hid (n1_3 (hall 1 (by decide)) (hall 3 (by decide)))
    have N1_5 := Lib.hid (n1_5 (hall 1 (by decide)) (hall 5 (by decide)))
    have N1_7 := Lib.hid (n1_7 (hall 1 (by decide)) (hall 7 (by decide)))
    have N3_5 := Lib.hid (n3_5 (hall 3 (by decide)) (hall 5 (by decide)))
    have N3_7 := Lib.hid (n3_7 (hall 3 (by decide)) (hall 7 (by decide)))
    have N5_7 := Lib.hid (n5_7 (hall 5 (by decide)) (hall 7 (by decide)))
    have HBL := Lib.hid hbel
    clear f0 f1 f2 f3 f4 f5 f6 f7 r1 r3 r5 s8 b8 b9 n1_3 n1_5 n1_7 n3_5 n3_7 n5_7 hbel
    have HB9 : Hid (Below w.heap.size w w9) := Lib.hid (HB0.out.trans (HBL.out.mono HB0.out.size))
    have BW9 : Hid (Bw w9 w.heap.size [.slice none 0 0, .slice none 0 0, .slice none 0 0]) := Lib.hid (BW0.out.below HBL.out BW0.out.1.1)
    have HPL : Hid (w.heap.size < p ∧ p < w9.heap.size) := Lib.hid (by have h9 := HS.out; have h8 := HS0.out; omega)
    have G1 := Lib.hid (R1.out.lt g1 rfl)
    have G3 := Lib.hid (R3.out.lt g3 rfl)
    have G5 := Lib.hid (R5.out.lt g5 rfl)
    have HG : Hid (w.heap.size < g1 ∧ w.heap.size < g3 ∧ w.heap.size < g5 ∧ w.heap.size + 1 ≤ w0.heap.size) := Lib.hid (by have h1 := G1.out.1; have h3 := G3.out.1; have h5 := G5.out.1; have h8 := HS0.out; omega)
    clear HBL HS G1 G3 G5 HB0 BW0 HS0
    have R1' : Hid (w9.ownsRow w0.heap.size 2 1 (.slice (some ⟨g1, 0, none⟩) m m) m (ic (lineTo m 0))) := Lib.hid (by rw [lineTo_zero, ic_replicate]; exact R1.out)
    clear R1
    obtain ⟨l0, hl0⟩ : ∃ l, w0.heap.size = l := ⟨_, rfl⟩
    rw [hl0] at R1' R3 R5 HG
    clear hl0
    have hx0 := HP.out.c 0 rfl
    have hx1 := HP.out.c 1 rfl
    have hx2 := HP.out.c 2 rfl
    clear hx0 hx1 hx2
    go_wp2_with fail
    go_loopw [18] (fun iv wr => ∃ k : Nat, k ≤ m ∧ iv = .int .i64 k ∧ Hid (wr.ownsRow l0 2 1 (.slice (some ⟨g1, 0, none⟩) m m) m (ic (lineTo m k))) ∧ Hid (wr.ownsRow l0 42 4 (.slice (some ⟨g3, 0, none⟩) m m) m (List.replicate (m * 4) (.int .i64 0))) ∧ Hid (wr.ownsRow l0 2 1 (.slice (some ⟨g5, 0, none⟩) m m) m (List.replicate m (.int .i64 0))) ∧ Hid (Bw wr p [.slice (some ⟨g1, 0, none⟩) m m, .slice (some ⟨g3, 0, none⟩) m m, .slice (some ⟨g5, 0, none⟩) m m]) ∧ Hid (Bw wr w.heap.size [.slice none 0 0, .slice none 0 0, .slice none 0 0]) ∧ Hid (Below w.heap.size w wr)) (fun iv _ => m - (intOf iv).toNat)
    case atStart => exact ⟨0, Nat.zero_le _, rfl, R1', R3, R5, HP, BW9, HB9⟩
    case round =>
      clear R1' R3 R5 HP BW9 HB9
      obtain ⟨k, hk, rfl, R1, R3, R5, HP, BW9, HB9⟩ := hrel
      have hk0 : (0 : Int) ≤ (k : Int) := by omega
      have hx0 := HP.out.c 0 rfl
      have hx1 := HP.out.c 1 rfl
      have hx2 := HP.out.c 2 rfl
      by_cases hlt : k < m
      · have hk1 : (k : Int) < (m : Int) := by omega
        obtain ⟨z, hz⟩ : ∃ z, (ic (lineTo m k))[k]? = some z := ⟨_, List.getElem?_eq_getElem (by rw [ic_length, lineTo_length hk]; exact hlt)⟩
        have hc1 : wr.cell? ⟨g1, k, none⟩ = some z := by rw [R1.out.cellAt k (by omega)]; exact hz
        have hf1 := R1.out.frozenAt k
        have hst := (R1.out.stored k (.int .i64 ((k + 1 : Nat) : Int))).1
        rw [← ic_set, lineTo_set hlt] at hst
        have Hst := Lib.hid hst
        clear hst hz
        have hcast : ((k + 1 : Nat) : Int) = (k : Int) + 1 := by omega
        go_wp2_with fail
        go_roundw
        case rel =>
          have hn1 := N1_3.out; have hn2 := N1_5.out; have hn3 := N1_7.out; have hg := HG.out
          exact ⟨k + 1, by omega, by go_num, Hst, Lib.hid (owns_far R3.out (by simp [Value.ownBlock]; exact fun e => hn1 e.symm) _), Lib.hid (owns_far R5.out (by simp [Value.ownBlock]; exact fun e => hn2 e.symm) _), Lib.hid (HP.out.setOther (by exact hn3) _), Lib.hid (BW9.out.setOther (by show g1 ≠ w.heap.size; omega) _), Lib.hid (HB9.out.setCell (by show w.heap.size ≤ g1; omega) _)⟩
        case measure => simp [intOf]; omega
      · obtain rfl : k = m := by omega
        obtain ⟨q, rfl⟩ : ∃ q, k = q + 1 := ⟨k - 1, by omega⟩
        obtain ⟨z, hz⟩ : ∃ z, (ic (lineTo (q + 1) (q + 1)))[q]? = some z := ⟨_, List.getElem?_eq_getElem (by rw [ic_length, lineTo_length (Nat.le_refl _)]; omega)⟩
        have hc1 : wr.cell? ⟨g1, q, none⟩ = some z := by rw [R1.out.cellAt q (by omega)]; exact hz
        have hf1 := R1.out.frozenAt q
        have hst := (R1.out.stored q (.int .i64 (-1))).1
        rw [← ic_set, lineTo_last] at hst
        have Hst := Lib.hid hst
        clear hst hz
        have hcast : ((q + 1 : Nat) : Int) = (q : Int) + 1 := by omega
        have hcast1 : ((q : Int) + 1 - 1) = (q : Int) := by omega
        have hi1 : IntKind.i64.wrap (q : Int) = (q : Int) := IntWalk.i64_in _ (by omega)
        have hq0 : (0 : Int) ≤ (q : Int) := by omega
        have hq1 : (q : Int) < (q : Int) + 1 := by omega
        have hb0 := BW9.out.c 0 rfl
        have hb1 := BW9.out.c 1 rfl
        have hb2 := BW9.out.c 2 rfl
        have hd0 := BW9.out.f 0 (by simp)
        have hd1 := BW9.out.f 1 (by simp)
        have hd2 := BW9.out.f 2 (by simp)
        have hgne : ¬ p = g1 := fun e => N1_7.out e.symm
        have hgne2 : ¬ w.heap.size = g1 := by have := HG.out; omega
        have hgne3 : ¬ g1 = w.heap.size := by have := HG.out; omega
        have hgne4 : ¬ w.heap.size = p := by have := HPL.out; omega
        have hgne5 : ¬ p = w.heap.size := by have := HPL.out; omega
        have hv : Q = ⟨q + 1, lineD (q + 1), List.replicate ((q + 1) * 4) 0, List.replicate (q + 1) 0, true⟩ := by rw [← HQ.out]; unfold lineR; rw [HC.out, Int.toNat_natCast]; rfl
        have HV := Lib.hid hv
        clear hv
        go_wp2_with fail
        rw [HV.out]
        have hg := HG.out; have hn1 := N1_3.out; have hn2 := N1_5.out; have hn3 := N3_5.out
        refine bodyPost_ret (v := .tuple #[.agg #[.slice (some ⟨g1, 0, none⟩) (q + 1) (q + 1), .slice (some ⟨g3, 0, none⟩) (q + 1) (q + 1), .slice (some ⟨g5, 0, none⟩) (q + 1) (q + 1)], .bool true]) (by first | (simp [results, Try.results23, go_sem, *]; done) | (simp (maxDischargeDepth := 12) [results, Try.results23, go_sem, *]; done) | (simp (maxDischargeDepth := 12) [results, Try.results23, go_sem, *]; rfl)) rfl (RivP.yes (lo := l0) ?_ ?_ ?_ N1_3.out N1_5.out N3_5.out (by omega) ?_)
        · exact owns_far (owns_far (owns_far Hst.out (by simp [Value.ownBlock]; omega) _) (by simp [Value.ownBlock]; omega) _) (by simp [Value.ownBlock]; omega) _
        · rw [ic_replicate]; exact owns_far (owns_far (owns_far (owns_far R3.out (by simp [Value.ownBlock]; omega) _) (by simp [Value.ownBlock]; omega) _) (by simp [Value.ownBlock]; omega) _) (by simp [Value.ownBlock]; omega) _
        · rw [ic_replicate]; exact owns_far (owns_far (owns_far (owns_far R5.out (by simp [Value.ownBlock]; omega) _) (by simp [Value.ownBlock]; omega) _) (by simp [Value.ownBlock]; omega) _) (by simp [Value.ownBlock]; omega) _
        · exact (((HB9.out.setCell (by show w.heap.size ≤ g1; omega) _).setCell (Nat.le_refl _) _).setCell (Nat.le_refl _) _).setCell (Nat.le_refl _) _

end Go.Proofs.Ytljehplkdofhpaa
