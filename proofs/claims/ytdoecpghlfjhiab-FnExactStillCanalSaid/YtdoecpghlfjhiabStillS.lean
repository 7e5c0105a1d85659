/- Canals at rest: the model. -/
import Derived.Test.YtdoecpghlfjhiabStillI
import Derived.Test.YtdoecpghlfjhiabCanalB
import Derived.Test.YtdoecpghlfjhiabRegionI
import Derived.Test.YtdoecpghlfjhiabIn
namespace Go.Proofs.Ytdoecpghlfjhiab
open Go.RowKit
set_option linter.unusedVariables false
set_option linter.unusedSimpArgs false
set_option maxRecDepth 100000
attribute [local irreducible] wpV wpList Code.wp

theorem Gd.start {n j : Nat} {p : Prop} : Gd (Array.replicate n false) j p := fun h => by rw [getD_replicate_false] at h; cases h
theorem Ng.start {l : Array Bool} {j : Nat} {p : Prop} (h : p) : Ng l j p := fun _ => h
theorem Gd.undone {l : Array Bool} {i j : Nat} {p : Prop} (h : l.getD j false = false) (hne : i ≠ j) : Gd (l.setIfInBounds i true) j p := fun h9 => by rw [set_ne hne, h] at h9; cases h9
theorem StepAll.cons {P : Program} {l : List Oper} {Inv : Array Bool → Act → World → Prop} {k : Nat} {o : Oper} {rest : List Oper} (j : Nat) (hj : k + 1 = j)
    (h : ∀ d a w, d.size = l.length → Closed l d → Inv d a w → d.getD k false = false → Deps d o.after.toList → wpList P l.toArray (QI fun a' w' => Inv (d.setIfInBounds k true) a' w') [o] a w) (hr : StepAll P l Inv j rest) : StepAll P l Inv k (o :: rest) := by
  subst hj; exact ⟨h, hr⟩

structure stillInvS (w0 : World) (t0_ t1_ t2_ t3_ t4_ t5_ t6_ t7_ t8_ t9_ t11_ t12_ t13_ t14_ t23_ t24_ t25_ t26_ : Value) (m n0 n1 n2 : Nat) (d : Array Bool) (a : Act) (w : World) where
  u10 : Value
  u15 : Value
  u16 : Value
  u17 : Value
  u18 : Value
  u19 : Value
  u20 : Value
  u21 : Value
  u22 : Value
  g1 : Nat
  g2 : Nat
  p : Nat
  ea : a = ⟨#[t0_, t1_, t2_, t3_, t4_, t5_, t6_, t7_, t8_, t9_, u10, t11_, t12_, t13_, t14_, u15, u16, u17, u18, u19, u20, u21, u22, t23_, t24_, t25_, t26_], []⟩
  f0 : Gd d 0 (u15 = .float .f32 n0)
  f1 : Gd d 1 (u16 = .float .f32 n1)
  f2 : Gd d 2 (u17 = .float .f32 n2)
  f3 : Gd d 3 (u18 = .int .i64 (m : Int))
  f4 : Gd d 4 (u19 = .slice (some ⟨g1, 0, none⟩) m m)
  f5 : Gd d 5 (u20 = .int .i64 (m : Int))
  f6 : Gd d 6 (u21 = .slice (some ⟨g2, 0, none⟩) m m)
  f7 : Gd d 7 (u22 = .agg #[.float .f32 n0, .float .f32 n1, .float .f32 n2, .slice (some ⟨g1, 0, none⟩) m m, .slice (some ⟨g2, 0, none⟩) m m])
  f8 : Gd d 8 (u10 = .pointer (some ⟨p, 0, none⟩))
  r4 : Gd d 4 (RowO w w0.heap.size (.slice (some ⟨g1, 0, none⟩) m m) (List.replicate m 0))
  r6 : Gd d 6 (RowO w w0.heap.size (.slice (some ⟨g2, 0, none⟩) m m) (List.replicate m 0))
  s8 : Gd d 8 (p < w.heap.size ∧ w0.heap.size ≤ p)
  b8 : Gd d 8 (Ng d 9 (Bw w p [.float .f32 0, .float .f32 0, .float .f32 0, .slice none 0 0, .slice none 0 0]))
  b9 : Gd d 9 (Bw w p [.float .f32 n0, .float .f32 n1, .float .f32 n2, .slice (some ⟨g1, 0, none⟩) m m, .slice (some ⟨g2, 0, none⟩) m m])
  ne1 : Gd d 4 (Gd d 8 (g1 ≠ p))
  ne2 : Gd d 6 (Gd d 8 (g2 ≠ p))
  hbel : Below w0.heap.size w0 w
def stillInv (w0 : World) (t0_ t1_ t2_ t3_ t4_ t5_ t6_ t7_ t8_ t9_ t11_ t12_ t13_ t14_ t23_ t24_ t25_ t26_ : Value) (m n0 n1 n2 : Nat) (d : Array Bool) (a : Act) (w : World) : Prop := Nonempty (stillInvS w0 t0_ t1_ t2_ t3_ t4_ t5_ t6_ t7_ t8_ t9_ t11_ t12_ t13_ t14_ t23_ t24_ t25_ t26_ m n0 n1 n2 d a w)

set_option maxHeartbeats 8000000 in
theorem stillCanal_s {N0 N1 N2 : Option Nat} {n0 n1 n2 : Nat} (n : Int) (w : World) (g0 : Is32 N0 n0) (g1' : Is32 N1 n1) (g2' : Is32 N2 n2) :
    Calls Try.prog 24 #[.int .i64 n, .float .f32 n0, .float .f32 n1, .float .f32 n2] w (CanS (stillO N0 N1 N2 n) w) := by
  obtain ⟨Q, hQ⟩ : ∃ Q, stillO N0 N1 N2 n = Q := ⟨_, rfl⟩
  rw [hQ]
  have HQ := Lib.hid hQ
  clear hQ
  go_enter Try.func24, Try.ntmps24
  go_wp2_with fail
  refine (l00In_any n 1 48 _).mono ?_
  rintro e w' ⟨bb, hbb, rfl, rfl⟩
  have HC := Lib.hid hbb
  clear hbb
  cases bb
  · have hv : Q = failCan := by rw [← HQ.out]; unfold stillO; rw [HC.out]; rfl
    have HV := Lib.hid hv
    clear hv
    go_wp2_with fail
    rw [HV.out]
    exact bodyPost_ret (v := .tuple #[.agg #[.float .f32 0, .float .f32 0, .float .f32 0, .slice none 0 0, .slice none 0 0], .bool false]) (by first | (simp [results, Try.results24, go_sem]; done) | (simp (maxDischargeDepth := 12) [results, Try.results24, go_sem]; done) | (simp (maxDischargeDepth := 12) [results, Try.results24, go_sem]; rfl)) rfl (CanS.no (by repeat (first | with_reducible exact Below.refl _ _ | with_reducible refine beld ?_ _ | (with_reducible refine Below.alloc ?_ ?_ _; rotate_left; exact (by first | (simp; done) | (simp; omega) | omega)) | (with_reducible refine Below.setCell ?_ ?_ _; rotate_left; exact (by first | (simp; done) | (simp; omega) | omega)))))
  have hcc := HC.out
  rw [Bool.and_eq_true, decide_eq_true_eq, decide_eq_true_eq] at hcc
  obtain ⟨m, rfl⟩ := Int.eq_ofNat_of_zero_le (show 0 ≤ n by omega)
  have hmm : m ≤ 1048576 := by omega
  clear hcc
  go_wp2_with fail
  generalize hw0 : World.alloc w _ = w0
  have bw0 : Bw w0 w.heap.size [.float .f32 0, .float .f32 0, .float .f32 0, .slice none 0 0, .slice none 0 0] := by rw [← hw0]; exact Bw.new w _ _
  have hB0 : Below w.heap.size w w0 := by rw [← hw0]; exact bel1 _ _
  have hs0 : w0.heap.size = w.heap.size + 1 := by rw [← hw0]; simp
  have BW0 := Lib.hid bw0
  have HB0 := Lib.hid hB0
  have HS0 := Lib.hid hs0
  clear bw0 hB0 hw0 hs0
  refine wp_region_inv (id := 3) (stillInv w0 _ _ _ _ _ _ _ _ _ _ _ _ _ _ _ _ _ _ m n0 n1 n2) (by kernel_rfl) (by kernel_rfl) ⟨⟨_, _, _, _, _, _, _, _, _, 0, 0, 0, rfl, .start, .start, .start, .start, .start, .start, .start, .start, .start, .start, .start, .start, .start, .start, .start, .start, beld (Below.refl _ _) 1⟩⟩ ?hend ?hsteps
  rotate_left
  case hsteps =>
    refine .cons 1 rfl ?_ ?_
    · intro d a w9 hsz hcl hinv hd hdep
      obtain ⟨⟨u10, u15, u16, u17, u18, u19, u20, u21, u22, g1, g2, p, rfl, f0, f1, f2, f3, f4, f5, f6, f7, f8, r4, r6, s8, b8, b9, ne1, ne2, hbel⟩⟩ := hinv
      go_wp2_with fail
      exact ⟨⟨u10, (.float .f32 n0), u16, u17, u18, u19, u20, u21, u22, g1, g2, p, rfl, Gd.new (by first | rfl | simp), (f1.keep (i := 0) (by decide)), (f2.keep (i := 0) (by decide)), (f3.keep (i := 0) (by decide)), (f4.keep (i := 0) (by decide)), (f5.keep (i := 0) (by decide)), (f6.keep (i := 0) (by decide)), (f7.keep (i := 0) (by decide)), (f8.keep (i := 0) (by decide)), (r4.keep (i := 0) (by decide)), (r6.keep (i := 0) (by decide)), (s8.keep (i := 0) (by decide)), (Gd.keep (i := 0) (b8.imp fun h => Ng.keep (i := 0) h (by decide)) (by decide)), (b9.keep (i := 0) (by decide)), (Gd.keep (i := 0) (ne1.imp fun h => Gd.keep (i := 0) h (by decide)) (by decide)), (Gd.keep (i := 0) (ne2.imp fun h => Gd.keep (i := 0) h (by decide)) (by decide)), hbel⟩⟩
    refine .cons 2 rfl ?_ ?_
    · intro d a w9 hsz hcl hinv hd hdep
      obtain ⟨⟨u10, u15, u16, u17, u18, u19, u20, u21, u22, g1, g2, p, rfl, f0, f1, f2, f3, f4, f5, f6, f7, f8, r4, r6, s8, b8, b9, ne1, ne2, hbel⟩⟩ := hinv
      go_wp2_with fail
      exact ⟨⟨u10, u15, (.float .f32 n1), u17, u18, u19, u20, u21, u22, g1, g2, p, rfl, (f0.keep (i := 1) (by decide)), Gd.new (by first | rfl | simp), (f2.keep (i := 1) (by decide)), (f3.keep (i := 1) (by decide)), (f4.keep (i := 1) (by decide)), (f5.keep (i := 1) (by decide)), (f6.keep (i := 1) (by decide)), (f7.keep (i := 1) (by decide)), (f8.keep (i := 1) (by decide)), (r4.keep (i := 1) (by decide)), (r6.keep (i := 1) (by decide)), (s8.keep (i := 1) (by decide)), (Gd.keep (i := 1) (b8.imp fun h => Ng.keep (i := 1) h (by decide)) (by decide)), (b9.keep (i := 1) (by decide)), (Gd.keep (i := 1) (ne1.imp fun h => Gd.keep (i := 1) h (by decide)) (by decide)), (Gd.keep (i := 1) (ne2.imp fun h => Gd.keep (i := 1) h (by decide)) (by decide)), hbel⟩⟩
    refine .cons 3 rfl ?_ ?_
    · intro d a w9 hsz hcl hinv hd hdep
      obtain ⟨⟨u10, u15, u16, u17, u18, u19, u20, u21, u22, g1, g2, p, rfl, f0, f1, f2, f3, f4, f5, f6, f7, f8, r4, r6, s8, b8, b9, ne1, ne2, hbel⟩⟩ := hinv
      go_wp2_with fail
      exact ⟨⟨u10, u15, u16, (.float .f32 n2), u18, u19, u20, u21, u22, g1, g2, p, rfl, (f0.keep (i := 2) (by decide)), (f1.keep (i := 2) (by decide)), Gd.new (by first | rfl | simp), (f3.keep (i := 2) (by decide)), (f4.keep (i := 2) (by decide)), (f5.keep (i := 2) (by decide)), (f6.keep (i := 2) (by decide)), (f7.keep (i := 2) (by decide)), (f8.keep (i := 2) (by decide)), (r4.keep (i := 2) (by decide)), (r6.keep (i := 2) (by decide)), (s8.keep (i := 2) (by decide)), (Gd.keep (i := 2) (b8.imp fun h => Ng.keep (i := 2) h (by decide)) (by decide)), (b9.keep (i := 2) (by decide)), (Gd.keep (i := 2) (ne1.imp fun h => Gd.keep (i := 2) h (by decide)) (by decide)), (Gd.keep (i := 2) (ne2.imp fun h => Gd.keep (i := 2) h (by decide)) (by decide)), hbel⟩⟩
    refine .cons 4 rfl ?_ ?_
    · intro d a w9 hsz hcl hinv hd hdep
      obtain ⟨⟨u10, u15, u16, u17, u18, u19, u20, u21, u22, g1, g2, p, rfl, f0, f1, f2, f3, f4, f5, f6, f7, f8, r4, r6, s8, b8, b9, ne1, ne2, hbel⟩⟩ := hinv
      go_wp2_with fail
      exact ⟨⟨u10, u15, u16, u17, (.int .i64 (m : Int)), u19, u20, u21, u22, g1, g2, p, rfl, (f0.keep (i := 3) (by decide)), (f1.keep (i := 3) (by decide)), (f2.keep (i := 3) (by decide)), Gd.new (by first | rfl | simp), (f4.keep (i := 3) (by decide)), (f5.keep (i := 3) (by decide)), (f6.keep (i := 3) (by decide)), (f7.keep (i := 3) (by decide)), (f8.keep (i := 3) (by decide)), (r4.keep (i := 3) (by decide)), (r6.keep (i := 3) (by decide)), (s8.keep (i := 3) (by decide)), (Gd.keep (i := 3) (b8.imp fun h => Ng.keep (i := 3) h (by decide)) (by decide)), (b9.keep (i := 3) (by decide)), (Gd.keep (i := 3) (ne1.imp fun h => Gd.keep (i := 3) h (by decide)) (by decide)), (Gd.keep (i := 3) (ne2.imp fun h => Gd.keep (i := 3) h (by decide)) (by decide)), hbel⟩⟩
    refine .cons 5 rfl ?_ ?_
    · intro d a w9 hsz hcl hinv hd hdep
      obtain ⟨⟨u10, u15, u16, u17, u18, u19, u20, u21, u22, g1, g2, p, rfl, f0, f1, f2, f3, f4, f5, f6, f7, f8, r4, r6, s8, b8, b9, ne1, ne2, hbel⟩⟩ := hinv
      have e3 := f3 (hdep.get 3 rfl)
      subst e3
      have n7 := hcl.not hd 7 _ rfl rfl
      have n9 := hcl.not n7 9 _ rfl rfl
      go_wp2_with (at_make; refine make_any rfl rfl _ _ rfl .i64 .i64 _ _ m rfl rfl rfl rfl hmm (lo := w0.heap.size) hbel.size ?_)
      intro w8 hown hgrow
      have hb8 := Below.made (Below.refl w9.heap.size w9) hgrow (Nat.le_refl _)
      have hz8 : w9.heap.size ≤ w8.heap.size := hb8.size
      go_wp2_with fail
      exact ⟨⟨u10, u15, u16, u17, (.int .i64 (m : Int)), (.slice (some ⟨w9.heap.size, 0, none⟩) m m), u20, u21, u22, w9.heap.size, g2, p, rfl, (f0.keep (i := 4) (by decide)), (f1.keep (i := 4) (by decide)), (f2.keep (i := 4) (by decide)), Gd.new rfl, Gd.new (by first | rfl | simp), (f5.keep (i := 4) (by decide)), (f6.keep (i := 4) (by decide)), (Gd.undone (i := 4) n7 (by decide)), (f8.keep (i := 4) (by decide)), Gd.new hown, ((r6.imp fun h => h.made hgrow).keep (i := 4) (by decide)), ((s8.imp fun h => ⟨Nat.lt_of_lt_of_le h.1 hz8, h.2⟩).keep (i := 4) (by decide)), (Gd.keep (i := 4) (b8.imp fun h => Ng.keep (i := 4) (h.imp fun h => h.below hb8 h.1.1) (by decide)) (by decide)), (Gd.undone (i := 4) n9 (by decide)), Gd.new (fun h8 => by have h7 := (s8 (by rw [set_ne (by decide)] at h8; exact h8)).1; omega), (Gd.keep (i := 4) (ne2.imp fun h => Gd.keep (i := 4) h (by decide)) (by decide)), (Below.made hbel hgrow hbel.size)⟩⟩
    refine .cons 6 rfl ?_ ?_
    · intro d a w9 hsz hcl hinv hd hdep
      obtain ⟨⟨u10, u15, u16, u17, u18, u19, u20, u21, u22, g1, g2, p, rfl, f0, f1, f2, f3, f4, f5, f6, f7, f8, r4, r6, s8, b8, b9, ne1, ne2, hbel⟩⟩ := hinv
      go_wp2_with fail
      exact ⟨⟨u10, u15, u16, u17, u18, u19, (.int .i64 (m : Int)), u21, u22, g1, g2, p, rfl, (f0.keep (i := 5) (by decide)), (f1.keep (i := 5) (by decide)), (f2.keep (i := 5) (by decide)), (f3.keep (i := 5) (by decide)), (f4.keep (i := 5) (by decide)), Gd.new (by first | rfl | simp), (f6.keep (i := 5) (by decide)), (f7.keep (i := 5) (by decide)), (f8.keep (i := 5) (by decide)), (r4.keep (i := 5) (by decide)), (r6.keep (i := 5) (by decide)), (s8.keep (i := 5) (by decide)), (Gd.keep (i := 5) (b8.imp fun h => Ng.keep (i := 5) h (by decide)) (by decide)), (b9.keep (i := 5) (by decide)), (Gd.keep (i := 5) (ne1.imp fun h => Gd.keep (i := 5) h (by decide)) (by decide)), (Gd.keep (i := 5) (ne2.imp fun h => Gd.keep (i := 5) h (by decide)) (by decide)), hbel⟩⟩
    refine .cons 7 rfl ?_ ?_
    · intro d a w9 hsz hcl hinv hd hdep
      obtain ⟨⟨u10, u15, u16, u17, u18, u19, u20, u21, u22, g1, g2, p, rfl, f0, f1, f2, f3, f4, f5, f6, f7, f8, r4, r6, s8, b8, b9, ne1, ne2, hbel⟩⟩ := hinv
      have e5 := f5 (hdep.get 5 rfl)
      subst e5
      have n7 := hcl.not hd 7 _ rfl rfl
      have n9 := hcl.not n7 9 _ rfl rfl
      go_wp2_with (at_make; refine make_any rfl rfl _ _ rfl .i64 .i64 _ _ m rfl rfl rfl rfl hmm (lo := w0.heap.size) hbel.size ?_)
      intro w8 hown hgrow
      have hb8 := Below.made (Below.refl w9.heap.size w9) hgrow (Nat.le_refl _)
      have hz8 : w9.heap.size ≤ w8.heap.size := hb8.size
      go_wp2_with fail
      exact ⟨⟨u10, u15, u16, u17, u18, u19, (.int .i64 (m : Int)), (.slice (some ⟨w9.heap.size, 0, none⟩) m m), u22, g1, w9.heap.size, p, rfl, (f0.keep (i := 6) (by decide)), (f1.keep (i := 6) (by decide)), (f2.keep (i := 6) (by decide)), (f3.keep (i := 6) (by decide)), (f4.keep (i := 6) (by decide)), Gd.new rfl, Gd.new (by first | rfl | simp), (Gd.undone (i := 6) n7 (by decide)), (f8.keep (i := 6) (by decide)), ((r4.imp fun h => h.made hgrow).keep (i := 6) (by decide)), Gd.new hown, ((s8.imp fun h => ⟨Nat.lt_of_lt_of_le h.1 hz8, h.2⟩).keep (i := 6) (by decide)), (Gd.keep (i := 6) (b8.imp fun h => Ng.keep (i := 6) (h.imp fun h => h.below hb8 h.1.1) (by decide)) (by decide)), (Gd.undone (i := 6) n9 (by decide)), (Gd.keep (i := 6) (ne1.imp fun h => Gd.keep (i := 6) h (by decide)) (by decide)), Gd.new (fun h8 => by have h7 := (s8 (by rw [set_ne (by decide)] at h8; exact h8)).1; omega), (Below.made hbel hgrow hbel.size)⟩⟩
    refine .cons 8 rfl ?_ ?_
    · intro d a w9 hsz hcl hinv hd hdep
      obtain ⟨⟨u10, u15, u16, u17, u18, u19, u20, u21, u22, g1, g2, p, rfl, f0, f1, f2, f3, f4, f5, f6, f7, f8, r4, r6, s8, b8, b9, ne1, ne2, hbel⟩⟩ := hinv
      have e0 := f0 (hdep.get 0 rfl)
      subst e0
      have e1 := f1 (hdep.get 1 rfl)
      subst e1
      have e2 := f2 (hdep.get 2 rfl)
      subst e2
      have e4 := f4 (hdep.get 4 rfl)
      subst e4
      have e6 := f6 (hdep.get 6 rfl)
      subst e6
      go_wp2_with fail
      exact ⟨⟨u10, (.float .f32 n0), (.float .f32 n1), (.float .f32 n2), u18, (.slice (some ⟨g1, 0, none⟩) m m), u20, (.slice (some ⟨g2, 0, none⟩) m m), (.agg #[.float .f32 n0, .float .f32 n1, .float .f32 n2, .slice (some ⟨g1, 0, none⟩) m m, .slice (some ⟨g2, 0, none⟩) m m]), g1, g2, p, rfl, Gd.new rfl, Gd.new rfl, Gd.new rfl, (f3.keep (i := 7) (by decide)), Gd.new rfl, (f5.keep (i := 7) (by decide)), Gd.new rfl, Gd.new (by first | rfl | simp), (f8.keep (i := 7) (by decide)), (r4.keep (i := 7) (by decide)), (r6.keep (i := 7) (by decide)), (s8.keep (i := 7) (by decide)), (Gd.keep (i := 7) (b8.imp fun h => Ng.keep (i := 7) h (by decide)) (by decide)), (b9.keep (i := 7) (by decide)), (Gd.keep (i := 7) (ne1.imp fun h => Gd.keep (i := 7) h (by decide)) (by decide)), (Gd.keep (i := 7) (ne2.imp fun h => Gd.keep (i := 7) h (by decide)) (by decide)), hbel⟩⟩
    refine .cons 9 rfl ?_ ?_
    · intro d a w9 hsz hcl hinv hd hdep
      obtain ⟨⟨u10, u15, u16, u17, u18, u19, u20, u21, u22, g1, g2, p, rfl, f0, f1, f2, f3, f4, f5, f6, f7, f8, r4, r6, s8, b8, b9, ne1, ne2, hbel⟩⟩ := hinv
      have n9 := hcl.not hd 9 _ rfl rfl
      go_wp2_with fail
      exact ⟨⟨(.pointer (some ⟨w9.heap.size, 0, none⟩)), u15, u16, u17, u18, u19, u20, u21, u22, g1, g2, w9.heap.size, rfl, (f0.keep (i := 8) (by decide)), (f1.keep (i := 8) (by decide)), (f2.keep (i := 8) (by decide)), (f3.keep (i := 8) (by decide)), (f4.keep (i := 8) (by decide)), (f5.keep (i := 8) (by decide)), (f6.keep (i := 8) (by decide)), (f7.keep (i := 8) (by decide)), Gd.new (by first | rfl | simp), ((r4.imp fun h => h.alloc _).keep (i := 8) (by decide)), ((r6.imp fun h => h.alloc _).keep (i := 8) (by decide)), Gd.new ⟨by simp, hbel.size⟩, Gd.new (fun _ => Bw.new w9 [.float .f32 0, .float .f32 0, .float .f32 0, .slice none 0 0, .slice none 0 0] _), (Gd.undone (i := 8) n9 (by decide)), (Gd.keep (i := 8) (r4.imp fun h => Gd.new (by have := (h.lo g1 rfl).2; omega)) (by decide)), (Gd.keep (i := 8) (r6.imp fun h => Gd.new (by have := (h.lo g2 rfl).2; omega)) (by decide)), (hbel.alloc hbel.size _)⟩⟩
    refine .cons 10 rfl ?_ trivial
    · intro d a w9 hsz hcl hinv hd hdep
      obtain ⟨⟨u10, u15, u16, u17, u18, u19, u20, u21, u22, g1, g2, p, rfl, f0, f1, f2, f3, f4, f5, f6, f7, f8, r4, r6, s8, b8, b9, ne1, ne2, hbel⟩⟩ := hinv
      have e8 := f8 (hdep.get 8 rfl)
      subst e8
      have e7 := f7 (hdep.get 7 rfl)
      subst e7
      have hbp := b8 (hdep.get 8 rfl) hd
      have hc0 := hbp.c 0 rfl
      have hc1 := hbp.c 1 rfl
      have hc2 := hbp.c 2 rfl
      have hc3 := hbp.c 3 rfl
      have hc4 := hbp.c 4 rfl
      have hf0 := hbp.f 0 (by simp)
      have hf1 := hbp.f 1 (by simp)
      have hf2 := hbp.f 2 (by simp)
      have hf3 := hbp.f 3 (by simp)
      have hf4 := hbp.f 4 (by simp)
      have hp9 := s8 (hdep.get 8 rfl)
      have d4 := (hcl 7 _ rfl (hdep.get 7 rfl)).get 4 rfl
      have d6 := (hcl 7 _ rfl (hdep.get 7 rfl)).get 6 rfl
      have hn1 := ne1 d4 (hdep.get 8 rfl)
      have hn2 := ne2 d6 (hdep.get 8 rfl)
      go_wp2_with fail
      have hnew : Bw (((((w9.setCell ⟨p, 0, none⟩ (.float .f32 n0)).setCell ⟨p, 1, none⟩ (.float .f32 n1)).setCell ⟨p, 2, none⟩ (.float .f32 n2)).setCell ⟨p, 3, none⟩ (.slice (some ⟨g1, 0, none⟩) m m)).setCell ⟨p, 4, none⟩ (.slice (some ⟨g2, 0, none⟩) m m)) p [.float .f32 n0, .float .f32 n1, .float .f32 n2, .slice (some ⟨g1, 0, none⟩) m m, .slice (some ⟨g2, 0, none⟩) m m] := Bw.of5 (by have := hp9.1; simp; omega) (by first | (simp [go_sem, hf0, hf1, hf2, hf3, hf4]; done) | (simp (maxDischargeDepth := 12) [go_sem, hc0, hc1, hc2, hc3, hc4, hf0, hf1, hf2, hf3, hf4]; done) | (simp (maxDischargeDepth := 12) [go_sem, hc0, hc1, hc2, hc3, hc4, hf0, hf1, hf2, hf3, hf4]; rfl)) (by first | (simp [go_sem, hf0, hf1, hf2, hf3, hf4]; done) | (simp (maxDischargeDepth := 12) [go_sem, hc0, hc1, hc2, hc3, hc4, hf0, hf1, hf2, hf3, hf4]; done) | (simp (maxDischargeDepth := 12) [go_sem, hc0, hc1, hc2, hc3, hc4, hf0, hf1, hf2, hf3, hf4]; rfl)) (by first | (simp [go_sem, hf0, hf1, hf2, hf3, hf4]; done) | (simp (maxDischargeDepth := 12) [go_sem, hc0, hc1, hc2, hc3, hc4, hf0, hf1, hf2, hf3, hf4]; done) | (simp (maxDischargeDepth := 12) [go_sem, hc0, hc1, hc2, hc3, hc4, hf0, hf1, hf2, hf3, hf4]; rfl)) (by first | (simp [go_sem, hf0, hf1, hf2, hf3, hf4]; done) | (simp (maxDischargeDepth := 12) [go_sem, hc0, hc1, hc2, hc3, hc4, hf0, hf1, hf2, hf3, hf4]; done) | (simp (maxDischargeDepth := 12) [go_sem, hc0, hc1, hc2, hc3, hc4, hf0, hf1, hf2, hf3, hf4]; rfl)) (by first | (simp [go_sem, hf0, hf1, hf2, hf3, hf4]; done) | (simp (maxDischargeDepth := 12) [go_sem, hc0, hc1, hc2, hc3, hc4, hf0, hf1, hf2, hf3, hf4]; done) | (simp (maxDischargeDepth := 12) [go_sem, hc0, hc1, hc2, hc3, hc4, hf0, hf1, hf2, hf3, hf4]; rfl)) (by first | (simp [go_sem, hf0, hf1, hf2, hf3, hf4]; done) | (simp (maxDischargeDepth := 12) [go_sem, hc0, hc1, hc2, hc3, hc4, hf0, hf1, hf2, hf3, hf4]; done) | (simp (maxDischargeDepth := 12) [go_sem, hc0, hc1, hc2, hc3, hc4, hf0, hf1, hf2, hf3, hf4]; rfl)) (by first | (simp [go_sem, hf0, hf1, hf2, hf3, hf4]; done) | (simp (maxDischargeDepth := 12) [go_sem, hc0, hc1, hc2, hc3, hc4, hf0, hf1, hf2, hf3, hf4]; done) | (simp (maxDischargeDepth := 12) [go_sem, hc0, hc1, hc2, hc3, hc4, hf0, hf1, hf2, hf3, hf4]; rfl)) (by first | (simp [go_sem, hf0, hf1, hf2, hf3, hf4]; done) | (simp (maxDischargeDepth := 12) [go_sem, hc0, hc1, hc2, hc3, hc4, hf0, hf1, hf2, hf3, hf4]; done) | (simp (maxDischargeDepth := 12) [go_sem, hc0, hc1, hc2, hc3, hc4, hf0, hf1, hf2, hf3, hf4]; rfl)) (by first | (simp [go_sem, hf0, hf1, hf2, hf3, hf4]; done) | (simp (maxDischargeDepth := 12) [go_sem, hc0, hc1, hc2, hc3, hc4, hf0, hf1, hf2, hf3, hf4]; done) | (simp (maxDischargeDepth := 12) [go_sem, hc0, hc1, hc2, hc3, hc4, hf0, hf1, hf2, hf3, hf4]; rfl)) (by first | (simp [go_sem, hf0, hf1, hf2, hf3, hf4]; done) | (simp (maxDischargeDepth := 12) [go_sem, hc0, hc1, hc2, hc3, hc4, hf0, hf1, hf2, hf3, hf4]; done) | (simp (maxDischargeDepth := 12) [go_sem, hc0, hc1, hc2, hc3, hc4, hf0, hf1, hf2, hf3, hf4]; rfl))
      exact ⟨⟨(.pointer (some ⟨p, 0, none⟩)), u15, u16, u17, u18, u19, u20, u21, (.agg #[.float .f32 n0, .float .f32 n1, .float .f32 n2, .slice (some ⟨g1, 0, none⟩) m m, .slice (some ⟨g2, 0, none⟩) m m]), g1, g2, p, rfl, (f0.keep (i := 9) (by decide)), (f1.keep (i := 9) (by decide)), (f2.keep (i := 9) (by decide)), (f3.keep (i := 9) (by decide)), (f4.keep (i := 9) (by decide)), (f5.keep (i := 9) (by decide)), (f6.keep (i := 9) (by decide)), Gd.new rfl, Gd.new rfl, ((r4.imp fun h => ((((h.setFar (by simp [Value.ownBlock]; exact hn1) _).setFar (by simp [Value.ownBlock]; exact hn1) _).setFar (by simp [Value.ownBlock]; exact hn1) _).setFar (by simp [Value.ownBlock]; exact hn1) _).setFar (by simp [Value.ownBlock]; exact hn1) _).keep (i := 9) (by decide)), ((r6.imp fun h => ((((h.setFar (by simp [Value.ownBlock]; exact hn2) _).setFar (by simp [Value.ownBlock]; exact hn2) _).setFar (by simp [Value.ownBlock]; exact hn2) _).setFar (by simp [Value.ownBlock]; exact hn2) _).setFar (by simp [Value.ownBlock]; exact hn2) _).keep (i := 9) (by decide)), ((s8.imp fun h => ⟨by simp; exact h.1, h.2⟩).keep (i := 9) (by decide)), (Gd.keep (i := 9) (b8.imp fun h => Ng.new (by rw [hsz]; exact (by decide : 9 < 10))) (by decide)), Gd.new hnew, (Gd.keep (i := 9) (ne1.imp fun h => Gd.keep (i := 9) h (by decide)) (by decide)), (Gd.keep (i := 9) (ne2.imp fun h => Gd.keep (i := 9) h (by decide)) (by decide)), (((((hbel.setCell hp9.2 _).setCell hp9.2 _).setCell hp9.2 _).setCell hp9.2 _).setCell hp9.2 _)⟩⟩
  intro d a w9 hinv hall
  obtain ⟨⟨u10, u15, u16, u17, u18, u19, u20, u21, u22, g1, g2, p, rfl, f0, f1, f2, f3, f4, f5, f6, f7, f8, r4, r6, s8, b8, b9, ne1, ne2, hbel⟩⟩ := hinv
  have e7 := f7 (hall 7 (by decide))
  have e8 := f8 (hall 8 (by decide))
  subst e7
  subst e8
  have hr4 := r4 (hall 4 (by decide))
  have hr6 := r6 (hall 6 (by decide))
  have hp9 := s8 (hall 8 (by decide))
  have hb9 := b9 (hall 9 (by decide))
  have HB9 := Lib.hid (HB0.out.trans (hbel.mono HB0.out.size))
  have BW9 := Lib.hid (BW0.out.below hbel BW0.out.1.1)
  have HR1 := Lib.hid hr4
  have HR2 := Lib.hid hr6
  have HP := Lib.hid hb9
  have hg1 : w.heap.size < g1 := by have h9 := (hr4.lo g1 rfl).1; have h8 := HS0.out; omega
  have hg2 : w.heap.size < g2 := by have h9 := (hr6.lo g2 rfl).1; have h8 := HS0.out; omega
  have hpl : w.heap.size < p := by have h9 := hp9.2; have h8 := HS0.out; omega
  have hw9 : w0.heap.size ≤ w9.heap.size := hbel.size
  clear f0 f1 f2 f3 f4 f5 f6 f7 f8 r4 r6 s8 b8 b9 ne1 ne2 hbel hr4 hr6 hp9 hb9
  have hl9 : (List.replicate m 0).length = m := List.length_replicate
  have Hl9 := Lib.hid hl9
  have r1 : RowF .f32 w9 (some ⟨g1, 0, none⟩) (List.replicate m 0) := by have h9 := HR1.out; rw [show (.slice (some ⟨g1, 0, none⟩) m m : Value) = .slice (some ⟨g1, 0, none⟩) (List.replicate m 0).length m by rw [hl9]] at h9; exact (FRow.mk h9).row
  have r2 : RowF .f32 w9 (some ⟨g2, 0, none⟩) (List.replicate m 0) := by have h9 := HR2.out; rw [show (.slice (some ⟨g2, 0, none⟩) m m : Value) = .slice (some ⟨g2, 0, none⟩) (List.replicate m 0).length m by rw [hl9]] at h9; exact (FRow.mk h9).row
  have hcall := fun hB => l05Canal_o (some ⟨g1, 0, none⟩) (some ⟨g2, 0, none⟩) m m (List.replicate m 0) (List.replicate m 0) w9 p hB g0 g1' g2' r1 (by omega) (noughts_lt m) r2 (by omega) (noughts_lt m)
  rw [hl9] at hcall
  have HCall := Lib.hid (hcall HP.out.1)
  clear r1 r2 hcall hl9
  go_wp2_with fail
  refine HCall.out.mono ?_
  rintro e w3 ⟨cb, hcb, rfl, q9, hw3⟩
  have HB3 : Hid (Below w.heap.size w w3) := Lib.hid (by rw [hw3]; exact beld HB9.out _)
  have hbw : Bw w3 w.heap.size [.float .f32 0, .float .f32 0, .float .f32 0, .slice none 0 0, .slice none 0 0] := by rw [hw3]; exact BW9.out.drewN _
  have hbp : Bw w3 p [.float .f32 n0, .float .f32 n1, .float .f32 n2, .slice (some ⟨g1, 0, none⟩) m m, .slice (some ⟨g2, 0, none⟩) m m] := by rw [hw3]; exact HP.out.drewN _
  have hr1 : RowO w3 w0.heap.size (.slice (some ⟨g1, 0, none⟩) m m) (List.replicate m 0) := by rw [hw3]; exact HR1.out.drewN _
  have hr2 : RowO w3 w0.heap.size (.slice (some ⟨g2, 0, none⟩) m m) (List.replicate m 0) := by rw [hw3]; exact HR2.out.drewN _
  have HRa := Lib.hid hr1
  have HRb := Lib.hid hr2
  have HCb := Lib.hid hcb
  have q0 := hbw.c 0 rfl
  have q1 := hbw.c 1 rfl
  have q2 := hbw.c 2 rfl
  have q3 := hbw.c 3 rfl
  have q4 := hbw.c 4 rfl
  have f0 := hbw.f 0 (by simp)
  have f1 := hbw.f 1 (by simp)
  have f2 := hbw.f 2 (by simp)
  have f3 := hbw.f 3 (by simp)
  have f4 := hbw.f 4 (by simp)
  have kp0 := hbp.c 0 rfl
  have kp1 := hbp.c 1 rfl
  have kp2 := hbp.c 2 rfl
  have kp3 := hbp.c 3 rfl
  have kp4 := hbp.c 4 rfl
  clear hbw hbp hr1 hr2 hcb hw3
  cases cb
  · have hv : Q = failCan := by rw [← HQ.out]; unfold stillO noughts; rw [HC.out, Int.toNat_natCast, HCb.out]; rfl
    have HV := Lib.hid hv
    clear hv
    go_wp2_with fail
    rw [HV.out]
    exact bodyPost_ret (v := .tuple #[.agg #[.float .f32 0, .float .f32 0, .float .f32 0, .slice none 0 0, .slice none 0 0], .bool false]) (by first | (simp [results, Try.results24, go_sem, q0, q1, q2, q3, q4, f0, f1, f2, f3, f4]; done) | (simp (maxDischargeDepth := 12) [results, Try.results24, go_sem, q0, q1, q2, q3, q4, f0, f1, f2, f3, f4]; done) | (simp (maxDischargeDepth := 12) [results, Try.results24, go_sem, q0, q1, q2, q3, q4, f0, f1, f2, f3, f4]; rfl)) rfl (CanS.no (by repeat (first | with_reducible exact HB3.out | with_reducible refine beld ?_ _ | (with_reducible refine Below.alloc ?_ ?_ _; rotate_left; exact (by first | (simp; done) | (simp; omega) | omega)) | (with_reducible refine Below.setCell ?_ ?_ _; rotate_left; exact (by first | (simp; done) | (simp; omega) | omega)))))
  have hv : Q = ⟨N0, N1, N2, List.replicate m 0, List.replicate m 0, true⟩ := by rw [← HQ.out]; unfold stillO noughts; rw [HC.out, Int.toNat_natCast, HCb.out]; rfl
  have HV := Lib.hid hv
  clear hv
  go_wp2_with fail
  rw [HV.out]
  have fr : ∀ (W : World) (b lo : Nat), RowO W lo (.slice (some ⟨b, 0, none⟩) m m) (List.replicate m 0) → RowF .f32 W (some ⟨b, 0, none⟩) (List.replicate m 0) := fun W b lo h => by rw [show (.slice (some ⟨b, 0, none⟩) m m : Value) = .slice (some ⟨b, 0, none⟩) (List.replicate m 0).length m by rw [Hl9.out]] at h; exact (FRow.mk h).row
  refine bodyPost_ret (v := .tuple #[.agg #[.float .f32 n0, .float .f32 n1, .float .f32 n2, .slice (some ⟨g1, 0, none⟩) m m, .slice (some ⟨g2, 0, none⟩) m m], .bool true]) (by first | (simp [results, Try.results24, go_sem, q0, q1, q2, q3, q4, f0, f1, f2, f3, f4, kp0, kp1, kp2, kp3, kp4]; done) | (simp (maxDischargeDepth := 12) [results, Try.results24, go_sem, q0, q1, q2, q3, q4, f0, f1, f2, f3, f4, kp0, kp1, kp2, kp3, kp4]; done) | (simp (maxDischargeDepth := 12) [results, Try.results24, go_sem, q0, q1, q2, q3, q4, f0, f1, f2, f3, f4, kp0, kp1, kp2, kp3, kp4]; rfl)) rfl ?_
  refine ⟨n0, n1, n2, _, m, _, m, by rw [Hl9.out], ⟨g0, g1', g2'⟩, fr _ _ _ (((((HRa.out.setFar (by simp [Value.ownBlock]; omega) _).setFar (by simp [Value.ownBlock]; omega) _).setFar (by simp [Value.ownBlock]; omega) _).setFar (by simp [Value.ownBlock]; omega) _).setFar (by simp [Value.ownBlock]; omega) _), fr _ _ _ (((((HRb.out.setFar (by simp [Value.ownBlock]; omega) _).setFar (by simp [Value.ownBlock]; omega) _).setFar (by simp [Value.ownBlock]; omega) _).setFar (by simp [Value.ownBlock]; omega) _).setFar (by simp [Value.ownBlock]; omega) _), by rw [Hl9.out]; exact hmm, by rw [Hl9.out]; exact hmm, (by repeat (first | with_reducible exact HB3.out | with_reducible refine beld ?_ _ | (with_reducible refine Below.alloc ?_ ?_ _; rotate_left; exact (by first | (simp; done) | (simp; omega) | omega)) | (with_reducible refine Below.setCell ?_ ?_ _; rotate_left; exact (by first | (simp; done) | (simp; omega) | omega))))⟩

end Go.Proofs.Ytdoecpghlfjhiab
