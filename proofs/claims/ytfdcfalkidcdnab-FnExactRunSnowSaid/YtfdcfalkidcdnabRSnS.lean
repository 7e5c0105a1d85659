/- Snow behind rain: the model. -/
import Derived.Test.YtfdcfalkidcdnabRSn0
namespace Go.Proofs.Ytfdcfalkidcdnab
open Go.RowKit
set_option linter.unusedVariables false
set_option linter.unusedSimpArgs false
set_option maxRecDepth 100000
attribute [local irreducible] wpV wpList Code.wp

theorem Bw.far4 {w : World} {b b9 : Nat} {vs : List Value} (h : Bw w b9 vs) (hb : b ≠ b9) (i j k l : Nat) (p q r s : Value) : Bw ((((w.setCell ⟨b, i, none⟩ p).setCell ⟨b, j, none⟩ q).setCell ⟨b, k, none⟩ r).setCell ⟨b, l, none⟩ s) b9 vs :=
  (((h.setFar hb p).setFar hb q).setFar hb r).setFar hb s
theorem drew_below {W w1 : World} {n : Nat} (h : w1 = W.drewN n) : Below W.heap.size W w1 := by subst h; exact beld (Below.refl _ _) _
def snInvS (a0 : Act) (w0 : World) (R : SnowR) (vv : Value) (k bx ox bv ov N cap1 cap2 c0 c1 c2 c3 x v t : Nat) (ls : List Nat) (d : Array Bool) (a : Act) (w : World) : Prop :=
  ∃ (u13 u14 u15 u47 u48 u49 u50 u51 u52 u53 u54 u55 u56 u57 u58 u59 u60 u61 : Value) (y0 y1 y2 y3 yo p : Nat), a = ((((((((((((((((((a0.put (some 13) u13).put (some 14) u14).put (some 15) u15).put (some 47) u47).put (some 48) u48).put (some 49) u49).put (some 50) u50).put (some 51) u51).put (some 52) u52).put (some 53) u53).put (some 54) u54).put (some 55) u55).put (some 56) u56).put (some 57) u57).put (some 58) u58).put (some 59) u59).put (some 60) u60).put (some 61) u61) ∧ Gd d 0 (u48 = .agg #[.float .f32 c0, .float .f32 c1, .float .f32 c2, .float .f32 c3]) ∧ Gd d 1 (u49 = .slice (some ⟨bx, ox, none⟩) N cap1) ∧ Gd d 2 (u50 = .int .i64 k) ∧ Gd d 3 (u51 = .pointer (some ⟨bx, ox + k, none⟩)) ∧ Gd d 4 (u52 = .float .f32 x) ∧ Gd d 5 (u53 = .slice (some ⟨bv, ov, none⟩) N cap2) ∧ Gd d 6 (u54 = .int .i64 k) ∧ Gd d 7 (u55 = .pointer (some ⟨bv, ov + k, none⟩)) ∧ Gd d 8 (u56 = .float .f32 v) ∧ Gd d 9 (u57 = .float .f32 t) ∧ Gd d 10 (u58 = .tuple #[.agg #[.float .f32 y0, .float .f32 y1, .float .f32 y2, .float .f32 y3], .float .f32 yo, .bool R.ok] ∧ (Is32 R.s0 y0 ∧ Is32 R.s1 y1 ∧ Is32 R.s2 y2 ∧ Is32 R.s3 y3 ∧ Is32 R.out yo)) ∧ Gd d 11 (u47 = .tuple #[.agg #[.float .f32 y0, .float .f32 y1, .float .f32 y2, .float .f32 y3], .float .f32 yo, .bool R.ok]) ∧ Gd d 12 (u59 = .agg #[.float .f32 y0, .float .f32 y1, .float .f32 y2, .float .f32 y3]) ∧ Gd d 13 (u60 = .float .f32 yo) ∧ Gd d 14 (u61 = .bool R.ok) ∧ Gd d 15 (u13 = .pointer (some ⟨p, 0, none⟩) ∧ w0.heap.size + 2 ≤ p ∧ vv.ownBlock ≠ some p ∧ ∃ q0 q1 q2 q3, Bw w p [q0, q1, q2, q3]) ∧ Gd d 17 (u14 = .float .f32 yo) ∧ Gd d 18 (u15 = .bool R.ok) ∧ Below w0.heap.size w0 w ∧ Bw w w0.heap.size [.float .f32 c0, .float .f32 c1, .float .f32 c2, .float .f32 c3] ∧ Bw w (w0.heap.size + 1) [.float .f32 0, .float .f32 0, .float .f32 0, .float .f32 0] ∧ RowO w (w0.heap.size + 2) vv ls ∧ Gd d 16 (Bw w p [.float .f32 y0, .float .f32 y1, .float .f32 y2, .float .f32 y3])
theorem snInvS.mk {a0 : Act} {w0 : World} {R : SnowR} {vv : Value} {k bx ox bv ov N cap1 cap2 c0 c1 c2 c3 x v t : Nat} {ls : List Nat} {d : Array Bool} {a : Act} {w : World} (u13 u14 u15 u47 u48 u49 u50 u51 u52 u53 u54 u55 u56 u57 u58 u59 u60 u61 : Value) (y0 y1 y2 y3 yo p : Nat) (e : a = ((((((((((((((((((a0.put (some 13) u13).put (some 14) u14).put (some 15) u15).put (some 47) u47).put (some 48) u48).put (some 49) u49).put (some 50) u50).put (some 51) u51).put (some 52) u52).put (some 53) u53).put (some 54) u54).put (some 55) u55).put (some 56) u56).put (some 57) u57).put (some 58) u58).put (some 59) u59).put (some 60) u60).put (some 61) u61)) (f0 : Gd d 0 (u48 = .agg #[.float .f32 c0, .float .f32 c1, .float .f32 c2, .float .f32 c3])) (f1 : Gd d 1 (u49 = .slice (some ⟨bx, ox, none⟩) N cap1)) (f2 : Gd d 2 (u50 = .int .i64 k)) (f3 : Gd d 3 (u51 = .pointer (some ⟨bx, ox + k, none⟩))) (f4 : Gd d 4 (u52 = .float .f32 x)) (f5 : Gd d 5 (u53 = .slice (some ⟨bv, ov, none⟩) N cap2)) (f6 : Gd d 6 (u54 = .int .i64 k)) (f7 : Gd d 7 (u55 = .pointer (some ⟨bv, ov + k, none⟩))) (f8 : Gd d 8 (u56 = .float .f32 v)) (f9 : Gd d 9 (u57 = .float .f32 t)) (f10 : Gd d 10 (u58 = .tuple #[.agg #[.float .f32 y0, .float .f32 y1, .float .f32 y2, .float .f32 y3], .float .f32 yo, .bool R.ok] ∧ (Is32 R.s0 y0 ∧ Is32 R.s1 y1 ∧ Is32 R.s2 y2 ∧ Is32 R.s3 y3 ∧ Is32 R.out yo))) (f11 : Gd d 11 (u47 = .tuple #[.agg #[.float .f32 y0, .float .f32 y1, .float .f32 y2, .float .f32 y3], .float .f32 yo, .bool R.ok])) (f12 : Gd d 12 (u59 = .agg #[.float .f32 y0, .float .f32 y1, .float .f32 y2, .float .f32 y3])) (f13 : Gd d 13 (u60 = .float .f32 yo)) (f14 : Gd d 14 (u61 = .bool R.ok)) (f15 : Gd d 15 (u13 = .pointer (some ⟨p, 0, none⟩) ∧ w0.heap.size + 2 ≤ p ∧ vv.ownBlock ≠ some p ∧ ∃ q0 q1 q2 q3, Bw w p [q0, q1, q2, q3])) (f17 : Gd d 17 (u14 = .float .f32 yo)) (f18 : Gd d 18 (u15 = .bool R.ok)) (hbel : Below w0.heap.size w0 w) (hs : Bw w w0.heap.size [.float .f32 c0, .float .f32 c1, .float .f32 c2, .float .f32 c3]) (hres : Bw w (w0.heap.size + 1) [.float .f32 0, .float .f32 0, .float .f32 0, .float .f32 0]) (hrw : RowO w (w0.heap.size + 2) vv ls) (gp16 : Gd d 16 (Bw w p [.float .f32 y0, .float .f32 y1, .float .f32 y2, .float .f32 y3])) : snInvS a0 w0 R vv k bx ox bv ov N cap1 cap2 c0 c1 c2 c3 x v t ls d a w :=
  ⟨u13, u14, u15, u47, u48, u49, u50, u51, u52, u53, u54, u55, u56, u57, u58, u59, u60, u61, y0, y1, y2, y3, yo, p, e, f0, f1, f2, f3, f4, f5, f6, f7, f8, f9, f10, f11, f12, f13, f14, f15, f17, f18, hbel, hs, hres, hrw, gp16⟩
theorem snInvS.start {a0 : Act} {w0 : World} {R : SnowR} {vv : Value} {k bx ox bv ov N cap1 cap2 c0 c1 c2 c3 x v t : Nat} {ls : List Nat} {w : World} (n : Nat) (hbel : Below w0.heap.size w0 w) (hs : Bw w w0.heap.size [.float .f32 c0, .float .f32 c1, .float .f32 c2, .float .f32 c3]) (hres : Bw w (w0.heap.size + 1) [.float .f32 0, .float .f32 0, .float .f32 0, .float .f32 0]) (hr : RowO w (w0.heap.size + 2) vv ls) : snInvS a0 w0 R vv k bx ox bv ov N cap1 cap2 c0 c1 c2 c3 x v t ls (Array.replicate n false) a0 w :=
  ⟨a0.tmps.getD 13 undef, a0.tmps.getD 14 undef, a0.tmps.getD 15 undef, a0.tmps.getD 47 undef, a0.tmps.getD 48 undef, a0.tmps.getD 49 undef, a0.tmps.getD 50 undef, a0.tmps.getD 51 undef, a0.tmps.getD 52 undef, a0.tmps.getD 53 undef, a0.tmps.getD 54 undef, a0.tmps.getD 55 undef, a0.tmps.getD 56 undef, a0.tmps.getD 57 undef, a0.tmps.getD 58 undef, a0.tmps.getD 59 undef, a0.tmps.getD 60 undef, a0.tmps.getD 61 undef, 0, 0, 0, 0, 0, 0, by simp only [put_self], .start, .start, .start, .start, .start, .start, .start, .start, .start, .start, .start, .start, .start, .start, .start, .start, .start, .start, hbel, hs, hres, hr, .start⟩

set_option maxHeartbeats 8000000 in
theorem runSnow_s {A0 A1 A2 A3 T : Option Nat} {a0 a1 a2 a3 t : Nat} (a1_ : Option Addr) (cap1 : Nat) (X : List Nat) (a2_ : Option Addr) (cap2 : Nat) (V : List Nat) (w : World) (ha0 : Is32 A0 a0) (ha1 : Is32 A1 a1) (ha2 : Is32 A2 a2) (ha3 : Is32 A3 a3) (h1 : RowF .f32 w a1_ X) (hl1 : X.length ≤ 1048576) (hz1 : ∀ z ∈ X, z < 4294967296) (h2 : RowF .f32 w a2_ V) (hl2 : V.length ≤ 1048576) (hz2 : ∀ z ∈ V, z < 4294967296) (ht : Is32 T t) : Calls Try.prog 23 #[.agg #[.float .f32 a0, .float .f32 a1, .float .f32 a2, .float .f32 a3], .slice a1_ X.length cap1, .slice a2_ V.length cap2, .float .f32 t] w (RunB (runSnowO A0 A1 A2 A3 T X V) w) := by
  obtain ⟨Q, hQ⟩ : ∃ Q, runSnowO A0 A1 A2 A3 T X V = Q := ⟨_, rfl⟩
  rw [hQ]
  have HQ := Lib.hid hQ
  have H1 := Lib.hid h1
  have H2 := Lib.hid h2
  have HZ1 := Lib.hid hz1
  have HZ2 := Lib.hid hz2
  clear hQ h1 h2 hz1 hz2
  go_enter Try.func23, Try.ntmps23
  go_wp2_with fail
  refine (l03Snow_o _ _ (Bx.of4 (by first | (simp; done) | (simp; omega) | omega) (by first | (simp [go_sem]; done) | (simp (maxDischargeDepth := 8) [go_sem]; done) | (simp (maxDischargeDepth := 8) [go_sem]; rfl)) (by first | (simp [go_sem]; done) | (simp (maxDischargeDepth := 8) [go_sem]; done) | (simp (maxDischargeDepth := 8) [go_sem]; rfl)) (by first | (simp [go_sem]; done) | (simp (maxDischargeDepth := 8) [go_sem]; done) | (simp (maxDischargeDepth := 8) [go_sem]; rfl)) (by first | (simp [go_sem]; done) | (simp (maxDischargeDepth := 8) [go_sem]; done) | (simp (maxDischargeDepth := 8) [go_sem]; rfl))) ha0 ha1 ha2 ha3).mono ?_
  rintro e w1 ⟨bb, hbb, rfl, q1, hw1⟩
  have hb := drew_below hw1
  have Hs := Lib.hid hbb
  clear hbb hw1
  have hb1 : Below w.heap.size w w1 := Below.trans (by repeat (first | with_reducible exact (bel2 _ _ _ ) | with_reducible refine beld ?_ _ | (with_reducible refine Below.alloc ?_ ?_ _; rotate_left; exact (by first | (simp; done) | (simp; omega) | omega)) | (with_reducible refine Below.setCell ?_ ?_ _; rotate_left; exact (by first | (simp; done) | (simp; omega) | omega)))) (hb.mono (by first | (simp; done) | (simp; omega) | omega))
  have hs1 : w.heap.size + 2 ≤ w1.heap.size := (by have := hb.size; (try simp at this); omega)
  have bws : Bw w1 (w.heap.size) [.float .f32 a0, .float .f32 a1, .float .f32 a2, .float .f32 a3] := (by first | exact Bw.below (Bw.of4 (by first | (simp; done) | (simp; omega) | omega) (by first | (simp [go_sem]; done) | (simp (maxDischargeDepth := 8) [go_sem]; done) | (simp [go_sem]; rfl)) (by first | (simp [go_sem]; done) | (simp (maxDischargeDepth := 8) [go_sem]; done) | (simp [go_sem]; rfl)) (by first | (simp [go_sem]; done) | (simp (maxDischargeDepth := 8) [go_sem]; done) | (simp [go_sem]; rfl)) (by first | (simp [go_sem]; done) | (simp (maxDischargeDepth := 8) [go_sem]; done) | (simp [go_sem]; rfl)) (by first | (simp [go_sem]; done) | (simp (maxDischargeDepth := 8) [go_sem]; done) | (simp [go_sem]; rfl)) (by first | (simp [go_sem]; done) | (simp (maxDischargeDepth := 8) [go_sem]; done) | (simp [go_sem]; rfl)) (by first | (simp [go_sem]; done) | (simp (maxDischargeDepth := 8) [go_sem]; done) | (simp [go_sem]; rfl)) (by first | (simp [go_sem]; done) | (simp (maxDischargeDepth := 8) [go_sem]; done) | (simp [go_sem]; rfl))) hb (by first | (simp; done) | (simp; omega) | omega))
  have bwr : Bw w1 (w.heap.size + 1) [.float .f32 0, .float .f32 0, .float .f32 0, .float .f32 0] := (by first | exact Bw.below (Bw.of4 (by first | (simp; done) | (simp; omega) | omega) (by first | (simp [go_sem]; done) | (simp (maxDischargeDepth := 8) [go_sem]; done) | (simp [go_sem]; rfl)) (by first | (simp [go_sem]; done) | (simp (maxDischargeDepth := 8) [go_sem]; done) | (simp [go_sem]; rfl)) (by first | (simp [go_sem]; done) | (simp (maxDischargeDepth := 8) [go_sem]; done) | (simp [go_sem]; rfl)) (by first | (simp [go_sem]; done) | (simp (maxDischargeDepth := 8) [go_sem]; done) | (simp [go_sem]; rfl)) (by first | (simp [go_sem]; done) | (simp (maxDischargeDepth := 8) [go_sem]; done) | (simp [go_sem]; rfl)) (by first | (simp [go_sem]; done) | (simp (maxDischargeDepth := 8) [go_sem]; done) | (simp [go_sem]; rfl)) (by first | (simp [go_sem]; done) | (simp (maxDischargeDepth := 8) [go_sem]; done) | (simp [go_sem]; rfl)) (by first | (simp [go_sem]; done) | (simp (maxDischargeDepth := 8) [go_sem]; done) | (simp [go_sem]; rfl))) hb (by first | (simp; done) | (simp; omega) | omega))
  have cs0 := bws.c 0 rfl
  have fs0 := bws.f 0 (by simp)
  have cs1 := bws.c 1 rfl
  have fs1 := bws.f 1 (by simp)
  have cs2 := bws.c 2 rfl
  have fs2 := bws.f 2 (by simp)
  have cs3 := bws.c 3 rfl
  have fs3 := bws.f 3 (by simp)
  have BWs1 := Lib.hid bws
  clear bws
  have cr0 := bwr.c 0 rfl
  have fr0 := bwr.f 0 (by simp)
  have cr1 := bwr.c 1 rfl
  have fr1 := bwr.f 1 (by simp)
  have cr2 := bwr.c 2 rfl
  have fr2 := bwr.f 2 (by simp)
  have cr3 := bwr.c 3 rfl
  have fr3 := bwr.f 3 (by simp)
  have BWr1 := Lib.hid bwr
  clear bwr
  have Hb1 := Lib.hid hb1
  clear hb hb1
  cases bb
  · have hv : Q = failRun := by rw [← HQ.out]; unfold runSnowO; rw [Hs.out]; simp only [Bool.false_and, Bool.and_false]; rfl
    have HV := Lib.hid hv
    clear hv
    go_wp2_with fail
    rw [HV.out]
    exact bodyPost_ret (v := .tuple #[.agg #[.float .f32 0, .float .f32 0, .float .f32 0, .float .f32 0], .slice none 0 0, .bool false]) (by first | (simp [results, Try.results23, go_sem, cs0, fs0, cs1, fs1, cs2, fs2, cs3, fs3, cr0, fr0, cr1, fr1, cr2, fr2, cr3, fr3]; done) | (simp (maxDischargeDepth := 12) [results, Try.results23, go_sem, cs0, fs0, cs1, fs1, cs2, fs2, cs3, fs3, cr0, fr0, cr1, fr1, cr2, fr2, cr3, fr3]; done) | (simp (maxDischargeDepth := 12) [results, Try.results23, go_sem, cs0, fs0, cs1, fs1, cs2, fs2, cs3, fs3, cr0, fr0, cr1, fr1, cr2, fr2, cr3, fr3]; rfl)) rfl (RunB.no (by repeat (first | with_reducible exact Hb1.out | with_reducible refine beld ?_ _ | (with_reducible refine Below.alloc ?_ ?_ _; rotate_left; exact (by first | (simp; done) | (simp; omega) | omega)) | (with_reducible refine Below.setCell ?_ ?_ _; rotate_left; exact (by first | (simp; done) | (simp; omega) | omega)))))
  go_wp2_with fail
  refine (l03IsRain_o a1_ cap1 X _ (H1.out.below Hb1.out (Nat.le_refl _)) hl1 HZ1.out).mono ?_
  rintro e w2 ⟨bb, hbb, rfl, q2, hw2⟩
  have hb := drew_below hw2
  have Hx := Lib.hid hbb
  clear hbb hw2
  have hb2 : Below w.heap.size w w2 := Below.trans (by repeat (first | with_reducible exact Hb1.out | with_reducible refine beld ?_ _ | (with_reducible refine Below.alloc ?_ ?_ _; rotate_left; exact (by first | (simp; done) | (simp; omega) | omega)) | (with_reducible refine Below.setCell ?_ ?_ _; rotate_left; exact (by first | (simp; done) | (simp; omega) | omega)))) (hb.mono (by first | (simp; done) | (simp; omega) | omega))
  have hs2 : w.heap.size + 2 ≤ w2.heap.size := (by have := hb.size; (try simp at this); omega)
  have bws : Bw w2 (w.heap.size) [.float .f32 a0, .float .f32 a1, .float .f32 a2, .float .f32 a3] := (by first | with_reducible exact Bw.below BWs1.out hb (by first | (simp; done) | (simp; omega) | omega) | with_reducible exact Bw.below (Bw.drewN BWs1.out _) hb (by first | (simp; done) | (simp; omega) | omega) | with_reducible exact Bw.below (Bw.alloc BWs1.out _) hb (by first | (simp; done) | (simp; omega) | omega) | with_reducible exact Bw.below (Bw.alloc (Bw.drewN BWs1.out _) _) hb (by first | (simp; done) | (simp; omega) | omega) | exact Bw.below (Bw.of4 (by first | (simp; done) | (simp; omega) | omega) (by first | (simp [go_sem, cs0, fs0, cs1, fs1, cs2, fs2, cs3, fs3, cr0, fr0, cr1, fr1, cr2, fr2, cr3, fr3]; done) | (simp (maxDischargeDepth := 8) [go_sem, cs0, fs0, cs1, fs1, cs2, fs2, cs3, fs3, cr0, fr0, cr1, fr1, cr2, fr2, cr3, fr3]; done) | (simp [go_sem, cs0, fs0, cs1, fs1, cs2, fs2, cs3, fs3, cr0, fr0, cr1, fr1, cr2, fr2, cr3, fr3]; rfl)) (by first | (simp [go_sem, cs0, fs0, cs1, fs1, cs2, fs2, cs3, fs3, cr0, fr0, cr1, fr1, cr2, fr2, cr3, fr3]; done) | (simp (maxDischargeDepth := 8) [go_sem, cs0, fs0, cs1, fs1, cs2, fs2, cs3, fs3, cr0, fr0, cr1, fr1, cr2, fr2, cr3, fr3]; done) | (simp [go_sem, cs0, fs0, cs1, fs1, cs2, fs2, cs3, fs3, cr0, fr0, cr1, fr1, cr2, fr2, cr3, fr3]; rfl)) (by first | (simp [go_sem, cs0, fs0, cs1, fs1, cs2, fs2, cs3, fs3, cr0, fr0, cr1, fr1, cr2, fr2, cr3, fr3]; done) | (simp (maxDischargeDepth := 8) [go_sem, cs0, fs0, cs1, fs1, cs2, fs2, cs3, fs3, cr0, fr0, cr1, fr1, cr2, fr2, cr3, fr3]; done) | (simp [go_sem, cs0, fs0, cs1, fs1, cs2, fs2, cs3, fs3, cr0, fr0, cr1, fr1, cr2, fr2, cr3, fr3]; rfl)) (by first | (simp [go_sem, cs0, fs0, cs1, fs1, cs2, fs2, cs3, fs3, cr0, fr0, cr1, fr1, cr2, fr2, cr3, fr3]; done) | (simp (maxDischargeDepth := 8) [go_sem, cs0, fs0, cs1, fs1, cs2, fs2, cs3, fs3, cr0, fr0, cr1, fr1, cr2, fr2, cr3, fr3]; done) | (simp [go_sem, cs0, fs0, cs1, fs1, cs2, fs2, cs3, fs3, cr0, fr0, cr1, fr1, cr2, fr2, cr3, fr3]; rfl)) (by first | (simp [go_sem, cs0, fs0, cs1, fs1, cs2, fs2, cs3, fs3, cr0, fr0, cr1, fr1, cr2, fr2, cr3, fr3]; done) | (simp (maxDischargeDepth := 8) [go_sem, cs0, fs0, cs1, fs1, cs2, fs2, cs3, fs3, cr0, fr0, cr1, fr1, cr2, fr2, cr3, fr3]; done) | (simp [go_sem, cs0, fs0, cs1, fs1, cs2, fs2, cs3, fs3, cr0, fr0, cr1, fr1, cr2, fr2, cr3, fr3]; rfl)) (by first | (simp [go_sem, cs0, fs0, cs1, fs1, cs2, fs2, cs3, fs3, cr0, fr0, cr1, fr1, cr2, fr2, cr3, fr3]; done) | (simp (maxDischargeDepth := 8) [go_sem, cs0, fs0, cs1, fs1, cs2, fs2, cs3, fs3, cr0, fr0, cr1, fr1, cr2, fr2, cr3, fr3]; done) | (simp [go_sem, cs0, fs0, cs1, fs1, cs2, fs2, cs3, fs3, cr0, fr0, cr1, fr1, cr2, fr2, cr3, fr3]; rfl)) (by first | (simp [go_sem, cs0, fs0, cs1, fs1, cs2, fs2, cs3, fs3, cr0, fr0, cr1, fr1, cr2, fr2, cr3, fr3]; done) | (simp (maxDischargeDepth := 8) [go_sem, cs0, fs0, cs1, fs1, cs2, fs2, cs3, fs3, cr0, fr0, cr1, fr1, cr2, fr2, cr3, fr3]; done) | (simp [go_sem, cs0, fs0, cs1, fs1, cs2, fs2, cs3, fs3, cr0, fr0, cr1, fr1, cr2, fr2, cr3, fr3]; rfl)) (by first | (simp [go_sem, cs0, fs0, cs1, fs1, cs2, fs2, cs3, fs3, cr0, fr0, cr1, fr1, cr2, fr2, cr3, fr3]; done) | (simp (maxDischargeDepth := 8) [go_sem, cs0, fs0, cs1, fs1, cs2, fs2, cs3, fs3, cr0, fr0, cr1, fr1, cr2, fr2, cr3, fr3]; done) | (simp [go_sem, cs0, fs0, cs1, fs1, cs2, fs2, cs3, fs3, cr0, fr0, cr1, fr1, cr2, fr2, cr3, fr3]; rfl))) hb (by first | (simp; done) | (simp; omega) | omega))
  have bwr : Bw w2 (w.heap.size + 1) [.float .f32 0, .float .f32 0, .float .f32 0, .float .f32 0] := (by first | with_reducible exact Bw.below BWr1.out hb (by first | (simp; done) | (simp; omega) | omega) | with_reducible exact Bw.below (Bw.drewN BWr1.out _) hb (by first | (simp; done) | (simp; omega) | omega) | with_reducible exact Bw.below (Bw.alloc BWr1.out _) hb (by first | (simp; done) | (simp; omega) | omega) | with_reducible exact Bw.below (Bw.alloc (Bw.drewN BWr1.out _) _) hb (by first | (simp; done) | (simp; omega) | omega) | exact Bw.below (Bw.of4 (by first | (simp; done) | (simp; omega) | omega) (by first | (simp [go_sem, cs0, fs0, cs1, fs1, cs2, fs2, cs3, fs3, cr0, fr0, cr1, fr1, cr2, fr2, cr3, fr3]; done) | (simp (maxDischargeDepth := 8) [go_sem, cs0, fs0, cs1, fs1, cs2, fs2, cs3, fs3, cr0, fr0, cr1, fr1, cr2, fr2, cr3, fr3]; done) | (simp [go_sem, cs0, fs0, cs1, fs1, cs2, fs2, cs3, fs3, cr0, fr0, cr1, fr1, cr2, fr2, cr3, fr3]; rfl)) (by first | (simp [go_sem, cs0, fs0, cs1, fs1, cs2, fs2, cs3, fs3, cr0, fr0, cr1, fr1, cr2, fr2, cr3, fr3]; done) | (simp (maxDischargeDepth := 8) [go_sem, cs0, fs0, cs1, fs1, cs2, fs2, cs3, fs3, cr0, fr0, cr1, fr1, cr2, fr2, cr3, fr3]; done) | (simp [go_sem, cs0, fs0, cs1, fs1, cs2, fs2, cs3, fs3, cr0, fr0, cr1, fr1, cr2, fr2, cr3, fr3]; rfl)) (by first | (simp [go_sem, cs0, fs0, cs1, fs1, cs2, fs2, cs3, fs3, cr0, fr0, cr1, fr1, cr2, fr2, cr3, fr3]; done) | (simp (maxDischargeDepth := 8) [go_sem, cs0, fs0, cs1, fs1, cs2, fs2, cs3, fs3, cr0, fr0, cr1, fr1, cr2, fr2, cr3, fr3]; done) | (simp [go_sem, cs0, fs0, cs1, fs1, cs2, fs2, cs3, fs3, cr0, fr0, cr1, fr1, cr2, fr2, cr3, fr3]; rfl)) (by first | (simp [go_sem, cs0, fs0, cs1, fs1, cs2, fs2, cs3, fs3, cr0, fr0, cr1, fr1, cr2, fr2, cr3, fr3]; done) | (simp (maxDischargeDepth := 8) [go_sem, cs0, fs0, cs1, fs1, cs2, fs2, cs3, fs3, cr0, fr0, cr1, fr1, cr2, fr2, cr3, fr3]; done) | (simp [go_sem, cs0, fs0, cs1, fs1, cs2, fs2, cs3, fs3, cr0, fr0, cr1, fr1, cr2, fr2, cr3, fr3]; rfl)) (by first | (simp [go_sem, cs0, fs0, cs1, fs1, cs2, fs2, cs3, fs3, cr0, fr0, cr1, fr1, cr2, fr2, cr3, fr3]; done) | (simp (maxDischargeDepth := 8) [go_sem, cs0, fs0, cs1, fs1, cs2, fs2, cs3, fs3, cr0, fr0, cr1, fr1, cr2, fr2, cr3, fr3]; done) | (simp [go_sem, cs0, fs0, cs1, fs1, cs2, fs2, cs3, fs3, cr0, fr0, cr1, fr1, cr2, fr2, cr3, fr3]; rfl)) (by first | (simp [go_sem, cs0, fs0, cs1, fs1, cs2, fs2, cs3, fs3, cr0, fr0, cr1, fr1, cr2, fr2, cr3, fr3]; done) | (simp (maxDischargeDepth := 8) [go_sem, cs0, fs0, cs1, fs1, cs2, fs2, cs3, fs3, cr0, fr0, cr1, fr1, cr2, fr2, cr3, fr3]; done) | (simp [go_sem, cs0, fs0, cs1, fs1, cs2, fs2, cs3, fs3, cr0, fr0, cr1, fr1, cr2, fr2, cr3, fr3]; rfl)) (by first | (simp [go_sem, cs0, fs0, cs1, fs1, cs2, fs2, cs3, fs3, cr0, fr0, cr1, fr1, cr2, fr2, cr3, fr3]; done) | (simp (maxDischargeDepth := 8) [go_sem, cs0, fs0, cs1, fs1, cs2, fs2, cs3, fs3, cr0, fr0, cr1, fr1, cr2, fr2, cr3, fr3]; done) | (simp [go_sem, cs0, fs0, cs1, fs1, cs2, fs2, cs3, fs3, cr0, fr0, cr1, fr1, cr2, fr2, cr3, fr3]; rfl)) (by first | (simp [go_sem, cs0, fs0, cs1, fs1, cs2, fs2, cs3, fs3, cr0, fr0, cr1, fr1, cr2, fr2, cr3, fr3]; done) | (simp (maxDischargeDepth := 8) [go_sem, cs0, fs0, cs1, fs1, cs2, fs2, cs3, fs3, cr0, fr0, cr1, fr1, cr2, fr2, cr3, fr3]; done) | (simp [go_sem, cs0, fs0, cs1, fs1, cs2, fs2, cs3, fs3, cr0, fr0, cr1, fr1, cr2, fr2, cr3, fr3]; rfl))) hb (by first | (simp; done) | (simp; omega) | omega))
  clear cs0 fs0 cs1 fs1 cs2 fs2 cs3 fs3 cr0 fr0 cr1 fr1 cr2 fr2 cr3 fr3 BWs1 BWr1
  have cs0 := bws.c 0 rfl
  have fs0 := bws.f 0 (by simp)
  have cs1 := bws.c 1 rfl
  have fs1 := bws.f 1 (by simp)
  have cs2 := bws.c 2 rfl
  have fs2 := bws.f 2 (by simp)
  have cs3 := bws.c 3 rfl
  have fs3 := bws.f 3 (by simp)
  have BWs2 := Lib.hid bws
  clear bws
  have cr0 := bwr.c 0 rfl
  have fr0 := bwr.f 0 (by simp)
  have cr1 := bwr.c 1 rfl
  have fr1 := bwr.f 1 (by simp)
  have cr2 := bwr.c 2 rfl
  have fr2 := bwr.f 2 (by simp)
  have cr3 := bwr.c 3 rfl
  have fr3 := bwr.f 3 (by simp)
  have BWr2 := Lib.hid bwr
  clear bwr
  have Hb2 := Lib.hid hb2
  clear hb hb2
  cases bb
  · have hv : Q = failRun := by rw [← HQ.out]; unfold runSnowO; rw [Hx.out]; simp only [Bool.false_and, Bool.and_false]; rfl
    have HV := Lib.hid hv
    clear hv
    go_wp2_with fail
    rw [HV.out]
    exact bodyPost_ret (v := .tuple #[.agg #[.float .f32 0, .float .f32 0, .float .f32 0, .float .f32 0], .slice none 0 0, .bool false]) (by first | (simp [results, Try.results23, go_sem, cs0, fs0, cs1, fs1, cs2, fs2, cs3, fs3, cr0, fr0, cr1, fr1, cr2, fr2, cr3, fr3]; done) | (simp (maxDischargeDepth := 12) [results, Try.results23, go_sem, cs0, fs0, cs1, fs1, cs2, fs2, cs3, fs3, cr0, fr0, cr1, fr1, cr2, fr2, cr3, fr3]; done) | (simp (maxDischargeDepth := 12) [results, Try.results23, go_sem, cs0, fs0, cs1, fs1, cs2, fs2, cs3, fs3, cr0, fr0, cr1, fr1, cr2, fr2, cr3, fr3]; rfl)) rfl (RunB.no (by repeat (first | with_reducible exact Hb2.out | with_reducible refine beld ?_ _ | (with_reducible refine Below.alloc ?_ ?_ _; rotate_left; exact (by first | (simp; done) | (simp; omega) | omega)) | (with_reducible refine Below.setCell ?_ ?_ _; rotate_left; exact (by first | (simp; done) | (simp; omega) | omega)))))
  by_cases hlen : V.length = X.length
  rotate_left
  · have hne : ¬ ((V.length : Int) = (X.length : Int)) := by omega
    have hv : Q = failRun := by rw [← HQ.out]; unfold runSnowO; rw [decide_eq_false hlen]; simp only [Bool.false_and, Bool.and_false]; rfl
    have HV := Lib.hid hv
    clear hv
    go_wp2_with fail
    rw [HV.out]
    exact bodyPost_ret (v := .tuple #[.agg #[.float .f32 0, .float .f32 0, .float .f32 0, .float .f32 0], .slice none 0 0, .bool false]) (by first | (simp [results, Try.results23, go_sem, cs0, fs0, cs1, fs1, cs2, fs2, cs3, fs3, cr0, fr0, cr1, fr1, cr2, fr2, cr3, fr3]; done) | (simp (maxDischargeDepth := 12) [results, Try.results23, go_sem, cs0, fs0, cs1, fs1, cs2, fs2, cs3, fs3, cr0, fr0, cr1, fr1, cr2, fr2, cr3, fr3]; done) | (simp (maxDischargeDepth := 12) [results, Try.results23, go_sem, cs0, fs0, cs1, fs1, cs2, fs2, cs3, fs3, cr0, fr0, cr1, fr1, cr2, fr2, cr3, fr3]; rfl)) rfl (RunB.no (by repeat (first | with_reducible exact Hb2.out | with_reducible refine beld ?_ _ | (with_reducible refine Below.alloc ?_ ?_ _; rotate_left; exact (by first | (simp; done) | (simp; omega) | omega)) | (with_reducible refine Below.setCell ?_ ?_ _; rotate_left; exact (by first | (simp; done) | (simp; omega) | omega)))))
  have hli : (V.length : Int) = (X.length : Int) := by omega
  go_wp2_with fail
  refine (by rw [← hlen]; exact l02Fin_g a2_ cap2 V _ (H2.out.below Hb2.out (Nat.le_refl _)) hl2 : Calls Try.prog 70 #[.slice a2_ X.length cap2] _ (SayQ (V.all fin32) _)).mono ?_
  rintro e w3 ⟨bb, hbb, rfl, q3, hw3⟩
  have hb := drew_below hw3
  have Hf := Lib.hid hbb
  clear hbb hw3
  have hb3 : Below w.heap.size w w3 := Below.trans (by repeat (first | with_reducible exact Hb2.out | with_reducible refine beld ?_ _ | (with_reducible refine Below.alloc ?_ ?_ _; rotate_left; exact (by first | (simp; done) | (simp; omega) | omega)) | (with_reducible refine Below.setCell ?_ ?_ _; rotate_left; exact (by first | (simp; done) | (simp; omega) | omega)))) (hb.mono (by first | (simp; done) | (simp; omega) | omega))
  have hs3 : w.heap.size + 2 ≤ w3.heap.size := (by have := hb.size; (try simp at this); omega)
  have bws : Bw w3 (w.heap.size) [.float .f32 a0, .float .f32 a1, .float .f32 a2, .float .f32 a3] := (by first | with_reducible exact Bw.below BWs2.out hb (by first | (simp; done) | (simp; omega) | omega) | with_reducible exact Bw.below (Bw.drewN BWs2.out _) hb (by first | (simp; done) | (simp; omega) | omega) | with_reducible exact Bw.below (Bw.alloc BWs2.out _) hb (by first | (simp; done) | (simp; omega) | omega) | with_reducible exact Bw.below (Bw.alloc (Bw.drewN BWs2.out _) _) hb (by first | (simp; done) | (simp; omega) | omega) | exact Bw.below (Bw.of4 (by first | (simp; done) | (simp; omega) | omega) (by first | (simp [go_sem, cs0, fs0, cs1, fs1, cs2, fs2, cs3, fs3, cr0, fr0, cr1, fr1, cr2, fr2, cr3, fr3]; done) | (simp (maxDischargeDepth := 8) [go_sem, cs0, fs0, cs1, fs1, cs2, fs2, cs3, fs3, cr0, fr0, cr1, fr1, cr2, fr2, cr3, fr3]; done) | (simp [go_sem, cs0, fs0, cs1, fs1, cs2, fs2, cs3, fs3, cr0, fr0, cr1, fr1, cr2, fr2, cr3, fr3]; rfl)) (by first | (simp [go_sem, cs0, fs0, cs1, fs1, cs2, fs2, cs3, fs3, cr0, fr0, cr1, fr1, cr2, fr2, cr3, fr3]; done) | (simp (maxDischargeDepth := 8) [go_sem, cs0, fs0, cs1, fs1, cs2, fs2, cs3, fs3, cr0, fr0, cr1, fr1, cr2, fr2, cr3, fr3]; done) | (simp [go_sem, cs0, fs0, cs1, fs1, cs2, fs2, cs3, fs3, cr0, fr0, cr1, fr1, cr2, fr2, cr3, fr3]; rfl)) (by first | (simp [go_sem, cs0, fs0, cs1, fs1, cs2, fs2, cs3, fs3, cr0, fr0, cr1, fr1, cr2, fr2, cr3, fr3]; done) | (simp (maxDischargeDepth := 8) [go_sem, cs0, fs0, cs1, fs1, cs2, fs2, cs3, fs3, cr0, fr0, cr1, fr1, cr2, fr2, cr3, fr3]; done) | (simp [go_sem, cs0, fs0, cs1, fs1, cs2, fs2, cs3, fs3, cr0, fr0, cr1, fr1, cr2, fr2, cr3, fr3]; rfl)) (by first | (simp [go_sem, cs0, fs0, cs1, fs1, cs2, fs2, cs3, fs3, cr0, fr0, cr1, fr1, cr2, fr2, cr3, fr3]; done) | (simp (maxDischargeDepth := 8) [go_sem, cs0, fs0, cs1, fs1, cs2, fs2, cs3, fs3, cr0, fr0, cr1, fr1, cr2, fr2, cr3, fr3]; done) | (simp [go_sem, cs0, fs0, cs1, fs1, cs2, fs2, cs3, fs3, cr0, fr0, cr1, fr1, cr2, fr2, cr3, fr3]; rfl)) (by first | (simp [go_sem, cs0, fs0, cs1, fs1, cs2, fs2, cs3, fs3, cr0, fr0, cr1, fr1, cr2, fr2, cr3, fr3]; done) | (simp (maxDischargeDepth := 8) [go_sem, cs0, fs0, cs1, fs1, cs2, fs2, cs3, fs3, cr0, fr0, cr1, fr1, cr2, fr2, cr3, fr3]; done) | (simp [go_sem, cs0, fs0, cs1, fs1, cs2, fs2, cs3, fs3, cr0, fr0, cr1, fr1, cr2, fr2, cr3, fr3]; rfl)) (by first | (simp [go_sem, cs0, fs0, cs1, fs1, cs2, fs2, cs3, fs3, cr0, fr0, cr1, fr1, cr2, fr2, cr3, fr3]; done) | (simp (maxDischargeDepth := 8) [go_sem, cs0, fs0, cs1, fs1, cs2, fs2, cs3, fs3, cr0, fr0, cr1, fr1, cr2, fr2, cr3, fr3]; done) | (simp [go_sem, cs0, fs0, cs1, fs1, cs2, fs2, cs3, fs3, cr0, fr0, cr1, fr1, cr2, fr2, cr3, fr3]; rfl)) (by first | (simp [go_sem, cs0, fs0, cs1, fs1, cs2, fs2, cs3, fs3, cr0, fr0, cr1, fr1, cr2, fr2, cr3, fr3]; done) | (simp (maxDischargeDepth := 8) [go_sem, cs0, fs0, cs1, fs1, cs2, fs2, cs3, fs3, cr0, fr0, cr1, fr1, cr2, fr2, cr3, fr3]; done) | (simp [go_sem, cs0, fs0, cs1, fs1, cs2, fs2, cs3, fs3, cr0, fr0, cr1, fr1, cr2, fr2, cr3, fr3]; rfl)) (by first | (simp [go_sem, cs0, fs0, cs1, fs1, cs2, fs2, cs3, fs3, cr0, fr0, cr1, fr1, cr2, fr2, cr3, fr3]; done) | (simp (maxDischargeDepth := 8) [go_sem, cs0, fs0, cs1, fs1, cs2, fs2, cs3, fs3, cr0, fr0, cr1, fr1, cr2, fr2, cr3, fr3]; done) | (simp [go_sem, cs0, fs0, cs1, fs1, cs2, fs2, cs3, fs3, cr0, fr0, cr1, fr1, cr2, fr2, cr3, fr3]; rfl))) hb (by first | (simp; done) | (simp; omega) | omega))
  have bwr : Bw w3 (w.heap.size + 1) [.float .f32 0, .float .f32 0, .float .f32 0, .float .f32 0] := (by first | with_reducible exact Bw.below BWr2.out hb (by first | (simp; done) | (simp; omega) | omega) | with_reducible exact Bw.below (Bw.drewN BWr2.out _) hb (by first | (simp; done) | (simp; omega) | omega) | with_reducible exact Bw.below (Bw.alloc BWr2.out _) hb (by first | (simp; done) | (simp; omega) | omega) | with_reducible exact Bw.below (Bw.alloc (Bw.drewN BWr2.out _) _) hb (by first | (simp; done) | (simp; omega) | omega) | exact Bw.below (Bw.of4 (by first | (simp; done) | (simp; omega) | omega) (by first | (simp [go_sem, cs0, fs0, cs1, fs1, cs2, fs2, cs3, fs3, cr0, fr0, cr1, fr1, cr2, fr2, cr3, fr3]; done) | (simp (maxDischargeDepth := 8) [go_sem, cs0, fs0, cs1, fs1, cs2, fs2, cs3, fs3, cr0, fr0, cr1, fr1, cr2, fr2, cr3, fr3]; done) | (simp [go_sem, cs0, fs0, cs1, fs1, cs2, fs2, cs3, fs3, cr0, fr0, cr1, fr1, cr2, fr2, cr3, fr3]; rfl)) (by first | (simp [go_sem, cs0, fs0, cs1, fs1, cs2, fs2, cs3, fs3, cr0, fr0, cr1, fr1, cr2, fr2, cr3, fr3]; done) | (simp (maxDischargeDepth := 8) [go_sem, cs0, fs0, cs1, fs1, cs2, fs2, cs3, fs3, cr0, fr0, cr1, fr1, cr2, fr2, cr3, fr3]; done) | (simp [go_sem, cs0, fs0, cs1, fs1, cs2, fs2, cs3, fs3, cr0, fr0, cr1, fr1, cr2, fr2, cr3, fr3]; rfl)) (by first | (simp [go_sem, cs0, fs0, cs1, fs1, cs2, fs2, cs3, fs3, cr0, fr0, cr1, fr1, cr2, fr2, cr3, fr3]; done) | (simp (maxDischargeDepth := 8) [go_sem, cs0, fs0, cs1, fs1, cs2, fs2, cs3, fs3, cr0, fr0, cr1, fr1, cr2, fr2, cr3, fr3]; done) | (simp [go_sem, cs0, fs0, cs1, fs1, cs2, fs2, cs3, fs3, cr0, fr0, cr1, fr1, cr2, fr2, cr3, fr3]; rfl)) (by first | (simp [go_sem, cs0, fs0, cs1, fs1, cs2, fs2, cs3, fs3, cr0, fr0, cr1, fr1, cr2, fr2, cr3, fr3]; done) | (simp (maxDischargeDepth := 8) [go_sem, cs0, fs0, cs1, fs1, cs2, fs2, cs3, fs3, cr0, fr0, cr1, fr1, cr2, fr2, cr3, fr3]; done) | (simp [go_sem, cs0, fs0, cs1, fs1, cs2, fs2, cs3, fs3, cr0, fr0, cr1, fr1, cr2, fr2, cr3, fr3]; rfl)) (by first | (simp [go_sem, cs0, fs0, cs1, fs1, cs2, fs2, cs3, fs3, cr0, fr0, cr1, fr1, cr2, fr2, cr3, fr3]; done) | (simp (maxDischargeDepth := 8) [go_sem, cs0, fs0, cs1, fs1, cs2, fs2, cs3, fs3, cr0, fr0, cr1, fr1, cr2, fr2, cr3, fr3]; done) | (simp [go_sem, cs0, fs0, cs1, fs1, cs2, fs2, cs3, fs3, cr0, fr0, cr1, fr1, cr2, fr2, cr3, fr3]; rfl)) (by first | (simp [go_sem, cs0, fs0, cs1, fs1, cs2, fs2, cs3, fs3, cr0, fr0, cr1, fr1, cr2, fr2, cr3, fr3]; done) | (simp (maxDischargeDepth := 8) [go_sem, cs0, fs0, cs1, fs1, cs2, fs2, cs3, fs3, cr0, fr0, cr1, fr1, cr2, fr2, cr3, fr3]; done) | (simp [go_sem, cs0, fs0, cs1, fs1, cs2, fs2, cs3, fs3, cr0, fr0, cr1, fr1, cr2, fr2, cr3, fr3]; rfl)) (by first | (simp [go_sem, cs0, fs0, cs1, fs1, cs2, fs2, cs3, fs3, cr0, fr0, cr1, fr1, cr2, fr2, cr3, fr3]; done) | (simp (maxDischargeDepth := 8) [go_sem, cs0, fs0, cs1, fs1, cs2, fs2, cs3, fs3, cr0, fr0, cr1, fr1, cr2, fr2, cr3, fr3]; done) | (simp [go_sem, cs0, fs0, cs1, fs1, cs2, fs2, cs3, fs3, cr0, fr0, cr1, fr1, cr2, fr2, cr3, fr3]; rfl)) (by first | (simp [go_sem, cs0, fs0, cs1, fs1, cs2, fs2, cs3, fs3, cr0, fr0, cr1, fr1, cr2, fr2, cr3, fr3]; done) | (simp (maxDischargeDepth := 8) [go_sem, cs0, fs0, cs1, fs1, cs2, fs2, cs3, fs3, cr0, fr0, cr1, fr1, cr2, fr2, cr3, fr3]; done) | (simp [go_sem, cs0, fs0, cs1, fs1, cs2, fs2, cs3, fs3, cr0, fr0, cr1, fr1, cr2, fr2, cr3, fr3]; rfl))) hb (by first | (simp; done) | (simp; omega) | omega))
  clear cs0 fs0 cs1 fs1 cs2 fs2 cs3 fs3 cr0 fr0 cr1 fr1 cr2 fr2 cr3 fr3 BWs2 BWr2
  have cs0 := bws.c 0 rfl
  have fs0 := bws.f 0 (by simp)
  have cs1 := bws.c 1 rfl
  have fs1 := bws.f 1 (by simp)
  have cs2 := bws.c 2 rfl
  have fs2 := bws.f 2 (by simp)
  have cs3 := bws.c 3 rfl
  have fs3 := bws.f 3 (by simp)
  have BWs3 := Lib.hid bws
  clear bws
  have cr0 := bwr.c 0 rfl
  have fr0 := bwr.f 0 (by simp)
  have cr1 := bwr.c 1 rfl
  have fr1 := bwr.f 1 (by simp)
  have cr2 := bwr.c 2 rfl
  have fr2 := bwr.f 2 (by simp)
  have cr3 := bwr.c 3 rfl
  have fr3 := bwr.f 3 (by simp)
  have BWr3 := Lib.hid bwr
  clear bwr
  have Hb3 := Lib.hid hb3
  clear hb hb3
  cases bb
  · have hv : Q = failRun := by (have hno : ¬ (snOk A0 A1 A2 A3 T X V X.length = true) := (fun h9 => by rw [← hlen] at h9; have h8 := snOk_warm h9; rw [Hf.out] at h8; cases h8); rw [← HQ.out]; unfold runSnowO; rw [if_neg hno]; exact ite_self _)
    have HV := Lib.hid hv
    clear hv
    go_wp2_with fail
    rw [HV.out]
    exact bodyPost_ret (v := .tuple #[.agg #[.float .f32 0, .float .f32 0, .float .f32 0, .float .f32 0], .slice none 0 0, .bool false]) (by first | (simp [results, Try.results23, go_sem, cs0, fs0, cs1, fs1, cs2, fs2, cs3, fs3, cr0, fr0, cr1, fr1, cr2, fr2, cr3, fr3]; done) | (simp (maxDischargeDepth := 12) [results, Try.results23, go_sem, cs0, fs0, cs1, fs1, cs2, fs2, cs3, fs3, cr0, fr0, cr1, fr1, cr2, fr2, cr3, fr3]; done) | (simp (maxDischargeDepth := 12) [results, Try.results23, go_sem, cs0, fs0, cs1, fs1, cs2, fs2, cs3, fs3, cr0, fr0, cr1, fr1, cr2, fr2, cr3, fr3]; rfl)) rfl (RunB.no (by repeat (first | with_reducible exact Hb3.out | with_reducible refine beld ?_ _ | (with_reducible refine Below.alloc ?_ ?_ _; rotate_left; exact (by first | (simp; done) | (simp; omega) | omega)) | (with_reducible refine Below.setCell ?_ ?_ _; rotate_left; exact (by first | (simp; done) | (simp; omega) | omega)))))
  go_wp2_with fail
  refine (l02Above_o _ ht).mono ?_
  rintro e w4 ⟨bb, hbb, rfl, q4, hw4⟩
  have hb := drew_below hw4
  have Hp := Lib.hid hbb
  clear hbb hw4
  have hb4 : Below w.heap.size w w4 := Below.trans (by repeat (first | with_reducible exact Hb3.out | with_reducible refine beld ?_ _ | (with_reducible refine Below.alloc ?_ ?_ _; rotate_left; exact (by first | (simp; done) | (simp; omega) | omega)) | (with_reducible refine Below.setCell ?_ ?_ _; rotate_left; exact (by first | (simp; done) | (simp; omega) | omega)))) (hb.mono (by first | (simp; done) | (simp; omega) | omega))
  have hs4 : w.heap.size + 2 ≤ w4.heap.size := (by have := hb.size; (try simp at this); omega)
  have bws : Bw w4 (w.heap.size) [.float .f32 a0, .float .f32 a1, .float .f32 a2, .float .f32 a3] := (by first | with_reducible exact Bw.below BWs3.out hb (by first | (simp; done) | (simp; omega) | omega) | with_reducible exact Bw.below (Bw.drewN BWs3.out _) hb (by first | (simp; done) | (simp; omega) | omega) | with_reducible exact Bw.below (Bw.alloc BWs3.out _) hb (by first | (simp; done) | (simp; omega) | omega) | with_reducible exact Bw.below (Bw.alloc (Bw.drewN BWs3.out _) _) hb (by first | (simp; done) | (simp; omega) | omega) | exact Bw.below (Bw.of4 (by first | (simp; done) | (simp; omega) | omega) (by first | (simp [go_sem, cs0, fs0, cs1, fs1, cs2, fs2, cs3, fs3, cr0, fr0, cr1, fr1, cr2, fr2, cr3, fr3]; done) | (simp (maxDischargeDepth := 8) [go_sem, cs0, fs0, cs1, fs1, cs2, fs2, cs3, fs3, cr0, fr0, cr1, fr1, cr2, fr2, cr3, fr3]; done) | (simp [go_sem, cs0, fs0, cs1, fs1, cs2, fs2, cs3, fs3, cr0, fr0, cr1, fr1, cr2, fr2, cr3, fr3]; rfl)) (by first | (simp [go_sem, cs0, fs0, cs1, fs1, cs2, fs2, cs3, fs3, cr0, fr0, cr1, fr1, cr2, fr2, cr3, fr3]; done) | (simp (maxDischargeDepth := 8) [go_sem, cs0, fs0, cs1, fs1, cs2, fs2, cs3, fs3, cr0, fr0, cr1, fr1, cr2, fr2, cr3, fr3]; done) | (simp [go_sem, cs0, fs0, cs1, fs1, cs2, fs2, cs3, fs3, cr0, fr0, cr1, fr1, cr2, fr2, cr3, fr3]; rfl)) (by first | (simp [go_sem, cs0, fs0, cs1, fs1, cs2, fs2, cs3, fs3, cr0, fr0, cr1, fr1, cr2, fr2, cr3, fr3]; done) | (simp (maxDischargeDepth := 8) [go_sem, cs0, fs0, cs1, fs1, cs2, fs2, cs3, fs3, cr0, fr0, cr1, fr1, cr2, fr2, cr3, fr3]; done) | (simp [go_sem, cs0, fs0, cs1, fs1, cs2, fs2, cs3, fs3, cr0, fr0, cr1, fr1, cr2, fr2, cr3, fr3]; rfl)) (by first | (simp [go_sem, cs0, fs0, cs1, fs1, cs2, fs2, cs3, fs3, cr0, fr0, cr1, fr1, cr2, fr2, cr3, fr3]; done) | (simp (maxDischargeDepth := 8) [go_sem, cs0, fs0, cs1, fs1, cs2, fs2, cs3, fs3, cr0, fr0, cr1, fr1, cr2, fr2, cr3, fr3]; done) | (simp [go_sem, cs0, fs0, cs1, fs1, cs2, fs2, cs3, fs3, cr0, fr0, cr1, fr1, cr2, fr2, cr3, fr3]; rfl)) (by first | (simp [go_sem, cs0, fs0, cs1, fs1, cs2, fs2, cs3, fs3, cr0, fr0, cr1, fr1, cr2, fr2, cr3, fr3]; done) | (simp (maxDischargeDepth := 8) [go_sem, cs0, fs0, cs1, fs1, cs2, fs2, cs3, fs3, cr0, fr0, cr1, fr1, cr2, fr2, cr3, fr3]; done) | (simp [go_sem, cs0, fs0, cs1, fs1, cs2, fs2, cs3, fs3, cr0, fr0, cr1, fr1, cr2, fr2, cr3, fr3]; rfl)) (by first | (simp [go_sem, cs0, fs0, cs1, fs1, cs2, fs2, cs3, fs3, cr0, fr0, cr1, fr1, cr2, fr2, cr3, fr3]; done) | (simp (maxDischargeDepth := 8) [go_sem, cs0, fs0, cs1, fs1, cs2, fs2, cs3, fs3, cr0, fr0, cr1, fr1, cr2, fr2, cr3, fr3]; done) | (simp [go_sem, cs0, fs0, cs1, fs1, cs2, fs2, cs3, fs3, cr0, fr0, cr1, fr1, cr2, fr2, cr3, fr3]; rfl)) (by first | (simp [go_sem, cs0, fs0, cs1, fs1, cs2, fs2, cs3, fs3, cr0, fr0, cr1, fr1, cr2, fr2, cr3, fr3]; done) | (simp (maxDischargeDepth := 8) [go_sem, cs0, fs0, cs1, fs1, cs2, fs2, cs3, fs3, cr0, fr0, cr1, fr1, cr2, fr2, cr3, fr3]; done) | (simp [go_sem, cs0, fs0, cs1, fs1, cs2, fs2, cs3, fs3, cr0, fr0, cr1, fr1, cr2, fr2, cr3, fr3]; rfl)) (by first | (simp [go_sem, cs0, fs0, cs1, fs1, cs2, fs2, cs3, fs3, cr0, fr0, cr1, fr1, cr2, fr2, cr3, fr3]; done) | (simp (maxDischargeDepth := 8) [go_sem, cs0, fs0, cs1, fs1, cs2, fs2, cs3, fs3, cr0, fr0, cr1, fr1, cr2, fr2, cr3, fr3]; done) | (simp [go_sem, cs0, fs0, cs1, fs1, cs2, fs2, cs3, fs3, cr0, fr0, cr1, fr1, cr2, fr2, cr3, fr3]; rfl))) hb (by first | (simp; done) | (simp; omega) | omega))
  have bwr : Bw w4 (w.heap.size + 1) [.float .f32 0, .float .f32 0, .float .f32 0, .float .f32 0] := (by first | with_reducible exact Bw.below BWr3.out hb (by first | (simp; done) | (simp; omega) | omega) | with_reducible exact Bw.below (Bw.drewN BWr3.out _) hb (by first | (simp; done) | (simp; omega) | omega) | with_reducible exact Bw.below (Bw.alloc BWr3.out _) hb (by first | (simp; done) | (simp; omega) | omega) | with_reducible exact Bw.below (Bw.alloc (Bw.drewN BWr3.out _) _) hb (by first | (simp; done) | (simp; omega) | omega) | exact Bw.below (Bw.of4 (by first | (simp; done) | (simp; omega) | omega) (by first | (simp [go_sem, cs0, fs0, cs1, fs1, cs2, fs2, cs3, fs3, cr0, fr0, cr1, fr1, cr2, fr2, cr3, fr3]; done) | (simp (maxDischargeDepth := 8) [go_sem, cs0, fs0, cs1, fs1, cs2, fs2, cs3, fs3, cr0, fr0, cr1, fr1, cr2, fr2, cr3, fr3]; done) | (simp [go_sem, cs0, fs0, cs1, fs1, cs2, fs2, cs3, fs3, cr0, fr0, cr1, fr1, cr2, fr2, cr3, fr3]; rfl)) (by first | (simp [go_sem, cs0, fs0, cs1, fs1, cs2, fs2, cs3, fs3, cr0, fr0, cr1, fr1, cr2, fr2, cr3, fr3]; done) | (simp (maxDischargeDepth := 8) [go_sem, cs0, fs0, cs1, fs1, cs2, fs2, cs3, fs3, cr0, fr0, cr1, fr1, cr2, fr2, cr3, fr3]; done) | (simp [go_sem, cs0, fs0, cs1, fs1, cs2, fs2, cs3, fs3, cr0, fr0, cr1, fr1, cr2, fr2, cr3, fr3]; rfl)) (by first | (simp [go_sem, cs0, fs0, cs1, fs1, cs2, fs2, cs3, fs3, cr0, fr0, cr1, fr1, cr2, fr2, cr3, fr3]; done) | (simp (maxDischargeDepth := 8) [go_sem, cs0, fs0, cs1, fs1, cs2, fs2, cs3, fs3, cr0, fr0, cr1, fr1, cr2, fr2, cr3, fr3]; done) | (simp [go_sem, cs0, fs0, cs1, fs1, cs2, fs2, cs3, fs3, cr0, fr0, cr1, fr1, cr2, fr2, cr3, fr3]; rfl)) (by first | (simp [go_sem, cs0, fs0, cs1, fs1, cs2, fs2, cs3, fs3, cr0, fr0, cr1, fr1, cr2, fr2, cr3, fr3]; done) | (simp (maxDischargeDepth := 8) [go_sem, cs0, fs0, cs1, fs1, cs2, fs2, cs3, fs3, cr0, fr0, cr1, fr1, cr2, fr2, cr3, fr3]; done) | (simp [go_sem, cs0, fs0, cs1, fs1, cs2, fs2, cs3, fs3, cr0, fr0, cr1, fr1, cr2, fr2, cr3, fr3]; rfl)) (by first | (simp [go_sem, cs0, fs0, cs1, fs1, cs2, fs2, cs3, fs3, cr0, fr0, cr1, fr1, cr2, fr2, cr3, fr3]; done) | (simp (maxDischargeDepth := 8) [go_sem, cs0, fs0, cs1, fs1, cs2, fs2, cs3, fs3, cr0, fr0, cr1, fr1, cr2, fr2, cr3, fr3]; done) | (simp [go_sem, cs0, fs0, cs1, fs1, cs2, fs2, cs3, fs3, cr0, fr0, cr1, fr1, cr2, fr2, cr3, fr3]; rfl)) (by first | (simp [go_sem, cs0, fs0, cs1, fs1, cs2, fs2, cs3, fs3, cr0, fr0, cr1, fr1, cr2, fr2, cr3, fr3]; done) | (simp (maxDischargeDepth := 8) [go_sem, cs0, fs0, cs1, fs1, cs2, fs2, cs3, fs3, cr0, fr0, cr1, fr1, cr2, fr2, cr3, fr3]; done) | (simp [go_sem, cs0, fs0, cs1, fs1, cs2, fs2, cs3, fs3, cr0, fr0, cr1, fr1, cr2, fr2, cr3, fr3]; rfl)) (by first | (simp [go_sem, cs0, fs0, cs1, fs1, cs2, fs2, cs3, fs3, cr0, fr0, cr1, fr1, cr2, fr2, cr3, fr3]; done) | (simp (maxDischargeDepth := 8) [go_sem, cs0, fs0, cs1, fs1, cs2, fs2, cs3, fs3, cr0, fr0, cr1, fr1, cr2, fr2, cr3, fr3]; done) | (simp [go_sem, cs0, fs0, cs1, fs1, cs2, fs2, cs3, fs3, cr0, fr0, cr1, fr1, cr2, fr2, cr3, fr3]; rfl)) (by first | (simp [go_sem, cs0, fs0, cs1, fs1, cs2, fs2, cs3, fs3, cr0, fr0, cr1, fr1, cr2, fr2, cr3, fr3]; done) | (simp (maxDischargeDepth := 8) [go_sem, cs0, fs0, cs1, fs1, cs2, fs2, cs3, fs3, cr0, fr0, cr1, fr1, cr2, fr2, cr3, fr3]; done) | (simp [go_sem, cs0, fs0, cs1, fs1, cs2, fs2, cs3, fs3, cr0, fr0, cr1, fr1, cr2, fr2, cr3, fr3]; rfl))) hb (by first | (simp; done) | (simp; omega) | omega))
  clear cs0 fs0 cs1 fs1 cs2 fs2 cs3 fs3 cr0 fr0 cr1 fr1 cr2 fr2 cr3 fr3 BWs3 BWr3
  have cs0 := bws.c 0 rfl
  have fs0 := bws.f 0 (by simp)
  have cs1 := bws.c 1 rfl
  have fs1 := bws.f 1 (by simp)
  have cs2 := bws.c 2 rfl
  have fs2 := bws.f 2 (by simp)
  have cs3 := bws.c 3 rfl
  have fs3 := bws.f 3 (by simp)
  have BWs4 := Lib.hid bws
  clear bws
  have cr0 := bwr.c 0 rfl
  have fr0 := bwr.f 0 (by simp)
  have cr1 := bwr.c 1 rfl
  have fr1 := bwr.f 1 (by simp)
  have cr2 := bwr.c 2 rfl
  have fr2 := bwr.f 2 (by simp)
  have cr3 := bwr.c 3 rfl
  have fr3 := bwr.f 3 (by simp)
  have BWr4 := Lib.hid bwr
  clear bwr
  have Hb4 := Lib.hid hb4
  clear hb hb4
  cases bb
  · have hv : Q = failRun := by rw [← HQ.out]; unfold runSnowO; rw [Hp.out]; simp only [Bool.false_and, Bool.and_false]; rfl
    have HV := Lib.hid hv
    clear hv
    go_wp2_with fail
    rw [HV.out]
    exact bodyPost_ret (v := .tuple #[.agg #[.float .f32 0, .float .f32 0, .float .f32 0, .float .f32 0], .slice none 0 0, .bool false]) (by first | (simp [results, Try.results23, go_sem, cs0, fs0, cs1, fs1, cs2, fs2, cs3, fs3, cr0, fr0, cr1, fr1, cr2, fr2, cr3, fr3]; done) | (simp (maxDischargeDepth := 12) [results, Try.results23, go_sem, cs0, fs0, cs1, fs1, cs2, fs2, cs3, fs3, cr0, fr0, cr1, fr1, cr2, fr2, cr3, fr3]; done) | (simp (maxDischargeDepth := 12) [results, Try.results23, go_sem, cs0, fs0, cs1, fs1, cs2, fs2, cs3, fs3, cr0, fr0, cr1, fr1, cr2, fr2, cr3, fr3]; rfl)) rfl (RunB.no (by repeat (first | with_reducible exact Hb4.out | with_reducible refine beld ?_ _ | (with_reducible refine Below.alloc ?_ ?_ _; rotate_left; exact (by first | (simp; done) | (simp; omega) | omega)) | (with_reducible refine Below.setCell ?_ ?_ _; rotate_left; exact (by first | (simp; done) | (simp; omega) | omega)))))
  have hq := HQ.out
  unfold runSnowO at hq
  rw [Hs.out, Hx.out, Hp.out, decide_eq_true hlen] at hq
  have HQ2 : Hid ((if snOk A0 A1 A2 A3 T X V X.length then (⟨(snIt A0 A1 A2 A3 T X V X.length).s0, (snIt A0 A1 A2 A3 T X V X.length).s1, (snIt A0 A1 A2 A3 T X V X.length).s2, (snIt A0 A1 A2 A3 T X V X.length).s3, (snOuts A0 A1 A2 A3 T X V X.length).map (fun Y => Y.getD 0), true⟩ : RunR) else failRun) = Q) := Lib.hid hq
  clear hq
  have HE0 : Hid (RowO (w4.alloc (.cells #[] 22)) (w.heap.size + 2) (.slice (some ⟨w4.heap.size, 0, none⟩) 0 0) []) := Lib.hid (World.ownsRow_lit (base := w.heap.size + 2) (e := 22) (size := 1) w4 #[] 0 hs4 (by simp [maxLen]) rfl)
  have HB5 := Lib.hid (Hb4.out.alloc (by omega) (.cells #[] 22))
  have HS5 := Lib.hid (BWs4.out.alloc (.cells #[] 22))
  have HR5 := Lib.hid (BWr4.out.alloc (.cells #[] 22))
  clear cs0 cs1 cs2 cs3 fs0 fs1 fs2 fs3 cr0 cr1 cr2 cr3 fr0 fr1 fr2 fr3 BWs4 BWr4 Hb4
  go_wp2_with fail
  go_loopw [11, 44] (fun vl i wr => ∃ vv : Value, vv = vl ∧ (∃ (k : Nat) (ls : List Nat) (c0 c1 c2 c3 : Nat), k ≤ X.length ∧ i = .int .i64 k ∧ Hid (Is32 (snIt A0 A1 A2 A3 T X V k).s0 c0 ∧ Is32 (snIt A0 A1 A2 A3 T X V k).s1 c1 ∧ Is32 (snIt A0 A1 A2 A3 T X V k).s2 c2 ∧ Is32 (snIt A0 A1 A2 A3 T X V k).s3 c3) ∧ Hid (snOk A0 A1 A2 A3 T X V k = true) ∧ Hid (ls.length = k) ∧ Hid (Is32s (snOuts A0 A1 A2 A3 T X V k) ls) ∧ Hid (RowO wr (w.heap.size + 2) vv ls) ∧ Hid (Bw wr w.heap.size [.float .f32 c0, .float .f32 c1, .float .f32 c2, .float .f32 c3]) ∧ Hid (Bw wr (w.heap.size + 1) [.float .f32 0, .float .f32 0, .float .f32 0, .float .f32 0]) ∧ Hid (Below w.heap.size w wr))) (fun _ i _ => X.length - (intOf i).toNat)
  case atStart => exact ⟨_, rfl, 0, [], a0, a1, a2, a3, Nat.zero_le _, rfl, Lib.hid ⟨ha0, ha1, ha2, ha3⟩, Lib.hid rfl, Lib.hid rfl, Lib.hid Is32s.nil, Lib.hid (by exact HE0.out), HS5, HR5, HB5⟩
  case round =>
    obtain ⟨vv, rfl, k, ls, c0, c1, c2, c3, hk, rfl, HC, HOk, HLk, HIl, HRow, HS, HR, HBk⟩ := hrel
    by_cases hlt : k < X.length
    · obtain ⟨bx, ox, rfl, hbx, hcx⟩ := row_at H1.out (by omega)
      obtain ⟨bv, ov, rfl, hbv, hcv⟩ := row_at H2.out (by omega)
      obtain ⟨x, hx⟩ : ∃ x, X.getD k 0 = x := ⟨_, rfl⟩
      obtain ⟨v, hv⟩ : ∃ v, V.getD k 0 = v := ⟨_, rfl⟩
      have hcx' : w.cell? ⟨bx, ox + k, none⟩ = some (.float .f32 x) := by rw [hcx k hlt, hx]
      have hcv' : w.cell? ⟨bv, ov + k, none⟩ = some (.float .f32 v) := by rw [hcv k (by omega), hv]
      have hxi : Is32 (some x) x := Is32.c (by rw [← hx]; exact getD_lt HZ1.out _)
      have hvi : Is32 (some v) v := Is32.c (by rw [← hv]; exact getD_lt HZ2.out _)
      have Hcv := Lib.hid hcv'
      have Hcx := Lib.hid hcx'
      have Hxk := Lib.hid hx
      have Hvk := Lib.hid hv
      have Hxi := Lib.hid hxi
      have Hvi := Lib.hid hvi
      clear hcv hcx hx hv hcv' hcx' hxi hvi
      obtain ⟨R, hR⟩ : ∃ R, snIt A0 A1 A2 A3 T X V (k + 1) = R := ⟨_, rfl⟩
      have hcond : (snowO (snIt A0 A1 A2 A3 T X V k).s0 (snIt A0 A1 A2 A3 T X V k).s1 (snIt A0 A1 A2 A3 T X V k).s2 (snIt A0 A1 A2 A3 T X V k).s3 && amtO (some x) && fin32o (some v) && posO T) = true := by
        have h7 : X.all amtB = true := by have h9 := Hx.out; unfold rainB at h9; rw [Bool.and_eq_true] at h9; exact h9.2
        have h6 : amtB x = true := by have h9 := List.all_eq_true.1 h7 X[k] (List.getElem_mem hlt); rw [← Hxk.out, List.getD_eq_getElem?_getD, List.getElem?_eq_getElem hlt]; exact h9
        have h5 : fin32 v = true := by have h9 := List.all_eq_true.1 Hf.out V[k] (List.getElem_mem (by omega)); rw [← Hvk.out, List.getD_eq_getElem?_getD, List.getElem?_eq_getElem (by omega)]; exact h9
        rw [snIt_snow Hs.out HOk.out, Hp.out, show amtO (some x) = true from h6, show fin32o (some v) = true from h5]; rfl
      have hcall : ∀ W : World, Calls Try.prog 71 #[.agg #[.float .f32 c0, .float .f32 c1, .float .f32 c2, .float .f32 c3], .float .f32 x, .float .f32 v, .float .f32 t] W (SnowB R W) := by
        intro W
        have h9 := l03StepSnow_o W HC.out.1 HC.out.2.1 HC.out.2.2.1 HC.out.2.2.2 Hxi.out Hvi.out ht
        rw [← hR, snIt, Hxk.out, Hvk.out, snowStep, if_pos hcond]
        exact h9
      have HCall := Lib.hid hcall
      have HRR := Lib.hid hR
      clear hcall hR hcond
      go_wp2_with fail
      refine wp_region_inv (id := 7) (snInvS _ w R vv k bx ox bv ov X.length cap1 cap2 c0 c1 c2 c3 x v t ls) (by kernel_rfl) (by kernel_rfl) (snInvS.start _ (beld HBk.out 1) HS.out HR.out HRow.out) ?hend ?hsteps
      case hend =>
        intro d a w9 hinv hall
        obtain ⟨u13, u14, u15, u47, u48, u49, u50, u51, u52, u53, u54, u55, u56, u57, u58, u59, u60, u61, y0, y1, y2, y3, yo, p, rfl, f0, f1, f2, f3, f4, f5, f6, f7, f8, f9, f10, f11, f12, f13, f14, f15, f17, f18, hbel, hs, hres, hrw, gp16⟩ := hinv
        have e0 := f0 (hall 0 (by decide))
        subst e0
        have e1 := f1 (hall 1 (by decide))
        subst e1
        have e2 := f2 (hall 2 (by decide))
        subst e2
        have e3 := f3 (hall 3 (by decide))
        subst e3
        have e4 := f4 (hall 4 (by decide))
        subst e4
        have e5 := f5 (hall 5 (by decide))
        subst e5
        have e6 := f6 (hall 6 (by decide))
        subst e6
        have e7 := f7 (hall 7 (by decide))
        subst e7
        have e8 := f8 (hall 8 (by decide))
        subst e8
        have e9 := f9 (hall 9 (by decide))
        subst e9
        obtain ⟨e10, hy⟩ := f10 (hall 10 (by decide))
        subst e10
        have e11 := f11 (hall 11 (by decide))
        subst e11
        have e12 := f12 (hall 12 (by decide))
        subst e12
        have e13 := f13 (hall 13 (by decide))
        subst e13
        have e14 := f14 (hall 14 (by decide))
        subst e14
        obtain ⟨e15, hp0, hp1, _⟩ := f15 (hall 15 (by decide))
        subst e15
        have e17 := f17 (hall 17 (by decide))
        subst e17
        have e18 := f18 (hall 18 (by decide))
        subst e18
        have Hy := Lib.hid hy
        have hbp := gp16 (hall 16 (by decide))
        have HP9 := Lib.hid hbp
        have HS9 := Lib.hid hs
        have HR9 := Lib.hid hres
        have HRow9 := Lib.hid hrw
        have HB9 := Lib.hid hbel
        have HPne := Lib.hid hp1
        have hc0 := hs.c 0 rfl
        have hc1 := hs.c 1 rfl
        have hc2 := hs.c 2 rfl
        have hc3 := hs.c 3 rfl
        have hf0 := hs.f 0 (by simp)
        have hf1 := hs.f 1 (by simp)
        have hf2 := hs.f 2 (by simp)
        have hf3 := hs.f 3 (by simp)
        have hpc0 := hbp.c 0 rfl
        have hpc1 := hbp.c 1 rfl
        have hpc2 := hbp.c 2 rfl
        have hpc3 := hbp.c 3 rfl
        have hr0 := hres.c 0 rfl
        have hr1 := hres.c 1 rfl
        have hr2 := hres.c 2 rfl
        have hr3 := hres.c 3 rfl
        have hg0 := hres.f 0 (by simp)
        have hg1 := hres.f 1 (by simp)
        have hg2 := hres.f 2 (by simp)
        have hg3 := hres.f 3 (by simp)
        clear f0 f1 f2 f3 f4 f5 f6 f7 f8 f9 f10 f11 f12 f13 f14 f15 f17 f18 hbel hs hres hrw gp16 hy hbp hp1
        obtain ⟨okb, hok⟩ : ∃ b, R.ok = b := ⟨_, rfl⟩
        rw [hok]
        have Hok := Lib.hid hok
        clear hok
        simp only [Act.put]
        cases okb
        · have hv : Q = failRun := by rw [← HQ2.out, if_neg]; rw [snOk_no hlt (by rw [HRR.out]; exact Hok.out)]; decide
          have HV := Lib.hid hv
          clear hv
          go_wp2_with fail
          rw [HV.out]
          exact bodyPost_ret (v := .tuple #[.agg #[.float .f32 0, .float .f32 0, .float .f32 0, .float .f32 0], .slice none 0 0, .bool false]) (by first | (simp [results, Try.results23, go_sem, hr0, hr1, hr2, hr3, hg0, hg1, hg2, hg3]; done) | (simp (maxDischargeDepth := 12) [results, Try.results23, go_sem, hr0, hr1, hr2, hr3, hg0, hg1, hg2, hg3]; done) | (simp (maxDischargeDepth := 12) [results, Try.results23, go_sem, hr0, hr1, hr2, hr3, hg0, hg1, hg2, hg3]; rfl)) rfl (RunB.no (by repeat (first | with_reducible exact HB9.out | with_reducible refine beld ?_ _ | (with_reducible refine Below.alloc ?_ ?_ _; rotate_left; exact (by first | (simp; done) | (simp; omega) | omega)) | (with_reducible refine Below.setCell ?_ ?_ _; rotate_left; exact (by first | (simp; done) | (simp; omega) | omega)))))
        · have hsn : Bw ((((w9.setCell ⟨w.heap.size, 0, none⟩ (.float .f32 y0)).setCell ⟨w.heap.size, 1, none⟩ (.float .f32 y1)).setCell ⟨w.heap.size, 2, none⟩ (.float .f32 y2)).setCell ⟨w.heap.size, 3, none⟩ (.float .f32 y3)) w.heap.size [.float .f32 y0, .float .f32 y1, .float .f32 y2, .float .f32 y3] := Bw.of4 (by have := HS9.out.1.1; simp; omega) (by first | (simp [go_sem, hf0, hf1, hf2, hf3]; done) | (simp (maxDischargeDepth := 12) [go_sem, hc0, hc1, hc2, hc3, hf0, hf1, hf2, hf3]; done) | (simp (maxDischargeDepth := 12) [go_sem, hc0, hc1, hc2, hc3, hf0, hf1, hf2, hf3]; rfl)) (by first | (simp [go_sem, hf0, hf1, hf2, hf3]; done) | (simp (maxDischargeDepth := 12) [go_sem, hc0, hc1, hc2, hc3, hf0, hf1, hf2, hf3]; done) | (simp (maxDischargeDepth := 12) [go_sem, hc0, hc1, hc2, hc3, hf0, hf1, hf2, hf3]; rfl)) (by first | (simp [go_sem, hf0, hf1, hf2, hf3]; done) | (simp (maxDischargeDepth := 12) [go_sem, hc0, hc1, hc2, hc3, hf0, hf1, hf2, hf3]; done) | (simp (maxDischargeDepth := 12) [go_sem, hc0, hc1, hc2, hc3, hf0, hf1, hf2, hf3]; rfl)) (by first | (simp [go_sem, hf0, hf1, hf2, hf3]; done) | (simp (maxDischargeDepth := 12) [go_sem, hc0, hc1, hc2, hc3, hf0, hf1, hf2, hf3]; done) | (simp (maxDischargeDepth := 12) [go_sem, hc0, hc1, hc2, hc3, hf0, hf1, hf2, hf3]; rfl)) (by first | (simp [go_sem, hf0, hf1, hf2, hf3]; done) | (simp (maxDischargeDepth := 12) [go_sem, hc0, hc1, hc2, hc3, hf0, hf1, hf2, hf3]; done) | (simp (maxDischargeDepth := 12) [go_sem, hc0, hc1, hc2, hc3, hf0, hf1, hf2, hf3]; rfl)) (by first | (simp [go_sem, hf0, hf1, hf2, hf3]; done) | (simp (maxDischargeDepth := 12) [go_sem, hc0, hc1, hc2, hc3, hf0, hf1, hf2, hf3]; done) | (simp (maxDischargeDepth := 12) [go_sem, hc0, hc1, hc2, hc3, hf0, hf1, hf2, hf3]; rfl)) (by first | (simp [go_sem, hf0, hf1, hf2, hf3]; done) | (simp (maxDischargeDepth := 12) [go_sem, hc0, hc1, hc2, hc3, hf0, hf1, hf2, hf3]; done) | (simp (maxDischargeDepth := 12) [go_sem, hc0, hc1, hc2, hc3, hf0, hf1, hf2, hf3]; rfl)) (by first | (simp [go_sem, hf0, hf1, hf2, hf3]; done) | (simp (maxDischargeDepth := 12) [go_sem, hc0, hc1, hc2, hc3, hf0, hf1, hf2, hf3]; done) | (simp (maxDischargeDepth := 12) [go_sem, hc0, hc1, hc2, hc3, hf0, hf1, hf2, hf3]; rfl))
          have HSn := Lib.hid hsn
          have HRn := Lib.hid (HR9.out.far4 (b := w.heap.size) (by omega) 0 1 2 3 (.float .f32 y0) (.float .f32 y1) (.float .f32 y2) (.float .f32 y3))
          have HRwn := Lib.hid (HRow9.out.far4 (b := w.heap.size) (fun h9 => by have := (HRow9.out.lo _ h9).1; omega) 0 1 2 3 (.float .f32 y0) (.float .f32 y1) (.float .f32 y2) (.float .f32 y3))
          have hle := Nat.le_refl w.heap.size
          have HBn := Lib.hid ((((HB9.out.setCell (p := ⟨w.heap.size, 0, none⟩) hle (.float .f32 y0)).setCell (p := ⟨w.heap.size, 1, none⟩) hle (.float .f32 y1)).setCell (p := ⟨w.heap.size, 2, none⟩) hle (.float .f32 y2)).setCell (p := ⟨w.heap.size, 3, none⟩) hle (.float .f32 y3))
          obtain ⟨wn, hwn⟩ : ∃ wn, ((((w9.setCell ⟨w.heap.size, 0, none⟩ (.float .f32 y0)).setCell ⟨w.heap.size, 1, none⟩ (.float .f32 y1)).setCell ⟨w.heap.size, 2, none⟩ (.float .f32 y2)).setCell ⟨w.heap.size, 3, none⟩ (.float .f32 y3)) = wn := ⟨_, rfl⟩
          rw [hwn] at HSn HRn HRwn HBn
          have hbig : w.heap.size + 2 ≤ wn.heap.size := by have := HRn.out.1.1; omega
          have hcell9 := (Bx.new wn [.float .f32 yo] 22).c 0 rfl
          have HCell9 := Lib.hid hcell9
          have hl9 : ls.length ≤ 1048576 := by rw [HLk.out]; omega
          have Hl9 := Lib.hid hl9
          clear hsn hcell9 hl9 hle
          go_wp2_with (at_builtin; refine push_any rfl rfl _ _ rfl rfl (HRwn.out.alloc _) wn.heap.size _ yo rfl HCell9.out Hl9.out (by simp; omega) ?_)
          intro g9 cap9 w8 hrow9 hp9
          have HBe := Lib.hid (Below.pushed (HBn.out.alloc (by omega) _) hp9 (HRwn.out.alloc _) (by omega) (by simp; omega))
          have hb8 := Below.pushed ((Below.refl (w.heap.size + 2) wn).alloc (by omega) _) hp9 (HRwn.out.alloc _) (Nat.le_refl _) (by simp; omega)
          have HSe := Lib.hid (HSn.out.below hb8 (by omega))
          have HRe := Lib.hid (HRn.out.below hb8 (by omega))
          have Hrow9 := Lib.hid hrow9
          clear hrow9 hp9 hb8 hwn hr0 hg0 hc0 hf0 hpc0 hr1 hg1 hc1 hf1 hpc1 hr2 hg2 hc2 hf2 hpc2 hr3 hg3 hc3 hf3 hpc3
          go_wp2_with fail
          go_roundw
          case rel => exact ⟨_, rfl, k + 1, ls ++ [yo], y0, y1, y2, y3, by omega, by go_num, Lib.hid (by rw [HRR.out]; exact ⟨Hy.out.1, Hy.out.2.1, Hy.out.2.2.1, Hy.out.2.2.2.1⟩), Lib.hid (snOk_succ HOk.out (by rw [HRR.out]; exact Hok.out)), Lib.hid (by rw [List.length_append, List.length_singleton, HLk.out]), Lib.hid (by rw [snOuts_succ, HRR.out]; exact HIl.out.snoc Hy.out.2.2.2.2), Hrow9, HSe, HRe, HBe⟩
          case measure => simp [intOf]; omega
      case hsteps =>
        refine .cons 1 rfl ?_ ?_
        · intro d a w9 hsz hcl hinv hd hdep
          obtain ⟨u13, u14, u15, u47, u48, u49, u50, u51, u52, u53, u54, u55, u56, u57, u58, u59, u60, u61, y0, y1, y2, y3, yo, p, rfl, f0, f1, f2, f3, f4, f5, f6, f7, f8, f9, f10, f11, f12, f13, f14, f15, f17, f18, hbel, hs, hres, hrw, gp16⟩ := hinv
          have hc0 := hs.c 0 rfl
          have hc1 := hs.c 1 rfl
          have hc2 := hs.c 2 rfl
          have hc3 := hs.c 3 rfl
          simp only [Act.put]
          go_wp2_with fail
          exact snInvS.mk u13 u14 u15 u47 (.agg #[.float .f32 c0, .float .f32 c1, .float .f32 c2, .float .f32 c3]) u49 u50 u51 u52 u53 u54 u55 u56 u57 u58 u59 u60 u61 y0 y1 y2 y3 yo p (by first | kernel_rfl | rfl) (Gd.new (by first | rfl | simp)) (Gd.keep (i := 0) f1 (by decide)) (Gd.keep (i := 0) f2 (by decide)) (Gd.keep (i := 0) f3 (by decide)) (Gd.keep (i := 0) f4 (by decide)) (Gd.keep (i := 0) f5 (by decide)) (Gd.keep (i := 0) f6 (by decide)) (Gd.keep (i := 0) f7 (by decide)) (Gd.keep (i := 0) f8 (by decide)) (Gd.keep (i := 0) f9 (by decide)) (Gd.keep (i := 0) f10 (by decide)) (Gd.keep (i := 0) f11 (by decide)) (Gd.keep (i := 0) f12 (by decide)) (Gd.keep (i := 0) f13 (by decide)) (Gd.keep (i := 0) f14 (by decide)) (Gd.keep (i := 0) f15 (by decide)) (Gd.keep (i := 0) f17 (by decide)) (Gd.keep (i := 0) f18 (by decide)) hbel hs hres hrw (Gd.keep (i := 0) gp16 (by decide))
        refine .cons 2 rfl ?_ ?_
        · intro d a w9 hsz hcl hinv hd hdep
          obtain ⟨u13, u14, u15, u47, u48, u49, u50, u51, u52, u53, u54, u55, u56, u57, u58, u59, u60, u61, y0, y1, y2, y3, yo, p, rfl, f0, f1, f2, f3, f4, f5, f6, f7, f8, f9, f10, f11, f12, f13, f14, f15, f17, f18, hbel, hs, hres, hrw, gp16⟩ := hinv
          simp only [Act.put]
          go_wp2_with fail
          exact snInvS.mk u13 u14 u15 u47 u48 (.slice (some ⟨bx, ox, none⟩) X.length cap1) u50 u51 u52 u53 u54 u55 u56 u57 u58 u59 u60 u61 y0 y1 y2 y3 yo p (by first | kernel_rfl | rfl) (Gd.keep (i := 1) f0 (by decide)) (Gd.new (by first | rfl | simp)) (Gd.keep (i := 1) f2 (by decide)) (Gd.keep (i := 1) f3 (by decide)) (Gd.keep (i := 1) f4 (by decide)) (Gd.keep (i := 1) f5 (by decide)) (Gd.keep (i := 1) f6 (by decide)) (Gd.keep (i := 1) f7 (by decide)) (Gd.keep (i := 1) f8 (by decide)) (Gd.keep (i := 1) f9 (by decide)) (Gd.keep (i := 1) f10 (by decide)) (Gd.keep (i := 1) f11 (by decide)) (Gd.keep (i := 1) f12 (by decide)) (Gd.keep (i := 1) f13 (by decide)) (Gd.keep (i := 1) f14 (by decide)) (Gd.keep (i := 1) f15 (by decide)) (Gd.keep (i := 1) f17 (by decide)) (Gd.keep (i := 1) f18 (by decide)) hbel hs hres hrw (Gd.keep (i := 1) gp16 (by decide))
        refine .cons 3 rfl ?_ ?_
        · intro d a w9 hsz hcl hinv hd hdep
          obtain ⟨u13, u14, u15, u47, u48, u49, u50, u51, u52, u53, u54, u55, u56, u57, u58, u59, u60, u61, y0, y1, y2, y3, yo, p, rfl, f0, f1, f2, f3, f4, f5, f6, f7, f8, f9, f10, f11, f12, f13, f14, f15, f17, f18, hbel, hs, hres, hrw, gp16⟩ := hinv
          simp only [Act.put]
          go_wp2_with fail
          exact snInvS.mk u13 u14 u15 u47 u48 u49 (.int .i64 k) u51 u52 u53 u54 u55 u56 u57 u58 u59 u60 u61 y0 y1 y2 y3 yo p (by first | kernel_rfl | rfl) (Gd.keep (i := 2) f0 (by decide)) (Gd.keep (i := 2) f1 (by decide)) (Gd.new (by first | rfl | simp)) (Gd.keep (i := 2) f3 (by decide)) (Gd.keep (i := 2) f4 (by decide)) (Gd.keep (i := 2) f5 (by decide)) (Gd.keep (i := 2) f6 (by decide)) (Gd.keep (i := 2) f7 (by decide)) (Gd.keep (i := 2) f8 (by decide)) (Gd.keep (i := 2) f9 (by decide)) (Gd.keep (i := 2) f10 (by decide)) (Gd.keep (i := 2) f11 (by decide)) (Gd.keep (i := 2) f12 (by decide)) (Gd.keep (i := 2) f13 (by decide)) (Gd.keep (i := 2) f14 (by decide)) (Gd.keep (i := 2) f15 (by decide)) (Gd.keep (i := 2) f17 (by decide)) (Gd.keep (i := 2) f18 (by decide)) hbel hs hres hrw (Gd.keep (i := 2) gp16 (by decide))
        refine .cons 4 rfl ?_ ?_
        · intro d a w9 hsz hcl hinv hd hdep
          obtain ⟨u13, u14, u15, u47, u48, u49, u50, u51, u52, u53, u54, u55, u56, u57, u58, u59, u60, u61, y0, y1, y2, y3, yo, p, rfl, f0, f1, f2, f3, f4, f5, f6, f7, f8, f9, f10, f11, f12, f13, f14, f15, f17, f18, hbel, hs, hres, hrw, gp16⟩ := hinv
          have e1 := f1 (hdep.get 1 rfl)
          subst e1
          have e2 := f2 (hdep.get 2 rfl)
          subst e2
          have hkv : (k : Int) < (X.length : Int) := by omega
          simp only [Act.put]
          go_wp2_with fail
          exact snInvS.mk u13 u14 u15 u47 u48 (.slice (some ⟨bx, ox, none⟩) X.length cap1) (.int .i64 k) (.pointer (some ⟨bx, ox + k, none⟩)) u52 u53 u54 u55 u56 u57 u58 u59 u60 u61 y0 y1 y2 y3 yo p (by first | kernel_rfl | rfl) (Gd.keep (i := 3) f0 (by decide)) (Gd.new rfl) (Gd.new rfl) (Gd.new (by first | rfl | simp)) (Gd.keep (i := 3) f4 (by decide)) (Gd.keep (i := 3) f5 (by decide)) (Gd.keep (i := 3) f6 (by decide)) (Gd.keep (i := 3) f7 (by decide)) (Gd.keep (i := 3) f8 (by decide)) (Gd.keep (i := 3) f9 (by decide)) (Gd.keep (i := 3) f10 (by decide)) (Gd.keep (i := 3) f11 (by decide)) (Gd.keep (i := 3) f12 (by decide)) (Gd.keep (i := 3) f13 (by decide)) (Gd.keep (i := 3) f14 (by decide)) (Gd.keep (i := 3) f15 (by decide)) (Gd.keep (i := 3) f17 (by decide)) (Gd.keep (i := 3) f18 (by decide)) hbel hs hres hrw (Gd.keep (i := 3) gp16 (by decide))
        refine .cons 5 rfl ?_ ?_
        · intro d a w9 hsz hcl hinv hd hdep
          obtain ⟨u13, u14, u15, u47, u48, u49, u50, u51, u52, u53, u54, u55, u56, u57, u58, u59, u60, u61, y0, y1, y2, y3, yo, p, rfl, f0, f1, f2, f3, f4, f5, f6, f7, f8, f9, f10, f11, f12, f13, f14, f15, f17, f18, hbel, hs, hres, hrw, gp16⟩ := hinv
          have e3 := f3 (hdep.get 3 rfl)
          subst e3
          have hcell : w9.cell? ⟨bx, ox + k, none⟩ = some (.float .f32 x) := by rw [hbel.cell (p := ⟨bx, ox + k, none⟩) hbx]; exact Hcx.out
          simp only [Act.put]
          go_wp2_with fail
          exact snInvS.mk u13 u14 u15 u47 u48 u49 u50 (.pointer (some ⟨bx, ox + k, none⟩)) (.float .f32 x) u53 u54 u55 u56 u57 u58 u59 u60 u61 y0 y1 y2 y3 yo p (by first | kernel_rfl | rfl) (Gd.keep (i := 4) f0 (by decide)) (Gd.keep (i := 4) f1 (by decide)) (Gd.keep (i := 4) f2 (by decide)) (Gd.new rfl) (Gd.new (by first | rfl | simp)) (Gd.keep (i := 4) f5 (by decide)) (Gd.keep (i := 4) f6 (by decide)) (Gd.keep (i := 4) f7 (by decide)) (Gd.keep (i := 4) f8 (by decide)) (Gd.keep (i := 4) f9 (by decide)) (Gd.keep (i := 4) f10 (by decide)) (Gd.keep (i := 4) f11 (by decide)) (Gd.keep (i := 4) f12 (by decide)) (Gd.keep (i := 4) f13 (by decide)) (Gd.keep (i := 4) f14 (by decide)) (Gd.keep (i := 4) f15 (by decide)) (Gd.keep (i := 4) f17 (by decide)) (Gd.keep (i := 4) f18 (by decide)) hbel hs hres hrw (Gd.keep (i := 4) gp16 (by decide))
        refine .cons 6 rfl ?_ ?_
        · intro d a w9 hsz hcl hinv hd hdep
          obtain ⟨u13, u14, u15, u47, u48, u49, u50, u51, u52, u53, u54, u55, u56, u57, u58, u59, u60, u61, y0, y1, y2, y3, yo, p, rfl, f0, f1, f2, f3, f4, f5, f6, f7, f8, f9, f10, f11, f12, f13, f14, f15, f17, f18, hbel, hs, hres, hrw, gp16⟩ := hinv
          simp only [Act.put]
          go_wp2_with fail
          exact snInvS.mk u13 u14 u15 u47 u48 u49 u50 u51 u52 (.slice (some ⟨bv, ov, none⟩) X.length cap2) u54 u55 u56 u57 u58 u59 u60 u61 y0 y1 y2 y3 yo p (by first | kernel_rfl | rfl) (Gd.keep (i := 5) f0 (by decide)) (Gd.keep (i := 5) f1 (by decide)) (Gd.keep (i := 5) f2 (by decide)) (Gd.keep (i := 5) f3 (by decide)) (Gd.keep (i := 5) f4 (by decide)) (Gd.new (by first | rfl | simp)) (Gd.keep (i := 5) f6 (by decide)) (Gd.keep (i := 5) f7 (by decide)) (Gd.keep (i := 5) f8 (by decide)) (Gd.keep (i := 5) f9 (by decide)) (Gd.keep (i := 5) f10 (by decide)) (Gd.keep (i := 5) f11 (by decide)) (Gd.keep (i := 5) f12 (by decide)) (Gd.keep (i := 5) f13 (by decide)) (Gd.keep (i := 5) f14 (by decide)) (Gd.keep (i := 5) f15 (by decide)) (Gd.keep (i := 5) f17 (by decide)) (Gd.keep (i := 5) f18 (by decide)) hbel hs hres hrw (Gd.keep (i := 5) gp16 (by decide))
        refine .cons 7 rfl ?_ ?_
        · intro d a w9 hsz hcl hinv hd hdep
          obtain ⟨u13, u14, u15, u47, u48, u49, u50, u51, u52, u53, u54, u55, u56, u57, u58, u59, u60, u61, y0, y1, y2, y3, yo, p, rfl, f0, f1, f2, f3, f4, f5, f6, f7, f8, f9, f10, f11, f12, f13, f14, f15, f17, f18, hbel, hs, hres, hrw, gp16⟩ := hinv
          simp only [Act.put]
          go_wp2_with fail
          exact snInvS.mk u13 u14 u15 u47 u48 u49 u50 u51 u52 u53 (.int .i64 k) u55 u56 u57 u58 u59 u60 u61 y0 y1 y2 y3 yo p (by first | kernel_rfl | rfl) (Gd.keep (i := 6) f0 (by decide)) (Gd.keep (i := 6) f1 (by decide)) (Gd.keep (i := 6) f2 (by decide)) (Gd.keep (i := 6) f3 (by decide)) (Gd.keep (i := 6) f4 (by decide)) (Gd.keep (i := 6) f5 (by decide)) (Gd.new (by first | rfl | simp)) (Gd.keep (i := 6) f7 (by decide)) (Gd.keep (i := 6) f8 (by decide)) (Gd.keep (i := 6) f9 (by decide)) (Gd.keep (i := 6) f10 (by decide)) (Gd.keep (i := 6) f11 (by decide)) (Gd.keep (i := 6) f12 (by decide)) (Gd.keep (i := 6) f13 (by decide)) (Gd.keep (i := 6) f14 (by decide)) (Gd.keep (i := 6) f15 (by decide)) (Gd.keep (i := 6) f17 (by decide)) (Gd.keep (i := 6) f18 (by decide)) hbel hs hres hrw (Gd.keep (i := 6) gp16 (by decide))
        refine .cons 8 rfl ?_ ?_
        · intro d a w9 hsz hcl hinv hd hdep
          obtain ⟨u13, u14, u15, u47, u48, u49, u50, u51, u52, u53, u54, u55, u56, u57, u58, u59, u60, u61, y0, y1, y2, y3, yo, p, rfl, f0, f1, f2, f3, f4, f5, f6, f7, f8, f9, f10, f11, f12, f13, f14, f15, f17, f18, hbel, hs, hres, hrw, gp16⟩ := hinv
          have e5 := f5 (hdep.get 5 rfl)
          subst e5
          have e6 := f6 (hdep.get 6 rfl)
          subst e6
          have hkv : (k : Int) < (X.length : Int) := by omega
          simp only [Act.put]
          go_wp2_with fail
          exact snInvS.mk u13 u14 u15 u47 u48 u49 u50 u51 u52 (.slice (some ⟨bv, ov, none⟩) X.length cap2) (.int .i64 k) (.pointer (some ⟨bv, ov + k, none⟩)) u56 u57 u58 u59 u60 u61 y0 y1 y2 y3 yo p (by first | kernel_rfl | rfl) (Gd.keep (i := 7) f0 (by decide)) (Gd.keep (i := 7) f1 (by decide)) (Gd.keep (i := 7) f2 (by decide)) (Gd.keep (i := 7) f3 (by decide)) (Gd.keep (i := 7) f4 (by decide)) (Gd.new rfl) (Gd.new rfl) (Gd.new (by first | rfl | simp)) (Gd.keep (i := 7) f8 (by decide)) (Gd.keep (i := 7) f9 (by decide)) (Gd.keep (i := 7) f10 (by decide)) (Gd.keep (i := 7) f11 (by decide)) (Gd.keep (i := 7) f12 (by decide)) (Gd.keep (i := 7) f13 (by decide)) (Gd.keep (i := 7) f14 (by decide)) (Gd.keep (i := 7) f15 (by decide)) (Gd.keep (i := 7) f17 (by decide)) (Gd.keep (i := 7) f18 (by decide)) hbel hs hres hrw (Gd.keep (i := 7) gp16 (by decide))
        refine .cons 9 rfl ?_ ?_
        · intro d a w9 hsz hcl hinv hd hdep
          obtain ⟨u13, u14, u15, u47, u48, u49, u50, u51, u52, u53, u54, u55, u56, u57, u58, u59, u60, u61, y0, y1, y2, y3, yo, p, rfl, f0, f1, f2, f3, f4, f5, f6, f7, f8, f9, f10, f11, f12, f13, f14, f15, f17, f18, hbel, hs, hres, hrw, gp16⟩ := hinv
          have e7 := f7 (hdep.get 7 rfl)
          subst e7
          have hcell : w9.cell? ⟨bv, ov + k, none⟩ = some (.float .f32 v) := by rw [hbel.cell (p := ⟨bv, ov + k, none⟩) hbv]; exact Hcv.out
          simp only [Act.put]
          go_wp2_with fail
          exact snInvS.mk u13 u14 u15 u47 u48 u49 u50 u51 u52 u53 u54 (.pointer (some ⟨bv, ov + k, none⟩)) (.float .f32 v) u57 u58 u59 u60 u61 y0 y1 y2 y3 yo p (by first | kernel_rfl | rfl) (Gd.keep (i := 8) f0 (by decide)) (Gd.keep (i := 8) f1 (by decide)) (Gd.keep (i := 8) f2 (by decide)) (Gd.keep (i := 8) f3 (by decide)) (Gd.keep (i := 8) f4 (by decide)) (Gd.keep (i := 8) f5 (by decide)) (Gd.keep (i := 8) f6 (by decide)) (Gd.new rfl) (Gd.new (by first | rfl | simp)) (Gd.keep (i := 8) f9 (by decide)) (Gd.keep (i := 8) f10 (by decide)) (Gd.keep (i := 8) f11 (by decide)) (Gd.keep (i := 8) f12 (by decide)) (Gd.keep (i := 8) f13 (by decide)) (Gd.keep (i := 8) f14 (by decide)) (Gd.keep (i := 8) f15 (by decide)) (Gd.keep (i := 8) f17 (by decide)) (Gd.keep (i := 8) f18 (by decide)) hbel hs hres hrw (Gd.keep (i := 8) gp16 (by decide))
        refine .cons 10 rfl ?_ ?_
        · intro d a w9 hsz hcl hinv hd hdep
          obtain ⟨u13, u14, u15, u47, u48, u49, u50, u51, u52, u53, u54, u55, u56, u57, u58, u59, u60, u61, y0, y1, y2, y3, yo, p, rfl, f0, f1, f2, f3, f4, f5, f6, f7, f8, f9, f10, f11, f12, f13, f14, f15, f17, f18, hbel, hs, hres, hrw, gp16⟩ := hinv
          simp only [Act.put]
          go_wp2_with fail
          exact snInvS.mk u13 u14 u15 u47 u48 u49 u50 u51 u52 u53 u54 u55 u56 (.float .f32 t) u58 u59 u60 u61 y0 y1 y2 y3 yo p (by first | kernel_rfl | rfl) (Gd.keep (i := 9) f0 (by decide)) (Gd.keep (i := 9) f1 (by decide)) (Gd.keep (i := 9) f2 (by decide)) (Gd.keep (i := 9) f3 (by decide)) (Gd.keep (i := 9) f4 (by decide)) (Gd.keep (i := 9) f5 (by decide)) (Gd.keep (i := 9) f6 (by decide)) (Gd.keep (i := 9) f7 (by decide)) (Gd.keep (i := 9) f8 (by decide)) (Gd.new (by first | rfl | simp)) (Gd.keep (i := 9) f10 (by decide)) (Gd.keep (i := 9) f11 (by decide)) (Gd.keep (i := 9) f12 (by decide)) (Gd.keep (i := 9) f13 (by decide)) (Gd.keep (i := 9) f14 (by decide)) (Gd.keep (i := 9) f15 (by decide)) (Gd.keep (i := 9) f17 (by decide)) (Gd.keep (i := 9) f18 (by decide)) hbel hs hres hrw (Gd.keep (i := 9) gp16 (by decide))
        refine .cons 11 rfl ?_ ?_
        · intro d a w9 hsz hcl hinv hd hdep
          obtain ⟨u13, u14, u15, u47, u48, u49, u50, u51, u52, u53, u54, u55, u56, u57, u58, u59, u60, u61, y0, y1, y2, y3, yo, p, rfl, f0, f1, f2, f3, f4, f5, f6, f7, f8, f9, f10, f11, f12, f13, f14, f15, f17, f18, hbel, hs, hres, hrw, gp16⟩ := hinv
          have e0 := f0 (hdep.get 0 rfl)
          subst e0
          have e4 := f4 (hdep.get 4 rfl)
          subst e4
          have e8 := f8 (hdep.get 8 rfl)
          subst e8
          have e9 := f9 (hdep.get 9 rfl)
          subst e9
          have n11 := hcl.not hd 11 _ rfl rfl
          have n12 := hcl.not n11 12 _ rfl rfl
          have n13 := hcl.not n11 13 _ rfl rfl
          have n14 := hcl.not n11 14 _ rfl rfl
          have n16 := hcl.not n12 16 _ rfl rfl
          have n17 := hcl.not n13 17 _ rfl rfl
          have n18 := hcl.not n14 18 _ rfl rfl
          simp only [Act.put]
          go_wp2_with fail
          refine (HCall.out _).mono ?_
          rintro e w5 ⟨y0', y1', y2', y3', yo', rfl, hy5, hb⟩
          have Hy5 := Lib.hid hy5
          have Hb5 := Lib.hid hb
          clear hy5 hb
          go_wp2_with fail
          exact snInvS.mk u13 u14 u15 u47 (.agg #[.float .f32 c0, .float .f32 c1, .float .f32 c2, .float .f32 c3]) u49 u50 u51 (.float .f32 x) u53 u54 u55 (.float .f32 v) (.float .f32 t) (.tuple #[.agg #[.float .f32 y0', .float .f32 y1', .float .f32 y2', .float .f32 y3'], .float .f32 yo', .bool R.ok]) u59 u60 u61 y0' y1' y2' y3' yo' p (by first | kernel_rfl | rfl) (Gd.new rfl) (Gd.keep (i := 10) f1 (by decide)) (Gd.keep (i := 10) f2 (by decide)) (Gd.keep (i := 10) f3 (by decide)) (Gd.new rfl) (Gd.keep (i := 10) f5 (by decide)) (Gd.keep (i := 10) f6 (by decide)) (Gd.keep (i := 10) f7 (by decide)) (Gd.new rfl) (Gd.new rfl) (Gd.new ⟨rfl, Hy5.out⟩) (Gd.undone (i := 10) n11 (by decide)) (Gd.undone (i := 10) n12 (by decide)) (Gd.undone (i := 10) n13 (by decide)) (Gd.undone (i := 10) n14 (by decide)) ((f15.imp fun h => ⟨h.1, h.2.1, h.2.2.1, by obtain ⟨q0, q1, q2, q3, h9⟩ := h.2.2.2; exact ⟨q0, q1, q2, q3, h9.below Hb5.out h9.1.1⟩⟩).keep (i := 10) (by decide)) (Gd.undone (i := 10) n17 (by decide)) (Gd.undone (i := 10) n18 (by decide)) (hbel.trans (Hb5.out.mono hbel.size)) (hs.below Hb5.out hs.1.1) (hres.below Hb5.out hres.1.1) (hrw.below Hb5.out (Nat.le_refl _)) (Gd.undone (i := 10) n16 (by decide))
        refine .cons 12 rfl ?_ ?_
        · intro d a w9 hsz hcl hinv hd hdep
          obtain ⟨u13, u14, u15, u47, u48, u49, u50, u51, u52, u53, u54, u55, u56, u57, u58, u59, u60, u61, y0, y1, y2, y3, yo, p, rfl, f0, f1, f2, f3, f4, f5, f6, f7, f8, f9, f10, f11, f12, f13, f14, f15, f17, f18, hbel, hs, hres, hrw, gp16⟩ := hinv
          obtain ⟨e10, hy⟩ := f10 (hdep.get 10 rfl)
          have Hy := Lib.hid hy
          clear hy
          subst e10
          simp only [Act.put]
          go_wp2_with fail
          exact snInvS.mk u13 u14 u15 (.tuple #[.agg #[.float .f32 y0, .float .f32 y1, .float .f32 y2, .float .f32 y3], .float .f32 yo, .bool R.ok]) u48 u49 u50 u51 u52 u53 u54 u55 u56 u57 (.tuple #[.agg #[.float .f32 y0, .float .f32 y1, .float .f32 y2, .float .f32 y3], .float .f32 yo, .bool R.ok]) u59 u60 u61 y0 y1 y2 y3 yo p (by first | kernel_rfl | rfl) (Gd.keep (i := 11) f0 (by decide)) (Gd.keep (i := 11) f1 (by decide)) (Gd.keep (i := 11) f2 (by decide)) (Gd.keep (i := 11) f3 (by decide)) (Gd.keep (i := 11) f4 (by decide)) (Gd.keep (i := 11) f5 (by decide)) (Gd.keep (i := 11) f6 (by decide)) (Gd.keep (i := 11) f7 (by decide)) (Gd.keep (i := 11) f8 (by decide)) (Gd.keep (i := 11) f9 (by decide)) (Gd.new ⟨rfl, Hy.out⟩) (Gd.new (by first | rfl | simp)) (Gd.keep (i := 11) f12 (by decide)) (Gd.keep (i := 11) f13 (by decide)) (Gd.keep (i := 11) f14 (by decide)) (Gd.keep (i := 11) f15 (by decide)) (Gd.keep (i := 11) f17 (by decide)) (Gd.keep (i := 11) f18 (by decide)) hbel hs hres hrw (Gd.keep (i := 11) gp16 (by decide))
        refine .cons 13 rfl ?_ ?_
        · intro d a w9 hsz hcl hinv hd hdep
          obtain ⟨u13, u14, u15, u47, u48, u49, u50, u51, u52, u53, u54, u55, u56, u57, u58, u59, u60, u61, y0, y1, y2, y3, yo, p, rfl, f0, f1, f2, f3, f4, f5, f6, f7, f8, f9, f10, f11, f12, f13, f14, f15, f17, f18, hbel, hs, hres, hrw, gp16⟩ := hinv
          have e11 := f11 (hdep.get 11 rfl)
          subst e11
          simp only [Act.put]
          go_wp2_with fail
          exact snInvS.mk u13 u14 u15 (.tuple #[.agg #[.float .f32 y0, .float .f32 y1, .float .f32 y2, .float .f32 y3], .float .f32 yo, .bool R.ok]) u48 u49 u50 u51 u52 u53 u54 u55 u56 u57 u58 (.agg #[.float .f32 y0, .float .f32 y1, .float .f32 y2, .float .f32 y3]) u60 u61 y0 y1 y2 y3 yo p (by first | kernel_rfl | rfl) (Gd.keep (i := 12) f0 (by decide)) (Gd.keep (i := 12) f1 (by decide)) (Gd.keep (i := 12) f2 (by decide)) (Gd.keep (i := 12) f3 (by decide)) (Gd.keep (i := 12) f4 (by decide)) (Gd.keep (i := 12) f5 (by decide)) (Gd.keep (i := 12) f6 (by decide)) (Gd.keep (i := 12) f7 (by decide)) (Gd.keep (i := 12) f8 (by decide)) (Gd.keep (i := 12) f9 (by decide)) (Gd.keep (i := 12) f10 (by decide)) (Gd.new rfl) (Gd.new (by first | rfl | simp)) (Gd.keep (i := 12) f13 (by decide)) (Gd.keep (i := 12) f14 (by decide)) (Gd.keep (i := 12) f15 (by decide)) (Gd.keep (i := 12) f17 (by decide)) (Gd.keep (i := 12) f18 (by decide)) hbel hs hres hrw (Gd.keep (i := 12) gp16 (by decide))
        refine .cons 14 rfl ?_ ?_
        · intro d a w9 hsz hcl hinv hd hdep
          obtain ⟨u13, u14, u15, u47, u48, u49, u50, u51, u52, u53, u54, u55, u56, u57, u58, u59, u60, u61, y0, y1, y2, y3, yo, p, rfl, f0, f1, f2, f3, f4, f5, f6, f7, f8, f9, f10, f11, f12, f13, f14, f15, f17, f18, hbel, hs, hres, hrw, gp16⟩ := hinv
          have e11 := f11 (hdep.get 11 rfl)
          subst e11
          simp only [Act.put]
          go_wp2_with fail
          exact snInvS.mk u13 u14 u15 (.tuple #[.agg #[.float .f32 y0, .float .f32 y1, .float .f32 y2, .float .f32 y3], .float .f32 yo, .bool R.ok]) u48 u49 u50 u51 u52 u53 u54 u55 u56 u57 u58 u59 (.float .f32 yo) u61 y0 y1 y2 y3 yo p (by first | kernel_rfl | rfl) (Gd.keep (i := 13) f0 (by decide)) (Gd.keep (i := 13) f1 (by decide)) (Gd.keep (i := 13) f2 (by decide)) (Gd.keep (i := 13) f3 (by decide)) (Gd.keep (i := 13) f4 (by decide)) (Gd.keep (i := 13) f5 (by decide)) (Gd.keep (i := 13) f6 (by decide)) (Gd.keep (i := 13) f7 (by decide)) (Gd.keep (i := 13) f8 (by decide)) (Gd.keep (i := 13) f9 (by decide)) (Gd.keep (i := 13) f10 (by decide)) (Gd.new rfl) (Gd.keep (i := 13) f12 (by decide)) (Gd.new (by first | rfl | simp)) (Gd.keep (i := 13) f14 (by decide)) (Gd.keep (i := 13) f15 (by decide)) (Gd.keep (i := 13) f17 (by decide)) (Gd.keep (i := 13) f18 (by decide)) hbel hs hres hrw (Gd.keep (i := 13) gp16 (by decide))
        refine .cons 15 rfl ?_ ?_
        · intro d a w9 hsz hcl hinv hd hdep
          obtain ⟨u13, u14, u15, u47, u48, u49, u50, u51, u52, u53, u54, u55, u56, u57, u58, u59, u60, u61, y0, y1, y2, y3, yo, p, rfl, f0, f1, f2, f3, f4, f5, f6, f7, f8, f9, f10, f11, f12, f13, f14, f15, f17, f18, hbel, hs, hres, hrw, gp16⟩ := hinv
          have e11 := f11 (hdep.get 11 rfl)
          subst e11
          simp only [Act.put]
          go_wp2_with fail
          exact snInvS.mk u13 u14 u15 (.tuple #[.agg #[.float .f32 y0, .float .f32 y1, .float .f32 y2, .float .f32 y3], .float .f32 yo, .bool R.ok]) u48 u49 u50 u51 u52 u53 u54 u55 u56 u57 u58 u59 u60 (.bool R.ok) y0 y1 y2 y3 yo p (by first | kernel_rfl | rfl) (Gd.keep (i := 14) f0 (by decide)) (Gd.keep (i := 14) f1 (by decide)) (Gd.keep (i := 14) f2 (by decide)) (Gd.keep (i := 14) f3 (by decide)) (Gd.keep (i := 14) f4 (by decide)) (Gd.keep (i := 14) f5 (by decide)) (Gd.keep (i := 14) f6 (by decide)) (Gd.keep (i := 14) f7 (by decide)) (Gd.keep (i := 14) f8 (by decide)) (Gd.keep (i := 14) f9 (by decide)) (Gd.keep (i := 14) f10 (by decide)) (Gd.new rfl) (Gd.keep (i := 14) f12 (by decide)) (Gd.keep (i := 14) f13 (by decide)) (Gd.new (by first | rfl | simp)) (Gd.keep (i := 14) f15 (by decide)) (Gd.keep (i := 14) f17 (by decide)) (Gd.keep (i := 14) f18 (by decide)) hbel hs hres hrw (Gd.keep (i := 14) gp16 (by decide))
        refine .cons 16 rfl ?_ ?_
        · intro d a w9 hsz hcl hinv hd hdep
          obtain ⟨u13, u14, u15, u47, u48, u49, u50, u51, u52, u53, u54, u55, u56, u57, u58, u59, u60, u61, y0, y1, y2, y3, yo, p, rfl, f0, f1, f2, f3, f4, f5, f6, f7, f8, f9, f10, f11, f12, f13, f14, f15, f17, f18, hbel, hs, hres, hrw, gp16⟩ := hinv
          have n16 := hcl.not hd 16 _ rfl rfl
          simp only [Act.put]
          go_wp2_with fail
          exact snInvS.mk (.pointer (some ⟨w9.heap.size, 0, none⟩)) u14 u15 u47 u48 u49 u50 u51 u52 u53 u54 u55 u56 u57 u58 u59 u60 u61 y0 y1 y2 y3 yo w9.heap.size (by first | kernel_rfl | rfl) (Gd.keep (i := 15) f0 (by decide)) (Gd.keep (i := 15) f1 (by decide)) (Gd.keep (i := 15) f2 (by decide)) (Gd.keep (i := 15) f3 (by decide)) (Gd.keep (i := 15) f4 (by decide)) (Gd.keep (i := 15) f5 (by decide)) (Gd.keep (i := 15) f6 (by decide)) (Gd.keep (i := 15) f7 (by decide)) (Gd.keep (i := 15) f8 (by decide)) (Gd.keep (i := 15) f9 (by decide)) (Gd.keep (i := 15) f10 (by decide)) (Gd.keep (i := 15) f11 (by decide)) (Gd.keep (i := 15) f12 (by decide)) (Gd.keep (i := 15) f13 (by decide)) (Gd.keep (i := 15) f14 (by decide)) (Gd.new ⟨(by first | rfl | simp), (by have := hbel.size; have := hres.1.1; omega), (fun h9 => by have := (hrw.lo _ h9).2; omega), _, _, _, _, Bw.new _ [_, _, _, _] _⟩) (Gd.keep (i := 15) f17 (by decide)) (Gd.keep (i := 15) f18 (by decide)) (hbel.alloc hbel.size _) (hs.alloc _) (hres.alloc _) (hrw.alloc _) (Gd.undone (i := 15) n16 (by decide))
        refine .cons 17 rfl ?_ ?_
        · intro d a w9 hsz hcl hinv hd hdep
          obtain ⟨u13, u14, u15, u47, u48, u49, u50, u51, u52, u53, u54, u55, u56, u57, u58, u59, u60, u61, y0, y1, y2, y3, yo, p, rfl, f0, f1, f2, f3, f4, f5, f6, f7, f8, f9, f10, f11, f12, f13, f14, f15, f17, f18, hbel, hs, hres, hrw, gp16⟩ := hinv
          obtain ⟨e15, hp15⟩ := f15 (hdep.get 15 rfl)
          have Hp15 := Lib.hid hp15
          subst e15
          obtain ⟨hp0, hp1, q0, q1, q2, q3, hbp⟩ := hp15
          have e12 := f12 (hdep.get 12 rfl)
          subst e12
          have hc0 := hbp.c 0 rfl
          have hc1 := hbp.c 1 rfl
          have hc2 := hbp.c 2 rfl
          have hc3 := hbp.c 3 rfl
          have hf0 := hbp.f 0 (by simp)
          have hf1 := hbp.f 1 (by simp)
          have hf2 := hbp.f 2 (by simp)
          have hf3 := hbp.f 3 (by simp)
          simp only [Act.put]
          go_wp2_with fail
          have hpw : w.heap.size ≤ p := by omega
          have hnew := Bw.of4 (v0 := .float .f32 y0) (v1 := .float .f32 y1) (v2 := .float .f32 y2) (v3 := .float .f32 y3) (w := ((((w9.setCell ⟨p, 0, none⟩ (.float .f32 y0)).setCell ⟨p, 1, none⟩ (.float .f32 y1)).setCell ⟨p, 2, none⟩ (.float .f32 y2)).setCell ⟨p, 3, none⟩ (.float .f32 y3))) (b := p) (by have := hbp.1.1; simp; omega) (by first | (simp [go_sem, hf0, hf1, hf2, hf3]; done) | (simp (maxDischargeDepth := 12) [go_sem, hc0, hc1, hc2, hc3, hf0, hf1, hf2, hf3]; done) | (simp (maxDischargeDepth := 12) [go_sem, hc0, hc1, hc2, hc3, hf0, hf1, hf2, hf3]; rfl)) (by first | (simp [go_sem, hf0, hf1, hf2, hf3]; done) | (simp (maxDischargeDepth := 12) [go_sem, hc0, hc1, hc2, hc3, hf0, hf1, hf2, hf3]; done) | (simp (maxDischargeDepth := 12) [go_sem, hc0, hc1, hc2, hc3, hf0, hf1, hf2, hf3]; rfl)) (by first | (simp [go_sem, hf0, hf1, hf2, hf3]; done) | (simp (maxDischargeDepth := 12) [go_sem, hc0, hc1, hc2, hc3, hf0, hf1, hf2, hf3]; done) | (simp (maxDischargeDepth := 12) [go_sem, hc0, hc1, hc2, hc3, hf0, hf1, hf2, hf3]; rfl)) (by first | (simp [go_sem, hf0, hf1, hf2, hf3]; done) | (simp (maxDischargeDepth := 12) [go_sem, hc0, hc1, hc2, hc3, hf0, hf1, hf2, hf3]; done) | (simp (maxDischargeDepth := 12) [go_sem, hc0, hc1, hc2, hc3, hf0, hf1, hf2, hf3]; rfl)) (by first | (simp [go_sem, hf0, hf1, hf2, hf3]; done) | (simp (maxDischargeDepth := 12) [go_sem, hc0, hc1, hc2, hc3, hf0, hf1, hf2, hf3]; done) | (simp (maxDischargeDepth := 12) [go_sem, hc0, hc1, hc2, hc3, hf0, hf1, hf2, hf3]; rfl)) (by first | (simp [go_sem, hf0, hf1, hf2, hf3]; done) | (simp (maxDischargeDepth := 12) [go_sem, hc0, hc1, hc2, hc3, hf0, hf1, hf2, hf3]; done) | (simp (maxDischargeDepth := 12) [go_sem, hc0, hc1, hc2, hc3, hf0, hf1, hf2, hf3]; rfl)) (by first | (simp [go_sem, hf0, hf1, hf2, hf3]; done) | (simp (maxDischargeDepth := 12) [go_sem, hc0, hc1, hc2, hc3, hf0, hf1, hf2, hf3]; done) | (simp (maxDischargeDepth := 12) [go_sem, hc0, hc1, hc2, hc3, hf0, hf1, hf2, hf3]; rfl)) (by first | (simp [go_sem, hf0, hf1, hf2, hf3]; done) | (simp (maxDischargeDepth := 12) [go_sem, hc0, hc1, hc2, hc3, hf0, hf1, hf2, hf3]; done) | (simp (maxDischargeDepth := 12) [go_sem, hc0, hc1, hc2, hc3, hf0, hf1, hf2, hf3]; rfl))
          exact snInvS.mk (.pointer (some ⟨p, 0, none⟩)) u14 u15 u47 u48 u49 u50 u51 u52 u53 u54 u55 u56 u57 u58 (.agg #[.float .f32 y0, .float .f32 y1, .float .f32 y2, .float .f32 y3]) u60 u61 y0 y1 y2 y3 yo p (by first | kernel_rfl | rfl) (Gd.keep (i := 16) f0 (by decide)) (Gd.keep (i := 16) f1 (by decide)) (Gd.keep (i := 16) f2 (by decide)) (Gd.keep (i := 16) f3 (by decide)) (Gd.keep (i := 16) f4 (by decide)) (Gd.keep (i := 16) f5 (by decide)) (Gd.keep (i := 16) f6 (by decide)) (Gd.keep (i := 16) f7 (by decide)) (Gd.keep (i := 16) f8 (by decide)) (Gd.keep (i := 16) f9 (by decide)) (Gd.keep (i := 16) f10 (by decide)) (Gd.keep (i := 16) f11 (by decide)) (Gd.new rfl) (Gd.keep (i := 16) f13 (by decide)) (Gd.keep (i := 16) f14 (by decide)) (Gd.new ⟨rfl, hp0, hp1, _, _, _, _, hnew⟩) (Gd.keep (i := 16) f17 (by decide)) (Gd.keep (i := 16) f18 (by decide)) ((((hbel.setCell hpw _).setCell hpw _).setCell hpw _).setCell hpw _) (Bw.far4 hs (by omega) _ _ _ _ _ _ _ _) (Bw.far4 hres (by omega) _ _ _ _ _ _ _ _) (hrw.far4 hp1 _ _ _ _ _ _ _ _) (Gd.new hnew)
        refine .cons 18 rfl ?_ ?_
        · intro d a w9 hsz hcl hinv hd hdep
          obtain ⟨u13, u14, u15, u47, u48, u49, u50, u51, u52, u53, u54, u55, u56, u57, u58, u59, u60, u61, y0, y1, y2, y3, yo, p, rfl, f0, f1, f2, f3, f4, f5, f6, f7, f8, f9, f10, f11, f12, f13, f14, f15, f17, f18, hbel, hs, hres, hrw, gp16⟩ := hinv
          have e13 := f13 (hdep.get 13 rfl)
          subst e13
          simp only [Act.put]
          go_wp2_with fail
          exact snInvS.mk u13 (.float .f32 yo) u15 u47 u48 u49 u50 u51 u52 u53 u54 u55 u56 u57 u58 u59 (.float .f32 yo) u61 y0 y1 y2 y3 yo p (by first | kernel_rfl | rfl) (Gd.keep (i := 17) f0 (by decide)) (Gd.keep (i := 17) f1 (by decide)) (Gd.keep (i := 17) f2 (by decide)) (Gd.keep (i := 17) f3 (by decide)) (Gd.keep (i := 17) f4 (by decide)) (Gd.keep (i := 17) f5 (by decide)) (Gd.keep (i := 17) f6 (by decide)) (Gd.keep (i := 17) f7 (by decide)) (Gd.keep (i := 17) f8 (by decide)) (Gd.keep (i := 17) f9 (by decide)) (Gd.keep (i := 17) f10 (by decide)) (Gd.keep (i := 17) f11 (by decide)) (Gd.keep (i := 17) f12 (by decide)) (Gd.new rfl) (Gd.keep (i := 17) f14 (by decide)) (Gd.keep (i := 17) f15 (by decide)) (Gd.new (by first | rfl | simp)) (Gd.keep (i := 17) f18 (by decide)) hbel hs hres hrw (Gd.keep (i := 17) gp16 (by decide))
        refine .cons 19 rfl ?_ trivial
        · intro d a w9 hsz hcl hinv hd hdep
          obtain ⟨u13, u14, u15, u47, u48, u49, u50, u51, u52, u53, u54, u55, u56, u57, u58, u59, u60, u61, y0, y1, y2, y3, yo, p, rfl, f0, f1, f2, f3, f4, f5, f6, f7, f8, f9, f10, f11, f12, f13, f14, f15, f17, f18, hbel, hs, hres, hrw, gp16⟩ := hinv
          have e14 := f14 (hdep.get 14 rfl)
          subst e14
          simp only [Act.put]
          go_wp2_with fail
          exact snInvS.mk u13 u14 (.bool R.ok) u47 u48 u49 u50 u51 u52 u53 u54 u55 u56 u57 u58 u59 u60 (.bool R.ok) y0 y1 y2 y3 yo p (by first | kernel_rfl | rfl) (Gd.keep (i := 18) f0 (by decide)) (Gd.keep (i := 18) f1 (by decide)) (Gd.keep (i := 18) f2 (by decide)) (Gd.keep (i := 18) f3 (by decide)) (Gd.keep (i := 18) f4 (by decide)) (Gd.keep (i := 18) f5 (by decide)) (Gd.keep (i := 18) f6 (by decide)) (Gd.keep (i := 18) f7 (by decide)) (Gd.keep (i := 18) f8 (by decide)) (Gd.keep (i := 18) f9 (by decide)) (Gd.keep (i := 18) f10 (by decide)) (Gd.keep (i := 18) f11 (by decide)) (Gd.keep (i := 18) f12 (by decide)) (Gd.keep (i := 18) f13 (by decide)) (Gd.new rfl) (Gd.keep (i := 18) f15 (by decide)) (Gd.keep (i := 18) f17 (by decide)) (Gd.new (by first | rfl | simp)) hbel hs hres hrw (Gd.keep (i := 18) gp16 (by decide))
    · have hkX : k = X.length := by omega
      subst hkX
      obtain ⟨av, cv, hv9⟩ := HRow.out.len
      subst hv9
      have hv : Q = ⟨(snIt A0 A1 A2 A3 T X V X.length).s0, (snIt A0 A1 A2 A3 T X V X.length).s1, (snIt A0 A1 A2 A3 T X V X.length).s2, (snIt A0 A1 A2 A3 T X V X.length).s3, ls, true⟩ := by rw [← HQ2.out, if_pos HOk.out, ← HIl.out.exact (snOuts_fin HOk.out)]
      have HV := Lib.hid hv
      clear hv
      have hne9 : (Value.slice av ls.length cv).ownBlock ≠ some (w.heap.size + 1) := fun h9 => by have := (HRow.out.lo _ h9).1; omega
      have HNe := Lib.hid hne9
      clear hne9
      have hc0 := HS.out.c 0 rfl
      have hc1 := HS.out.c 1 rfl
      have hc2 := HS.out.c 2 rfl
      have hc3 := HS.out.c 3 rfl
      have hr0 := HR.out.c 0 rfl
      have hr1 := HR.out.c 1 rfl
      have hr2 := HR.out.c 2 rfl
      have hr3 := HR.out.c 3 rfl
      have hg0 := HR.out.f 0 (by simp)
      have hg1 := HR.out.f 1 (by simp)
      have hg2 := HR.out.f 2 (by simp)
      have hg3 := HR.out.f 3 (by simp)
      go_wp2_with fail
      rw [HV.out]
      exact bodyPost_ret (v := .tuple #[.agg #[.float .f32 c0, .float .f32 c1, .float .f32 c2, .float .f32 c3], .slice av ls.length cv, .bool true]) (by first | (simp [results, Try.results23, go_sem, hr0, hr1, hr2, hr3, hg0, hg1, hg2, hg3, hc0, hc1, hc2, hc3]; done) | (simp (maxDischargeDepth := 12) [results, Try.results23, go_sem, hr0, hr1, hr2, hr3, hg0, hg1, hg2, hg3, hc0, hc1, hc2, hc3]; done) | (simp (maxDischargeDepth := 12) [results, Try.results23, go_sem, hr0, hr1, hr2, hr3, hg0, hg1, hg2, hg3, hc0, hc1, hc2, hc3]; rfl)) rfl (RunB.yes (lo := w.heap.size + 2) (HRow.out.far4 HNe.out _ _ _ _ _ _ _ _) (by omega) (by rw [HLk.out]; exact hl1) HC.out (by repeat (first | with_reducible exact HBk.out | with_reducible refine beld ?_ _ | (with_reducible refine Below.alloc ?_ ?_ _; rotate_left; exact (by first | (simp; done) | (simp; omega) | omega)) | (with_reducible refine Below.setCell ?_ ?_ _; rotate_left; exact (by first | (simp; done) | (simp; omega) | omega)))))

end Go.Proofs.Ytfdcfalkidcdnab
