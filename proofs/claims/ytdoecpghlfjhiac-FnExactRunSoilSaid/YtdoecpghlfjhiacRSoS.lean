/- Soils behind rain: the model. -/
import Derived.Test.YtdoecpghlfjhiacRSoI
namespace Go.Proofs.Ytdoecpghlfjhiac
open Go.RowKit
set_option linter.unusedVariables false
set_option linter.unusedSimpArgs false
set_option maxRecDepth 100000
attribute [local irreducible] wpV wpList Code.wp

theorem Bw.far5 {w : World} {b b9 : Nat} {vs : List Value} (h : Bw w b9 vs) (hb : b ≠ b9) (i j k l m : Nat) (p q r s t : Value) : Bw (((((w.setCell ⟨b, i, none⟩ p).setCell ⟨b, j, none⟩ q).setCell ⟨b, k, none⟩ r).setCell ⟨b, l, none⟩ s).setCell ⟨b, m, none⟩ t) b9 vs :=
  ((((h.setFar hb p).setFar hb q).setFar hb r).setFar hb s).setFar hb t
theorem RowO.faar5 {w : World} {lo b : Nat} {v : Value} {zs : List Nat} (h : RowO w lo v zs) (hb : v.ownBlock ≠ some b) (i j k l m : Nat) (p q r s t : Value) : RowO (((((w.setCell ⟨b, i, none⟩ p).setCell ⟨b, j, none⟩ q).setCell ⟨b, k, none⟩ r).setCell ⟨b, l, none⟩ s).setCell ⟨b, m, none⟩ t) lo v zs :=
  ((((h.setFar hb p).setFar hb q).setFar hb r).setFar hb s).setFar hb t
theorem drew_below {W w1 : World} {n : Nat} (h : w1 = W.drewN n) : Below W.heap.size W w1 := by subst h; exact beld (Below.refl _ _) _
theorem soIt_soil {A0 A1 A2 A3 A4 T : Option Nat} {X : List Nat} {a0 a1 a2 a3 a4 t : Nat} (h0 : Is32 A0 a0) (h1 : Is32 A1 a1) (h2 : Is32 A2 a2) (h3 : Is32 A3 a3) (h4 : Is32 A4 a4) (ht : Is32 T t) : True := trivial
def soInvS (a0 : Act) (w0 : World) (R : SoilR) (vv uu : Value) (k bx ox N cap1 c0 c1 c2 c3 c4 x t : Nat) (ls ms : List Nat) (d : Array Bool) (a : Act) (w : World) : Prop :=
  ∃ (u13 u14 u15 u16 u37 u38 u39 u40 u41 u42 u43 u44 u45 u46 u47 u48 : Value) (y0 y1 y2 y3 y4 yo yg p : Nat), a = ((((((((((((((((a0.put (some 13) u13).put (some 14) u14).put (some 15) u15).put (some 16) u16).put (some 37) u37).put (some 38) u38).put (some 39) u39).put (some 40) u40).put (some 41) u41).put (some 42) u42).put (some 43) u43).put (some 44) u44).put (some 45) u45).put (some 46) u46).put (some 47) u47).put (some 48) u48) ∧ Gd d 0 (u38 = .agg #[.float .f32 c0, .float .f32 c1, .float .f32 c2, .float .f32 c3, .float .f32 c4]) ∧ Gd d 1 (u39 = .slice (some ⟨bx, ox, none⟩) N cap1) ∧ Gd d 2 (u40 = .int .i64 k) ∧ Gd d 3 (u41 = .pointer (some ⟨bx, ox + k, none⟩)) ∧ Gd d 4 (u42 = .float .f32 x) ∧ Gd d 5 (u43 = .float .f32 t) ∧ Gd d 6 (u44 = .tuple #[.agg #[.float .f32 y0, .float .f32 y1, .float .f32 y2, .float .f32 y3, .float .f32 y4], .float .f32 yo, .float .f32 yg, .bool R.ok] ∧ (Is32 R.s0 y0 ∧ Is32 R.s1 y1 ∧ Is32 R.s2 y2 ∧ Is32 R.s3 y3 ∧ Is32 R.s4 y4 ∧ Is32 R.off yo ∧ Is32 R.goes yg)) ∧ Gd d 7 (u37 = .tuple #[.agg #[.float .f32 y0, .float .f32 y1, .float .f32 y2, .float .f32 y3, .float .f32 y4], .float .f32 yo, .float .f32 yg, .bool R.ok]) ∧ Gd d 8 (u45 = .agg #[.float .f32 y0, .float .f32 y1, .float .f32 y2, .float .f32 y3, .float .f32 y4]) ∧ Gd d 9 (u46 = .float .f32 yo) ∧ Gd d 10 (u47 = .float .f32 yg) ∧ Gd d 11 (u48 = .bool R.ok) ∧ Gd d 12 (u13 = .pointer (some ⟨p, 0, none⟩) ∧ w0.heap.size + 2 ≤ p ∧ vv.ownBlock ≠ some p ∧ uu.ownBlock ≠ some p ∧ ∃ q0 q1 q2 q3 q4, Bw w p [q0, q1, q2, q3, q4]) ∧ Gd d 14 (u14 = .float .f32 yo) ∧ Gd d 15 (u15 = .float .f32 yg) ∧ Gd d 16 (u16 = .bool R.ok) ∧ Below w0.heap.size w0 w ∧ Bw w w0.heap.size [.float .f32 c0, .float .f32 c1, .float .f32 c2, .float .f32 c3, .float .f32 c4] ∧ Bw w (w0.heap.size + 1) [.float .f32 0, .float .f32 0, .float .f32 0, .float .f32 0, .float .f32 0] ∧ RowO w (w0.heap.size + 2) vv ls ∧ RowO w (w0.heap.size + 2) uu ms ∧ Gd d 13 (Bw w p [.float .f32 y0, .float .f32 y1, .float .f32 y2, .float .f32 y3, .float .f32 y4])
theorem soInvS.mk {a0 : Act} {w0 : World} {R : SoilR} {vv uu : Value} {k bx ox N cap1 c0 c1 c2 c3 c4 x t : Nat} {ls ms : List Nat} {d : Array Bool} {a : Act} {w : World} (u13 u14 u15 u16 u37 u38 u39 u40 u41 u42 u43 u44 u45 u46 u47 u48 : Value) (y0 y1 y2 y3 y4 yo yg p : Nat) (e : a = ((((((((((((((((a0.put (some 13) u13).put (some 14) u14).put (some 15) u15).put (some 16) u16).put (some 37) u37).put (some 38) u38).put (some 39) u39).put (some 40) u40).put (some 41) u41).put (some 42) u42).put (some 43) u43).put (some 44) u44).put (some 45) u45).put (some 46) u46).put (some 47) u47).put (some 48) u48)) (f0 : Gd d 0 (u38 = .agg #[.float .f32 c0, .float .f32 c1, .float .f32 c2, .float .f32 c3, .float .f32 c4])) (f1 : Gd d 1 (u39 = .slice (some ⟨bx, ox, none⟩) N cap1)) (f2 : Gd d 2 (u40 = .int .i64 k)) (f3 : Gd d 3 (u41 = .pointer (some ⟨bx, ox + k, none⟩))) (f4 : Gd d 4 (u42 = .float .f32 x)) (f5 : Gd d 5 (u43 = .float .f32 t)) (f6 : Gd d 6 (u44 = .tuple #[.agg #[.float .f32 y0, .float .f32 y1, .float .f32 y2, .float .f32 y3, .float .f32 y4], .float .f32 yo, .float .f32 yg, .bool R.ok] ∧ (Is32 R.s0 y0 ∧ Is32 R.s1 y1 ∧ Is32 R.s2 y2 ∧ Is32 R.s3 y3 ∧ Is32 R.s4 y4 ∧ Is32 R.off yo ∧ Is32 R.goes yg))) (f7 : Gd d 7 (u37 = .tuple #[.agg #[.float .f32 y0, .float .f32 y1, .float .f32 y2, .float .f32 y3, .float .f32 y4], .float .f32 yo, .float .f32 yg, .bool R.ok])) (f8 : Gd d 8 (u45 = .agg #[.float .f32 y0, .float .f32 y1, .float .f32 y2, .float .f32 y3, .float .f32 y4])) (f9 : Gd d 9 (u46 = .float .f32 yo)) (f10 : Gd d 10 (u47 = .float .f32 yg)) (f11 : Gd d 11 (u48 = .bool R.ok)) (f12 : Gd d 12 (u13 = .pointer (some ⟨p, 0, none⟩) ∧ w0.heap.size + 2 ≤ p ∧ vv.ownBlock ≠ some p ∧ uu.ownBlock ≠ some p ∧ ∃ q0 q1 q2 q3 q4, Bw w p [q0, q1, q2, q3, q4])) (f14 : Gd d 14 (u14 = .float .f32 yo)) (f15 : Gd d 15 (u15 = .float .f32 yg)) (f16 : Gd d 16 (u16 = .bool R.ok)) (hbel : Below w0.heap.size w0 w) (hs : Bw w w0.heap.size [.float .f32 c0, .float .f32 c1, .float .f32 c2, .float .f32 c3, .float .f32 c4]) (hres : Bw w (w0.heap.size + 1) [.float .f32 0, .float .f32 0, .float .f32 0, .float .f32 0, .float .f32 0]) (hrw : RowO w (w0.heap.size + 2) vv ls) (hrx : RowO w (w0.heap.size + 2) uu ms) (gp13 : Gd d 13 (Bw w p [.float .f32 y0, .float .f32 y1, .float .f32 y2, .float .f32 y3, .float .f32 y4])) : soInvS a0 w0 R vv uu k bx ox N cap1 c0 c1 c2 c3 c4 x t ls ms d a w :=
  ⟨u13, u14, u15, u16, u37, u38, u39, u40, u41, u42, u43, u44, u45, u46, u47, u48, y0, y1, y2, y3, y4, yo, yg, p, e, f0, f1, f2, f3, f4, f5, f6, f7, f8, f9, f10, f11, f12, f14, f15, f16, hbel, hs, hres, hrw, hrx, gp13⟩
theorem soInvS.start {a0 : Act} {w0 : World} {R : SoilR} {vv uu : Value} {k bx ox N cap1 c0 c1 c2 c3 c4 x t : Nat} {ls ms : List Nat} {w : World} (n : Nat) (hbel : Below w0.heap.size w0 w) (hs : Bw w w0.heap.size [.float .f32 c0, .float .f32 c1, .float .f32 c2, .float .f32 c3, .float .f32 c4]) (hres : Bw w (w0.heap.size + 1) [.float .f32 0, .float .f32 0, .float .f32 0, .float .f32 0, .float .f32 0]) (hr : RowO w (w0.heap.size + 2) vv ls) (hx : RowO w (w0.heap.size + 2) uu ms) : soInvS a0 w0 R vv uu k bx ox N cap1 c0 c1 c2 c3 c4 x t ls ms (Array.replicate n false) a0 w :=
  ⟨a0.tmps.getD 13 undef, a0.tmps.getD 14 undef, a0.tmps.getD 15 undef, a0.tmps.getD 16 undef, a0.tmps.getD 37 undef, a0.tmps.getD 38 undef, a0.tmps.getD 39 undef, a0.tmps.getD 40 undef, a0.tmps.getD 41 undef, a0.tmps.getD 42 undef, a0.tmps.getD 43 undef, a0.tmps.getD 44 undef, a0.tmps.getD 45 undef, a0.tmps.getD 46 undef, a0.tmps.getD 47 undef, a0.tmps.getD 48 undef, 0, 0, 0, 0, 0, 0, 0, 0, by simp only [put_self], .start, .start, .start, .start, .start, .start, .start, .start, .start, .start, .start, .start, .start, .start, .start, .start, hbel, hs, hres, hr, hx, .start⟩

set_option maxHeartbeats 8000000 in
theorem runSoil_s {A0 A1 A2 A3 A4 T : Option Nat} {a0 a1 a2 a3 a4 t : Nat} (a1_ : Option Addr) (cap1 : Nat) (X : List Nat) (w : World) (ha0 : Is32 A0 a0) (ha1 : Is32 A1 a1) (ha2 : Is32 A2 a2) (ha3 : Is32 A3 a3) (ha4 : Is32 A4 a4) (h1 : RowF .f32 w a1_ X) (hl1 : X.length ≤ 1048576) (hz1 : ∀ z ∈ X, z < 4294967296) (ht : Is32 T t) : Calls Try.prog 52 #[.agg #[.float .f32 a0, .float .f32 a1, .float .f32 a2, .float .f32 a3, .float .f32 a4], .slice a1_ X.length cap1, .float .f32 t] w (RunSB (runSoilO A0 A1 A2 A3 A4 T X) w) := by
  obtain ⟨Q, hQ⟩ : ∃ Q, runSoilO A0 A1 A2 A3 A4 T X = Q := ⟨_, rfl⟩
  rw [hQ]
  have HQ := Lib.hid hQ
  have H1 := Lib.hid h1
  have HZ1 := Lib.hid hz1
  clear hQ h1 hz1
  go_enter Try.func52, Try.ntmps52
  go_wp2_with fail
  refine (l03Soil_o _ _ (Bx.of5 (by first | (simp; done) | (simp; omega) | omega) (by first | (simp [go_sem]; done) | (simp (maxDischargeDepth := 8) [go_sem]; done) | (simp (maxDischargeDepth := 8) [go_sem]; rfl)) (by first | (simp [go_sem]; done) | (simp (maxDischargeDepth := 8) [go_sem]; done) | (simp (maxDischargeDepth := 8) [go_sem]; rfl)) (by first | (simp [go_sem]; done) | (simp (maxDischargeDepth := 8) [go_sem]; done) | (simp (maxDischargeDepth := 8) [go_sem]; rfl)) (by first | (simp [go_sem]; done) | (simp (maxDischargeDepth := 8) [go_sem]; done) | (simp (maxDischargeDepth := 8) [go_sem]; rfl)) (by first | (simp [go_sem]; done) | (simp (maxDischargeDepth := 8) [go_sem]; done) | (simp (maxDischargeDepth := 8) [go_sem]; rfl))) ha0 ha1 ha2 ha3 ha4).mono ?_
  rintro e w1 ⟨bb, hbb, rfl, q1, hw1⟩
  have hb := drew_below hw1
  have Hs := Lib.hid hbb
  clear hbb hw1
  have hb1 : Below w.heap.size w w1 := Below.trans (by repeat (first | with_reducible exact (bel2 _ _ _ ) | with_reducible refine beld ?_ _ | (with_reducible refine Below.alloc ?_ ?_ _; rotate_left; exact (by first | (simp; done) | (simp; omega) | omega)) | (with_reducible refine Below.setCell ?_ ?_ _; rotate_left; exact (by first | (simp; done) | (simp; omega) | omega)))) (hb.mono (by first | (simp; done) | (simp; omega) | omega))
  have hs1 : w.heap.size + 2 ≤ w1.heap.size := (by have := hb.size; (try simp at this); omega)
  have bws : Bw w1 (w.heap.size) [.float .f32 a0, .float .f32 a1, .float .f32 a2, .float .f32 a3, .float .f32 a4] := (by first | exact Bw.below (Bw.of5 (by first | (simp; done) | (simp; omega) | omega) (by first | (simp [go_sem]; done) | (simp (maxDischargeDepth := 8) [go_sem]; done) | (simp [go_sem]; rfl)) (by first | (simp [go_sem]; done) | (simp (maxDischargeDepth := 8) [go_sem]; done) | (simp [go_sem]; rfl)) (by first | (simp [go_sem]; done) | (simp (maxDischargeDepth := 8) [go_sem]; done) | (simp [go_sem]; rfl)) (by first | (simp [go_sem]; done) | (simp (maxDischargeDepth := 8) [go_sem]; done) | (simp [go_sem]; rfl)) (by first | (simp [go_sem]; done) | (simp (maxDischargeDepth := 8) [go_sem]; done) | (simp [go_sem]; rfl)) (by first | (simp [go_sem]; done) | (simp (maxDischargeDepth := 8) [go_sem]; done) | (simp [go_sem]; rfl)) (by first | (simp [go_sem]; done) | (simp (maxDischargeDepth := 8) [go_sem]; done) | (simp [go_sem]; rfl)) (by first | (simp [go_sem]; done) | (simp (maxDischargeDepth := 8) [go_sem]; done) | (simp [go_sem]; rfl)) (by first | (simp [go_sem]; done) | (simp (maxDischargeDepth := 8) [go_sem]; done) | (simp [go_sem]; rfl)) (by first | (simp [go_sem]; done) | (simp (maxDischargeDepth := 8) [go_sem]; done) | (simp [go_sem]; rfl))) hb (by first | (simp; done) | (simp; omega) | omega))
  have bwr : Bw w1 (w.heap.size + 1) [.float .f32 0, .float .f32 0, .float .f32 0, .float .f32 0, .float .f32 0] := (by first | exact Bw.below (Bw.of5 (by first | (simp; done) | (simp; omega) | omega) (by first | (simp [go_sem]; done) | (simp (maxDischargeDepth := 8) [go_sem]; done) | (simp [go_sem]; rfl)) (by first | (simp [go_sem]; done) | (simp (maxDischargeDepth := 8) [go_sem]; done) | (simp [go_sem]; rfl)) (by first | (simp [go_sem]; done) | (simp (maxDischargeDepth := 8) [go_sem]; done) | (simp [go_sem]; rfl)) (by first | (simp [go_sem]; done) | (simp (maxDischargeDepth := 8) [go_sem]; done) | (simp [go_sem]; rfl)) (by first | (simp [go_sem]; done) | (simp (maxDischargeDepth := 8) [go_sem]; done) | (simp [go_sem]; rfl)) (by first | (simp [go_sem]; done) | (simp (maxDischargeDepth := 8) [go_sem]; done) | (simp [go_sem]; rfl)) (by first | (simp [go_sem]; done) | (simp (maxDischargeDepth := 8) [go_sem]; done) | (simp [go_sem]; rfl)) (by first | (simp [go_sem]; done) | (simp (maxDischargeDepth := 8) [go_sem]; done) | (simp [go_sem]; rfl)) (by first | (simp [go_sem]; done) | (simp (maxDischargeDepth := 8) [go_sem]; done) | (simp [go_sem]; rfl)) (by first | (simp [go_sem]; done) | (simp (maxDischargeDepth := 8) [go_sem]; done) | (simp [go_sem]; rfl))) hb (by first | (simp; done) | (simp; omega) | omega))
  have cs0 := bws.c 0 rfl
  have fs0 := bws.f 0 (by simp)
  have cs1 := bws.c 1 rfl
  have fs1 := bws.f 1 (by simp)
  have cs2 := bws.c 2 rfl
  have fs2 := bws.f 2 (by simp)
  have cs3 := bws.c 3 rfl
  have fs3 := bws.f 3 (by simp)
  have cs4 := bws.c 4 rfl
  have fs4 := bws.f 4 (by simp)
  have BWs1 := Lib.hid bws
  clear bws
  have cr0 := bwr.c 0 rfl
  have fr0 := bwr.f 0 (by simp)
  have cr1 := bwr.c 1 rfl
  have fr1 := bwr.f 1 (by simp)
  have cr2 := bwr.c 2 rfl
  have fr2 := bwr.f 2 (by simp)
  have cr3 := bwr.c 3 rfl
  have fr3 := bwr.f 3 (by simp)
  have cr4 := bwr.c 4 rfl
  have fr4 := bwr.f 4 (by simp)
  have BWr1 := Lib.hid bwr
  clear bwr
  have Hb1 := Lib.hid hb1
  clear hb hb1
  cases bb
  · have hv : Q = failRunS := by rw [← HQ.out]; unfold runSoilO; rw [Hs.out]; simp only [Bool.false_and, Bool.and_false]; rfl
    have HV := Lib.hid hv
    clear hv
    go_wp2_with fail
    rw [HV.out]
    exact bodyPost_ret (v := .tuple #[.agg #[.float .f32 0, .float .f32 0, .float .f32 0, .float .f32 0, .float .f32 0], .slice none 0 0, .slice none 0 0, .bool false]) (by first | (simp [results, Try.results52, go_sem, cs0, fs0, cs1, fs1, cs2, fs2, cs3, fs3, cs4, fs4, cr0, fr0, cr1, fr1, cr2, fr2, cr3, fr3, cr4, fr4]; done) | (simp (maxDischargeDepth := 12) [results, Try.results52, go_sem, cs0, fs0, cs1, fs1, cs2, fs2, cs3, fs3, cs4, fs4, cr0, fr0, cr1, fr1, cr2, fr2, cr3, fr3, cr4, fr4]; done) | (simp (maxDischargeDepth := 12) [results, Try.results52, go_sem, cs0, fs0, cs1, fs1, cs2, fs2, cs3, fs3, cs4, fs4, cr0, fr0, cr1, fr1, cr2, fr2, cr3, fr3, cr4, fr4]; rfl)) rfl (RunSB.no (by repeat (first | with_reducible exact Hb1.out | with_reducible refine beld ?_ _ | (with_reducible refine Below.alloc ?_ ?_ _; rotate_left; exact (by first | (simp; done) | (simp; omega) | omega)) | (with_reducible refine Below.setCell ?_ ?_ _; rotate_left; exact (by first | (simp; done) | (simp; omega) | omega)))))
  go_wp2_with fail
  refine (l03IsRain_o a1_ cap1 X _ (H1.out.below Hb1.out (Nat.le_refl _)) hl1 HZ1.out).mono ?_
  rintro e w2 ⟨bb, hbb, rfl, q2, hw2⟩
  have hb := drew_below hw2
  have Hx := Lib.hid hbb
  clear hbb hw2
  have hb2 : Below w.heap.size w w2 := Below.trans (by repeat (first | with_reducible exact Hb1.out | with_reducible refine beld ?_ _ | (with_reducible refine Below.alloc ?_ ?_ _; rotate_left; exact (by first | (simp; done) | (simp; omega) | omega)) | (with_reducible refine Below.setCell ?_ ?_ _; rotate_left; exact (by first | (simp; done) | (simp; omega) | omega)))) (hb.mono (by first | (simp; done) | (simp; omega) | omega))
  have hs2 : w.heap.size + 2 ≤ w2.heap.size := (by have := hb.size; (try simp at this); omega)
  have bws : Bw w2 (w.heap.size) [.float .f32 a0, .float .f32 a1, .float .f32 a2, .float .f32 a3, .float .f32 a4] := (by first | with_reducible exact Bw.below BWs1.out hb (by first | (simp; done) | (simp; omega) | omega) | with_reducible exact Bw.below (Bw.drewN BWs1.out _) hb (by first | (simp; done) | (simp; omega) | omega) | with_reducible exact Bw.below (Bw.alloc BWs1.out _) hb (by first | (simp; done) | (simp; omega) | omega) | with_reducible exact Bw.below (Bw.alloc (Bw.drewN BWs1.out _) _) hb (by first | (simp; done) | (simp; omega) | omega) | exact Bw.below (Bw.of5 (by first | (simp; done) | (simp; omega) | omega) (by first | (simp [go_sem, cs0, fs0, cs1, fs1, cs2, fs2, cs3, fs3, cs4, fs4, cr0, fr0, cr1, fr1, cr2, fr2, cr3, fr3, cr4, fr4]; done) | (simp (maxDischargeDepth := 8) [go_sem, cs0, fs0, cs1, fs1, cs2, fs2, cs3, fs3, cs4, fs4, cr0, fr0, cr1, fr1, cr2, fr2, cr3, fr3, cr4, fr4]; done) | (simp [go_sem, cs0, fs0, cs1, fs1, cs2, fs2, cs3, fs3, cs4, fs4, cr0, fr0, cr1, fr1, cr2, fr2, cr3, fr3, cr4, fr4]; rfl)) (by first | (simp [go_sem, cs0, fs0, cs1, fs1, cs2, fs2, cs3, fs3, cs4, fs4, cr0, fr0, cr1, fr1, cr2, fr2, cr3, fr3, cr4, fr4]; done) | (simp (maxDischargeDepth := 8) [go_sem, cs0, fs0, cs1, fs1, cs2, fs2, cs3, fs3, cs4, fs4, cr0, fr0, cr1, fr1, cr2, fr2, cr3, fr3, cr4, fr4]; done) | (simp [go_sem, cs0, fs0, cs1, fs1, cs2, fs2, cs3, fs3, cs4, fs4, cr0, fr0, cr1, fr1, cr2, fr2, cr3, fr3, cr4, fr4]; rfl)) (by first | (simp [go_sem, cs0, fs0, cs1, fs1, cs2, fs2, cs3, fs3, cs4, fs4, cr0, fr0, cr1, fr1, cr2, fr2, cr3, fr3, cr4, fr4]; done) | (simp (maxDischargeDepth := 8) [go_sem, cs0, fs0, cs1, fs1, cs2, fs2, cs3, fs3, cs4, fs4, cr0, fr0, cr1, fr1, cr2, fr2, cr3, fr3, cr4, fr4]; done) | (simp [go_sem, cs0, fs0, cs1, fs1, cs2, fs2, cs3, fs3, cs4, fs4, cr0, fr0, cr1, fr1, cr2, fr2, cr3, fr3, cr4, fr4]; rfl)) (by first | (simp [go_sem, cs0, fs0, cs1, fs1, cs2, fs2, cs3, fs3, cs4, fs4, cr0, fr0, cr1, fr1, cr2, fr2, cr3, fr3, cr4, fr4]; done) | (simp (maxDischargeDepth := 8) [go_sem, cs0, fs0, cs1, fs1, cs2, fs2, cs3, fs3, cs4, fs4, cr0, fr0, cr1, fr1, cr2, fr2, cr3, fr3, cr4, fr4]; done) | (simp [go_sem, cs0, fs0, cs1, fs1, cs2, fs2, cs3, fs3, cs4, fs4, cr0, fr0, cr1, fr1, cr2, fr2, cr3, fr3, cr4, fr4]; rfl)) (by first | (simp [go_sem, cs0, fs0, cs1, fs1, cs2, fs2, cs3, fs3, cs4, fs4, cr0, fr0, cr1, fr1, cr2, fr2, cr3, fr3, cr4, fr4]; done) | (simp (maxDischargeDepth := 8) [go_sem, cs0, fs0, cs1, fs1, cs2, fs2, cs3, fs3, cs4, fs4, cr0, fr0, cr1, fr1, cr2, fr2, cr3, fr3, cr4, fr4]; done) | (simp [go_sem, cs0, fs0, cs1, fs1, cs2, fs2, cs3, fs3, cs4, fs4, cr0, fr0, cr1, fr1, cr2, fr2, cr3, fr3, cr4, fr4]; rfl)) (by first | (simp [go_sem, cs0, fs0, cs1, fs1, cs2, fs2, cs3, fs3, cs4, fs4, cr0, fr0, cr1, fr1, cr2, fr2, cr3, fr3, cr4, fr4]; done) | (simp (maxDischargeDepth := 8) [go_sem, cs0, fs0, cs1, fs1, cs2, fs2, cs3, fs3, cs4, fs4, cr0, fr0, cr1, fr1, cr2, fr2, cr3, fr3, cr4, fr4]; done) | (simp [go_sem, cs0, fs0, cs1, fs1, cs2, fs2, cs3, fs3, cs4, fs4, cr0, fr0, cr1, fr1, cr2, fr2, cr3, fr3, cr4, fr4]; rfl)) (by first | (simp [go_sem, cs0, fs0, cs1, fs1, cs2, fs2, cs3, fs3, cs4, fs4, cr0, fr0, cr1, fr1, cr2, fr2, cr3, fr3, cr4, fr4]; done) | (simp (maxDischargeDepth := 8) [go_sem, cs0, fs0, cs1, fs1, cs2, fs2, cs3, fs3, cs4, fs4, cr0, fr0, cr1, fr1, cr2, fr2, cr3, fr3, cr4, fr4]; done) | (simp [go_sem, cs0, fs0, cs1, fs1, cs2, fs2, cs3, fs3, cs4, fs4, cr0, fr0, cr1, fr1, cr2, fr2, cr3, fr3, cr4, fr4]; rfl)) (by first | (simp [go_sem, cs0, fs0, cs1, fs1, cs2, fs2, cs3, fs3, cs4, fs4, cr0, fr0, cr1, fr1, cr2, fr2, cr3, fr3, cr4, fr4]; done) | (simp (maxDischargeDepth := 8) [go_sem, cs0, fs0, cs1, fs1, cs2, fs2, cs3, fs3, cs4, fs4, cr0, fr0, cr1, fr1, cr2, fr2, cr3, fr3, cr4, fr4]; done) | (simp [go_sem, cs0, fs0, cs1, fs1, cs2, fs2, cs3, fs3, cs4, fs4, cr0, fr0, cr1, fr1, cr2, fr2, cr3, fr3, cr4, fr4]; rfl)) (by first | (simp [go_sem, cs0, fs0, cs1, fs1, cs2, fs2, cs3, fs3, cs4, fs4, cr0, fr0, cr1, fr1, cr2, fr2, cr3, fr3, cr4, fr4]; done) | (simp (maxDischargeDepth := 8) [go_sem, cs0, fs0, cs1, fs1, cs2, fs2, cs3, fs3, cs4, fs4, cr0, fr0, cr1, fr1, cr2, fr2, cr3, fr3, cr4, fr4]; done) | (simp [go_sem, cs0, fs0, cs1, fs1, cs2, fs2, cs3, fs3, cs4, fs4, cr0, fr0, cr1, fr1, cr2, fr2, cr3, fr3, cr4, fr4]; rfl)) (by first | (simp [go_sem, cs0, fs0, cs1, fs1, cs2, fs2, cs3, fs3, cs4, fs4, cr0, fr0, cr1, fr1, cr2, fr2, cr3, fr3, cr4, fr4]; done) | (simp (maxDischargeDepth := 8) [go_sem, cs0, fs0, cs1, fs1, cs2, fs2, cs3, fs3, cs4, fs4, cr0, fr0, cr1, fr1, cr2, fr2, cr3, fr3, cr4, fr4]; done) | (simp [go_sem, cs0, fs0, cs1, fs1, cs2, fs2, cs3, fs3, cs4, fs4, cr0, fr0, cr1, fr1, cr2, fr2, cr3, fr3, cr4, fr4]; rfl))) hb (by first | (simp; done) | (simp; omega) | omega))
  have bwr : Bw w2 (w.heap.size + 1) [.float .f32 0, .float .f32 0, .float .f32 0, .float .f32 0, .float .f32 0] := (by first | with_reducible exact Bw.below BWr1.out hb (by first | (simp; done) | (simp; omega) | omega) | with_reducible exact Bw.below (Bw.drewN BWr1.out _) hb (by first | (simp; done) | (simp; omega) | omega) | with_reducible exact Bw.below (Bw.alloc BWr1.out _) hb (by first | (simp; done) | (simp; omega) | omega) | with_reducible exact Bw.below (Bw.alloc (Bw.drewN BWr1.out _) _) hb (by first | (simp; done) | (simp; omega) | omega) | exact Bw.below (Bw.of5 (by first | (simp; done) | (simp; omega) | omega) (by first | (simp [go_sem, cs0, fs0, cs1, fs1, cs2, fs2, cs3, fs3, cs4, fs4, cr0, fr0, cr1, fr1, cr2, fr2, cr3, fr3, cr4, fr4]; done) | (simp (maxDischargeDepth := 8) [go_sem, cs0, fs0, cs1, fs1, cs2, fs2, cs3, fs3, cs4, fs4, cr0, fr0, cr1, fr1, cr2, fr2, cr3, fr3, cr4, fr4]; done) | (simp [go_sem, cs0, fs0, cs1, fs1, cs2, fs2, cs3, fs3, cs4, fs4, cr0, fr0, cr1, fr1, cr2, fr2, cr3, fr3, cr4, fr4]; rfl)) (by first | (simp [go_sem, cs0, fs0, cs1, fs1, cs2, fs2, cs3, fs3, cs4, fs4, cr0, fr0, cr1, fr1, cr2, fr2, cr3, fr3, cr4, fr4]; done) | (simp (maxDischargeDepth := 8) [go_sem, cs0, fs0, cs1, fs1, cs2, fs2, cs3, fs3, cs4, fs4, cr0, fr0, cr1, fr1, cr2, fr2, cr3, fr3, cr4, fr4]; done) | (simp [go_sem, cs0, fs0, cs1, fs1, cs2, fs2, cs3, fs3, cs4, fs4, cr0, fr0, cr1, fr1, cr2, fr2, cr3, fr3, cr4, fr4]; rfl)) (by first | (simp [go_sem, cs0, fs0, cs1, fs1, cs2, fs2, cs3, fs3, cs4, fs4, cr0, fr0, cr1, fr1, cr2, fr2, cr3, fr3, cr4, fr4]; done) | (simp (maxDischargeDepth := 8) [go_sem, cs0, fs0, cs1, fs1, cs2, fs2, cs3, fs3, cs4, fs4, cr0, fr0, cr1, fr1, cr2, fr2, cr3, fr3, cr4, fr4]; done) | (simp [go_sem, cs0, fs0, cs1, fs1, cs2, fs2, cs3, fs3, cs4, fs4, cr0, fr0, cr1, fr1, cr2, fr2, cr3, fr3, cr4, fr4]; rfl)) (by first | (simp [go_sem, cs0, fs0, cs1, fs1, cs2, fs2, cs3, fs3, cs4, fs4, cr0, fr0, cr1, fr1, cr2, fr2, cr3, fr3, cr4, fr4]; done) | (simp (maxDischargeDepth := 8) [go_sem, cs0, fs0, cs1, fs1, cs2, fs2, cs3, fs3, cs4, fs4, cr0, fr0, cr1, fr1, cr2, fr2, cr3, fr3, cr4, fr4]; done) | (simp [go_sem, cs0, fs0, cs1, fs1, cs2, fs2, cs3, fs3, cs4, fs4, cr0, fr0, cr1, fr1, cr2, fr2, cr3, fr3, cr4, fr4]; rfl)) (by first | (simp [go_sem, cs0, fs0, cs1, fs1, cs2, fs2, cs3, fs3, cs4, fs4, cr0, fr0, cr1, fr1, cr2, fr2, cr3, fr3, cr4, fr4]; done) | (simp (maxDischargeDepth := 8) [go_sem, cs0, fs0, cs1, fs1, cs2, fs2, cs3, fs3, cs4, fs4, cr0, fr0, cr1, fr1, cr2, fr2, cr3, fr3, cr4, fr4]; done) | (simp [go_sem, cs0, fs0, cs1, fs1, cs2, fs2, cs3, fs3, cs4, fs4, cr0, fr0, cr1, fr1, cr2, fr2, cr3, fr3, cr4, fr4]; rfl)) (by first | (simp [go_sem, cs0, fs0, cs1, fs1, cs2, fs2, cs3, fs3, cs4, fs4, cr0, fr0, cr1, fr1, cr2, fr2, cr3, fr3, cr4, fr4]; done) | (simp (maxDischargeDepth := 8) [go_sem, cs0, fs0, cs1, fs1, cs2, fs2, cs3, fs3, cs4, fs4, cr0, fr0, cr1, fr1, cr2, fr2, cr3, fr3, cr4, fr4]; done) | (simp [go_sem, cs0, fs0, cs1, fs1, cs2, fs2, cs3, fs3, cs4, fs4, cr0, fr0, cr1, fr1, cr2, fr2, cr3, fr3, cr4, fr4]; rfl)) (by first | (simp [go_sem, cs0, fs0, cs1, fs1, cs2, fs2, cs3, fs3, cs4, fs4, cr0, fr0, cr1, fr1, cr2, fr2, cr3, fr3, cr4, fr4]; done) | (simp (maxDischargeDepth := 8) [go_sem, cs0, fs0, cs1, fs1, cs2, fs2, cs3, fs3, cs4, fs4, cr0, fr0, cr1, fr1, cr2, fr2, cr3, fr3, cr4, fr4]; done) | (simp [go_sem, cs0, fs0, cs1, fs1, cs2, fs2, cs3, fs3, cs4, fs4, cr0, fr0, cr1, fr1, cr2, fr2, cr3, fr3, cr4, fr4]; rfl)) (by first | (simp [go_sem, cs0, fs0, cs1, fs1, cs2, fs2, cs3, fs3, cs4, fs4, cr0, fr0, cr1, fr1, cr2, fr2, cr3, fr3, cr4, fr4]; done) | (simp (maxDischargeDepth := 8) [go_sem, cs0, fs0, cs1, fs1, cs2, fs2, cs3, fs3, cs4, fs4, cr0, fr0, cr1, fr1, cr2, fr2, cr3, fr3, cr4, fr4]; done) | (simp [go_sem, cs0, fs0, cs1, fs1, cs2, fs2, cs3, fs3, cs4, fs4, cr0, fr0, cr1, fr1, cr2, fr2, cr3, fr3, cr4, fr4]; rfl)) (by first | (simp [go_sem, cs0, fs0, cs1, fs1, cs2, fs2, cs3, fs3, cs4, fs4, cr0, fr0, cr1, fr1, cr2, fr2, cr3, fr3, cr4, fr4]; done) | (simp (maxDischargeDepth := 8) [go_sem, cs0, fs0, cs1, fs1, cs2, fs2, cs3, fs3, cs4, fs4, cr0, fr0, cr1, fr1, cr2, fr2, cr3, fr3, cr4, fr4]; done) | (simp [go_sem, cs0, fs0, cs1, fs1, cs2, fs2, cs3, fs3, cs4, fs4, cr0, fr0, cr1, fr1, cr2, fr2, cr3, fr3, cr4, fr4]; rfl)) (by first | (simp [go_sem, cs0, fs0, cs1, fs1, cs2, fs2, cs3, fs3, cs4, fs4, cr0, fr0, cr1, fr1, cr2, fr2, cr3, fr3, cr4, fr4]; done) | (simp (maxDischargeDepth := 8) [go_sem, cs0, fs0, cs1, fs1, cs2, fs2, cs3, fs3, cs4, fs4, cr0, fr0, cr1, fr1, cr2, fr2, cr3, fr3, cr4, fr4]; done) | (simp [go_sem, cs0, fs0, cs1, fs1, cs2, fs2, cs3, fs3, cs4, fs4, cr0, fr0, cr1, fr1, cr2, fr2, cr3, fr3, cr4, fr4]; rfl))) hb (by first | (simp; done) | (simp; omega) | omega))
  clear cs0 fs0 cs1 fs1 cs2 fs2 cs3 fs3 cs4 fs4 cr0 fr0 cr1 fr1 cr2 fr2 cr3 fr3 cr4 fr4 BWs1 BWr1
  have cs0 := bws.c 0 rfl
  have fs0 := bws.f 0 (by simp)
  have cs1 := bws.c 1 rfl
  have fs1 := bws.f 1 (by simp)
  have cs2 := bws.c 2 rfl
  have fs2 := bws.f 2 (by simp)
  have cs3 := bws.c 3 rfl
  have fs3 := bws.f 3 (by simp)
  have cs4 := bws.c 4 rfl
  have fs4 := bws.f 4 (by simp)
  have BWs2 := Lib.hid bws
  clear bws
  have cr0 := bwr.c 0 rfl
  have fr0 := bwr.f 0 (by simp)
  have cr1 := bwr.c 1 rfl
  have fr1 := bwr.f 1 (by simp)
  have cr2 := bwr.c 2 rfl
  have fr2 := bwr.f 2 (by simp)
  have cr3 := bwr.c 3 rfl
  have fr3 := bwr.f 3 (by simp)
  have cr4 := bwr.c 4 rfl
  have fr4 := bwr.f 4 (by simp)
  have BWr2 := Lib.hid bwr
  clear bwr
  have Hb2 := Lib.hid hb2
  clear hb hb2
  cases bb
  · have hv : Q = failRunS := by rw [← HQ.out]; unfold runSoilO; rw [Hx.out]; simp only [Bool.false_and, Bool.and_false]; rfl
    have HV := Lib.hid hv
    clear hv
    go_wp2_with fail
    rw [HV.out]
    exact bodyPost_ret (v := .tuple #[.agg #[.float .f32 0, .float .f32 0, .float .f32 0, .float .f32 0, .float .f32 0], .slice none 0 0, .slice none 0 0, .bool false]) (by first | (simp [results, Try.results52, go_sem, cs0, fs0, cs1, fs1, cs2, fs2, cs3, fs3, cs4, fs4, cr0, fr0, cr1, fr1, cr2, fr2, cr3, fr3, cr4, fr4]; done) | (simp (maxDischargeDepth := 12) [results, Try.results52, go_sem, cs0, fs0, cs1, fs1, cs2, fs2, cs3, fs3, cs4, fs4, cr0, fr0, cr1, fr1, cr2, fr2, cr3, fr3, cr4, fr4]; done) | (simp (maxDischargeDepth := 12) [results, Try.results52, go_sem, cs0, fs0, cs1, fs1, cs2, fs2, cs3, fs3, cs4, fs4, cr0, fr0, cr1, fr1, cr2, fr2, cr3, fr3, cr4, fr4]; rfl)) rfl (RunSB.no (by repeat (first | with_reducible exact Hb2.out | with_reducible refine beld ?_ _ | (with_reducible refine Below.alloc ?_ ?_ _; rotate_left; exact (by first | (simp; done) | (simp; omega) | omega)) | (with_reducible refine Below.setCell ?_ ?_ _; rotate_left; exact (by first | (simp; done) | (simp; omega) | omega)))))
  go_wp2_with fail
  refine (l02Above_o _ ht).mono ?_
  rintro e w3 ⟨bb, hbb, rfl, q3, hw3⟩
  have hb := drew_below hw3
  have Hp := Lib.hid hbb
  clear hbb hw3
  have hb3 : Below w.heap.size w w3 := Below.trans (by repeat (first | with_reducible exact Hb2.out | with_reducible refine beld ?_ _ | (with_reducible refine Below.alloc ?_ ?_ _; rotate_left; exact (by first | (simp; done) | (simp; omega) | omega)) | (with_reducible refine Below.setCell ?_ ?_ _; rotate_left; exact (by first | (simp; done) | (simp; omega) | omega)))) (hb.mono (by first | (simp; done) | (simp; omega) | omega))
  have hs3 : w.heap.size + 2 ≤ w3.heap.size := (by have := hb.size; (try simp at this); omega)
  have bws : Bw w3 (w.heap.size) [.float .f32 a0, .float .f32 a1, .float .f32 a2, .float .f32 a3, .float .f32 a4] := (by first | with_reducible exact Bw.below BWs2.out hb (by first | (simp; done) | (simp; omega) | omega) | with_reducible exact Bw.below (Bw.drewN BWs2.out _) hb (by first | (simp; done) | (simp; omega) | omega) | with_reducible exact Bw.below (Bw.alloc BWs2.out _) hb (by first | (simp; done) | (simp; omega) | omega) | with_reducible exact Bw.below (Bw.alloc (Bw.drewN BWs2.out _) _) hb (by first | (simp; done) | (simp; omega) | omega) | exact Bw.below (Bw.of5 (by first | (simp; done) | (simp; omega) | omega) (by first | (simp [go_sem, cs0, fs0, cs1, fs1, cs2, fs2, cs3, fs3, cs4, fs4, cr0, fr0, cr1, fr1, cr2, fr2, cr3, fr3, cr4, fr4]; done) | (simp (maxDischargeDepth := 8) [go_sem, cs0, fs0, cs1, fs1, cs2, fs2, cs3, fs3, cs4, fs4, cr0, fr0, cr1, fr1, cr2, fr2, cr3, fr3, cr4, fr4]; done) | (simp [go_sem, cs0, fs0, cs1, fs1, cs2, fs2, cs3, fs3, cs4, fs4, cr0, fr0, cr1, fr1, cr2, fr2, cr3, fr3, cr4, fr4]; rfl)) (by first | (simp [go_sem, cs0, fs0, cs1, fs1, cs2, fs2, cs3, fs3, cs4, fs4, cr0, fr0, cr1, fr1, cr2, fr2, cr3, fr3, cr4, fr4]; done) | (simp (maxDischargeDepth := 8) [go_sem, cs0, fs0, cs1, fs1, cs2, fs2, cs3, fs3, cs4, fs4, cr0, fr0, cr1, fr1, cr2, fr2, cr3, fr3, cr4, fr4]; done) | (simp [go_sem, cs0, fs0, cs1, fs1, cs2, fs2, cs3, fs3, cs4, fs4, cr0, fr0, cr1, fr1, cr2, fr2, cr3, fr3, cr4, fr4]; rfl)) (by first | (simp [go_sem, cs0, fs0, cs1, fs1, cs2, fs2, cs3, fs3, cs4, fs4, cr0, fr0, cr1, fr1, cr2, fr2, cr3, fr3, cr4, fr4]; done) | (simp (maxDischargeDepth := 8) [go_sem, cs0, fs0, cs1, fs1, cs2, fs2, cs3, fs3, cs4, fs4, cr0, fr0, cr1, fr1, cr2, fr2, cr3, fr3, cr4, fr4]; done) | (simp [go_sem, cs0, fs0, cs1, fs1, cs2, fs2, cs3, fs3, cs4, fs4, cr0, fr0, cr1, fr1, cr2, fr2, cr3, fr3, cr4, fr4]; rfl)) (by first | (simp [go_sem, cs0, fs0, cs1, fs1, cs2, fs2, cs3, fs3, cs4, fs4, cr0, fr0, cr1, fr1, cr2, fr2, cr3, fr3, cr4, fr4]; done) | (simp (maxDischargeDepth := 8) [go_sem, cs0, fs0, cs1, fs1, cs2, fs2, cs3, fs3, cs4, fs4, cr0, fr0, cr1, fr1, cr2, fr2, cr3, fr3, cr4, fr4]; done) | (simp [go_sem, cs0, fs0, cs1, fs1, cs2, fs2, cs3, fs3, cs4, fs4, cr0, fr0, cr1, fr1, cr2, fr2, cr3, fr3, cr4, fr4]; rfl)) (by first | (simp [go_sem, cs0, fs0, cs1, fs1, cs2, fs2, cs3, fs3, cs4, fs4, cr0, fr0, cr1, fr1, cr2, fr2, cr3, fr3, cr4, fr4]; done) | (simp (maxDischargeDepth := 8) [go_sem, cs0, fs0, cs1, fs1, cs2, fs2, cs3, fs3, cs4, fs4, cr0, fr0, cr1, fr1, cr2, fr2, cr3, fr3, cr4, fr4]; done) | (simp [go_sem, cs0, fs0, cs1, fs1, cs2, fs2, cs3, fs3, cs4, fs4, cr0, fr0, cr1, fr1, cr2, fr2, cr3, fr3, cr4, fr4]; rfl)) (by first | (simp [go_sem, cs0, fs0, cs1, fs1, cs2, fs2, cs3, fs3, cs4, fs4, cr0, fr0, cr1, fr1, cr2, fr2, cr3, fr3, cr4, fr4]; done) | (simp (maxDischargeDepth := 8) [go_sem, cs0, fs0, cs1, fs1, cs2, fs2, cs3, fs3, cs4, fs4, cr0, fr0, cr1, fr1, cr2, fr2, cr3, fr3, cr4, fr4]; done) | (simp [go_sem, cs0, fs0, cs1, fs1, cs2, fs2, cs3, fs3, cs4, fs4, cr0, fr0, cr1, fr1, cr2, fr2, cr3, fr3, cr4, fr4]; rfl)) (by first | (simp [go_sem, cs0, fs0, cs1, fs1, cs2, fs2, cs3, fs3, cs4, fs4, cr0, fr0, cr1, fr1, cr2, fr2, cr3, fr3, cr4, fr4]; done) | (simp (maxDischargeDepth := 8) [go_sem, cs0, fs0, cs1, fs1, cs2, fs2, cs3, fs3, cs4, fs4, cr0, fr0, cr1, fr1, cr2, fr2, cr3, fr3, cr4, fr4]; done) | (simp [go_sem, cs0, fs0, cs1, fs1, cs2, fs2, cs3, fs3, cs4, fs4, cr0, fr0, cr1, fr1, cr2, fr2, cr3, fr3, cr4, fr4]; rfl)) (by first | (simp [go_sem, cs0, fs0, cs1, fs1, cs2, fs2, cs3, fs3, cs4, fs4, cr0, fr0, cr1, fr1, cr2, fr2, cr3, fr3, cr4, fr4]; done) | (simp (maxDischargeDepth := 8) [go_sem, cs0, fs0, cs1, fs1, cs2, fs2, cs3, fs3, cs4, fs4, cr0, fr0, cr1, fr1, cr2, fr2, cr3, fr3, cr4, fr4]; done) | (simp [go_sem, cs0, fs0, cs1, fs1, cs2, fs2, cs3, fs3, cs4, fs4, cr0, fr0, cr1, fr1, cr2, fr2, cr3, fr3, cr4, fr4]; rfl)) (by first | (simp [go_sem, cs0, fs0, cs1, fs1, cs2, fs2, cs3, fs3, cs4, fs4, cr0, fr0, cr1, fr1, cr2, fr2, cr3, fr3, cr4, fr4]; done) | (simp (maxDischargeDepth := 8) [go_sem, cs0, fs0, cs1, fs1, cs2, fs2, cs3, fs3, cs4, fs4, cr0, fr0, cr1, fr1, cr2, fr2, cr3, fr3, cr4, fr4]; done) | (simp [go_sem, cs0, fs0, cs1, fs1, cs2, fs2, cs3, fs3, cs4, fs4, cr0, fr0, cr1, fr1, cr2, fr2, cr3, fr3, cr4, fr4]; rfl)) (by first | (simp [go_sem, cs0, fs0, cs1, fs1, cs2, fs2, cs3, fs3, cs4, fs4, cr0, fr0, cr1, fr1, cr2, fr2, cr3, fr3, cr4, fr4]; done) | (simp (maxDischargeDepth := 8) [go_sem, cs0, fs0, cs1, fs1, cs2, fs2, cs3, fs3, cs4, fs4, cr0, fr0, cr1, fr1, cr2, fr2, cr3, fr3, cr4, fr4]; done) | (simp [go_sem, cs0, fs0, cs1, fs1, cs2, fs2, cs3, fs3, cs4, fs4, cr0, fr0, cr1, fr1, cr2, fr2, cr3, fr3, cr4, fr4]; rfl))) hb (by first | (simp; done) | (simp; omega) | omega))
  have bwr : Bw w3 (w.heap.size + 1) [.float .f32 0, .float .f32 0, .float .f32 0, .float .f32 0, .float .f32 0] := (by first | with_reducible exact Bw.below BWr2.out hb (by first | (simp; done) | (simp; omega) | omega) | with_reducible exact Bw.below (Bw.drewN BWr2.out _) hb (by first | (simp; done) | (simp; omega) | omega) | with_reducible exact Bw.below (Bw.alloc BWr2.out _) hb (by first | (simp; done) | (simp; omega) | omega) | with_reducible exact Bw.below (Bw.alloc (Bw.drewN BWr2.out _) _) hb (by first | (simp; done) | (simp; omega) | omega) | exact Bw.below (Bw.of5 (by first | (simp; done) | (simp; omega) | omega) (by first | (simp [go_sem, cs0, fs0, cs1, fs1, cs2, fs2, cs3, fs3, cs4, fs4, cr0, fr0, cr1, fr1, cr2, fr2, cr3, fr3, cr4, fr4]; done) | (simp (maxDischargeDepth := 8) [go_sem, cs0, fs0, cs1, fs1, cs2, fs2, cs3, fs3, cs4, fs4, cr0, fr0, cr1, fr1, cr2, fr2, cr3, fr3, cr4, fr4]; done) | (simp [go_sem, cs0, fs0, cs1, fs1, cs2, fs2, cs3, fs3, cs4, fs4, cr0, fr0, cr1, fr1, cr2, fr2, cr3, fr3, cr4, fr4]; rfl)) (by first | (simp [go_sem, cs0, fs0, cs1, fs1, cs2, fs2, cs3, fs3, cs4, fs4, cr0, fr0, cr1, fr1, cr2, fr2, cr3, fr3, cr4, fr4]; done) | (simp (maxDischargeDepth := 8) [go_sem, cs0, fs0, cs1, fs1, cs2, fs2, cs3, fs3, cs4, fs4, cr0, fr0, cr1, fr1, cr2, fr2, cr3, fr3, cr4, fr4]; done) | (simp [go_sem, cs0, fs0, cs1, fs1, cs2, fs2, cs3, fs3, cs4, fs4, cr0, fr0, cr1, fr1, cr2, fr2, cr3, fr3, cr4, fr4]; rfl)) (by first | (simp [go_sem, cs0, fs0, cs1, fs1, cs2, fs2, cs3, fs3, cs4, fs4, cr0, fr0, cr1, fr1, cr2, fr2, cr3, fr3, cr4, fr4]; done) | (simp (maxDischargeDepth := 8) [go_sem, cs0, fs0, cs1, fs1, cs2, fs2, cs3, fs3, cs4, fs4, cr0, fr0, cr1, fr1, cr2, fr2, cr3, fr3, cr4, fr4]; done) | (simp [go_sem, cs0, fs0, cs1, fs1, cs2, fs2, cs3, fs3, cs4, fs4, cr0, fr0, cr1, fr1, cr2, fr2, cr3, fr3, cr4, fr4]; rfl)) (by first | (simp [go_sem, cs0, fs0, cs1, fs1, cs2, fs2, cs3, fs3, cs4, fs4, cr0, fr0, cr1, fr1, cr2, fr2, cr3, fr3, cr4, fr4]; done) | (simp (maxDischargeDepth := 8) [go_sem, cs0, fs0, cs1, fs1, cs2, fs2, cs3, fs3, cs4, fs4, cr0, fr0, cr1, fr1, cr2, fr2, cr3, fr3, cr4, fr4]; done) | (simp [go_sem, cs0, fs0, cs1, fs1, cs2, fs2, cs3, fs3, cs4, fs4, cr0, fr0, cr1, fr1, cr2, fr2, cr3, fr3, cr4, fr4]; rfl)) (by first | (simp [go_sem, cs0, fs0, cs1, fs1, cs2, fs2, cs3, fs3, cs4, fs4, cr0, fr0, cr1, fr1, cr2, fr2, cr3, fr3, cr4, fr4]; done) | (simp (maxDischargeDepth := 8) [go_sem, cs0, fs0, cs1, fs1, cs2, fs2, cs3, fs3, cs4, fs4, cr0, fr0, cr1, fr1, cr2, fr2, cr3, fr3, cr4, fr4]; done) | (simp [go_sem, cs0, fs0, cs1, fs1, cs2, fs2, cs3, fs3, cs4, fs4, cr0, fr0, cr1, fr1, cr2, fr2, cr3, fr3, cr4, fr4]; rfl)) (by first | (simp [go_sem, cs0, fs0, cs1, fs1, cs2, fs2, cs3, fs3, cs4, fs4, cr0, fr0, cr1, fr1, cr2, fr2, cr3, fr3, cr4, fr4]; done) | (simp (maxDischargeDepth := 8) [go_sem, cs0, fs0, cs1, fs1, cs2, fs2, cs3, fs3, cs4, fs4, cr0, fr0, cr1, fr1, cr2, fr2, cr3, fr3, cr4, fr4]; done) | (simp [go_sem, cs0, fs0, cs1, fs1, cs2, fs2, cs3, fs3, cs4, fs4, cr0, fr0, cr1, fr1, cr2, fr2, cr3, fr3, cr4, fr4]; rfl)) (by first | (simp [go_sem, cs0, fs0, cs1, fs1, cs2, fs2, cs3, fs3, cs4, fs4, cr0, fr0, cr1, fr1, cr2, fr2, cr3, fr3, cr4, fr4]; done) | (simp (maxDischargeDepth := 8) [go_sem, cs0, fs0, cs1, fs1, cs2, fs2, cs3, fs3, cs4, fs4, cr0, fr0, cr1, fr1, cr2, fr2, cr3, fr3, cr4, fr4]; done) | (simp [go_sem, cs0, fs0, cs1, fs1, cs2, fs2, cs3, fs3, cs4, fs4, cr0, fr0, cr1, fr1, cr2, fr2, cr3, fr3, cr4, fr4]; rfl)) (by first | (simp [go_sem, cs0, fs0, cs1, fs1, cs2, fs2, cs3, fs3, cs4, fs4, cr0, fr0, cr1, fr1, cr2, fr2, cr3, fr3, cr4, fr4]; done) | (simp (maxDischargeDepth := 8) [go_sem, cs0, fs0, cs1, fs1, cs2, fs2, cs3, fs3, cs4, fs4, cr0, fr0, cr1, fr1, cr2, fr2, cr3, fr3, cr4, fr4]; done) | (simp [go_sem, cs0, fs0, cs1, fs1, cs2, fs2, cs3, fs3, cs4, fs4, cr0, fr0, cr1, fr1, cr2, fr2, cr3, fr3, cr4, fr4]; rfl)) (by first | (simp [go_sem, cs0, fs0, cs1, fs1, cs2, fs2, cs3, fs3, cs4, fs4, cr0, fr0, cr1, fr1, cr2, fr2, cr3, fr3, cr4, fr4]; done) | (simp (maxDischargeDepth := 8) [go_sem, cs0, fs0, cs1, fs1, cs2, fs2, cs3, fs3, cs4, fs4, cr0, fr0, cr1, fr1, cr2, fr2, cr3, fr3, cr4, fr4]; done) | (simp [go_sem, cs0, fs0, cs1, fs1, cs2, fs2, cs3, fs3, cs4, fs4, cr0, fr0, cr1, fr1, cr2, fr2, cr3, fr3, cr4, fr4]; rfl)) (by first | (simp [go_sem, cs0, fs0, cs1, fs1, cs2, fs2, cs3, fs3, cs4, fs4, cr0, fr0, cr1, fr1, cr2, fr2, cr3, fr3, cr4, fr4]; done) | (simp (maxDischargeDepth := 8) [go_sem, cs0, fs0, cs1, fs1, cs2, fs2, cs3, fs3, cs4, fs4, cr0, fr0, cr1, fr1, cr2, fr2, cr3, fr3, cr4, fr4]; done) | (simp [go_sem, cs0, fs0, cs1, fs1, cs2, fs2, cs3, fs3, cs4, fs4, cr0, fr0, cr1, fr1, cr2, fr2, cr3, fr3, cr4, fr4]; rfl))) hb (by first | (simp; done) | (simp; omega) | omega))
  clear cs0 fs0 cs1 fs1 cs2 fs2 cs3 fs3 cs4 fs4 cr0 fr0 cr1 fr1 cr2 fr2 cr3 fr3 cr4 fr4 BWs2 BWr2
  have cs0 := bws.c 0 rfl
  have fs0 := bws.f 0 (by simp)
  have cs1 := bws.c 1 rfl
  have fs1 := bws.f 1 (by simp)
  have cs2 := bws.c 2 rfl
  have fs2 := bws.f 2 (by simp)
  have cs3 := bws.c 3 rfl
  have fs3 := bws.f 3 (by simp)
  have cs4 := bws.c 4 rfl
  have fs4 := bws.f 4 (by simp)
  have BWs3 := Lib.hid bws
  clear bws
  have cr0 := bwr.c 0 rfl
  have fr0 := bwr.f 0 (by simp)
  have cr1 := bwr.c 1 rfl
  have fr1 := bwr.f 1 (by simp)
  have cr2 := bwr.c 2 rfl
  have fr2 := bwr.f 2 (by simp)
  have cr3 := bwr.c 3 rfl
  have fr3 := bwr.f 3 (by simp)
  have cr4 := bwr.c 4 rfl
  have fr4 := bwr.f 4 (by simp)
  have BWr3 := Lib.hid bwr
  clear bwr
  have Hb3 := Lib.hid hb3
  clear hb hb3
  cases bb
  · have hv : Q = failRunS := by rw [← HQ.out]; unfold runSoilO; rw [Hp.out]; simp only [Bool.false_and, Bool.and_false]; rfl
    have HV := Lib.hid hv
    clear hv
    go_wp2_with fail
    rw [HV.out]
    exact bodyPost_ret (v := .tuple #[.agg #[.float .f32 0, .float .f32 0, .float .f32 0, .float .f32 0, .float .f32 0], .slice none 0 0, .slice none 0 0, .bool false]) (by first | (simp [results, Try.results52, go_sem, cs0, fs0, cs1, fs1, cs2, fs2, cs3, fs3, cs4, fs4, cr0, fr0, cr1, fr1, cr2, fr2, cr3, fr3, cr4, fr4]; done) | (simp (maxDischargeDepth := 12) [results, Try.results52, go_sem, cs0, fs0, cs1, fs1, cs2, fs2, cs3, fs3, cs4, fs4, cr0, fr0, cr1, fr1, cr2, fr2, cr3, fr3, cr4, fr4]; done) | (simp (maxDischargeDepth := 12) [results, Try.results52, go_sem, cs0, fs0, cs1, fs1, cs2, fs2, cs3, fs3, cs4, fs4, cr0, fr0, cr1, fr1, cr2, fr2, cr3, fr3, cr4, fr4]; rfl)) rfl (RunSB.no (by repeat (first | with_reducible exact Hb3.out | with_reducible refine beld ?_ _ | (with_reducible refine Below.alloc ?_ ?_ _; rotate_left; exact (by first | (simp; done) | (simp; omega) | omega)) | (with_reducible refine Below.setCell ?_ ?_ _; rotate_left; exact (by first | (simp; done) | (simp; omega) | omega)))))
  have hq := HQ.out
  unfold runSoilO at hq
  rw [Hs.out, Hx.out, Hp.out] at hq
  have HQ2 : Hid ((if soOk A0 A1 A2 A3 A4 T X X.length then (⟨(soIt A0 A1 A2 A3 A4 T X X.length).s0, (soIt A0 A1 A2 A3 A4 T X X.length).s1, (soIt A0 A1 A2 A3 A4 T X X.length).s2, (soIt A0 A1 A2 A3 A4 T X X.length).s3, (soIt A0 A1 A2 A3 A4 T X X.length).s4, (soOffs A0 A1 A2 A3 A4 T X X.length).map (fun Y => Y.getD 0), (soGoes A0 A1 A2 A3 A4 T X X.length).map (fun Y => Y.getD 0), true⟩ : RunS) else failRunS) = Q) := Lib.hid hq
  clear hq
  have hE0 : RowO (w3.alloc (.cells #[] 29)) (w.heap.size + 2) (.slice (some ⟨w3.heap.size, 0, none⟩) 0 0) [] := World.ownsRow_lit (base := w.heap.size + 2) (e := 29) (size := 1) w3 #[] 0 hs3 (by simp [maxLen]) rfl
  have hE1 : RowO ((w3.alloc (.cells #[] 29)).alloc (.cells #[] 29)) (w.heap.size + 2) (.slice (some ⟨(w3.alloc (.cells #[] 29)).heap.size, 0, none⟩) 0 0) [] := World.ownsRow_lit (base := w.heap.size + 2) (e := 29) (size := 1) (w3.alloc (.cells #[] 29)) #[] 0 (by simp; omega) (by simp [maxLen]) rfl
  have hes : (w3.alloc (.cells #[] 29)).heap.size = w3.heap.size + 1 := by simp
  rw [hes] at hE1
  have HE0 := Lib.hid (hE0.alloc (.cells #[] 29))
  have HE1 := Lib.hid hE1
  have HAp0 : Hid (Apart (.slice (some ⟨w3.heap.size, 0, none⟩) 0 0) (.slice (some ⟨w3.heap.size + 1, 0, none⟩) 0 0)) := Lib.hid (fun k h1 h2 => by simp [Value.ownBlock] at h1 h2; omega)
  have HB5 := Lib.hid ((Hb3.out.alloc (by omega) (.cells #[] 29)).alloc (by simp; omega) (.cells #[] 29))
  have HS5 := Lib.hid ((BWs3.out.alloc (.cells #[] 29)).alloc (.cells #[] 29))
  have HR5 := Lib.hid ((BWr3.out.alloc (.cells #[] 29)).alloc (.cells #[] 29))
  clear hE0 hE1 hes cs0 fs0 cr0 fr0 cs1 fs1 cr1 fr1 cs2 fs2 cr2 fr2 cs3 fs3 cr3 fr3 cs4 fs4 cr4 fr4 BWs3 BWr3 Hb3
  go_wp2_with fail
  go_loopw [10, 11, 34] (fun vl ul i wr => ∃ vv uu : Value, vv = vl ∧ uu = ul ∧ (∃ (k : Nat) (ls ms : List Nat) (c0 c1 c2 c3 c4 : Nat), k ≤ X.length ∧ i = .int .i64 k ∧ Hid (Is32 (soIt A0 A1 A2 A3 A4 T X k).s0 c0 ∧ Is32 (soIt A0 A1 A2 A3 A4 T X k).s1 c1 ∧ Is32 (soIt A0 A1 A2 A3 A4 T X k).s2 c2 ∧ Is32 (soIt A0 A1 A2 A3 A4 T X k).s3 c3 ∧ Is32 (soIt A0 A1 A2 A3 A4 T X k).s4 c4) ∧ Hid (soOk A0 A1 A2 A3 A4 T X k = true ∧ soilO (soIt A0 A1 A2 A3 A4 T X k).s0 (soIt A0 A1 A2 A3 A4 T X k).s1 (soIt A0 A1 A2 A3 A4 T X k).s2 (soIt A0 A1 A2 A3 A4 T X k).s3 (soIt A0 A1 A2 A3 A4 T X k).s4 = true ∧ (soOffs A0 A1 A2 A3 A4 T X k).all fin32o = true ∧ (soGoes A0 A1 A2 A3 A4 T X k).all fin32o = true) ∧ Hid (ls.length = k) ∧ Hid (ms.length = k) ∧ Hid (Is32s (soOffs A0 A1 A2 A3 A4 T X k) ls) ∧ Hid (Is32s (soGoes A0 A1 A2 A3 A4 T X k) ms) ∧ Hid (RowO wr (w.heap.size + 2) vv ls) ∧ Hid (RowO wr (w.heap.size + 2) uu ms) ∧ Hid (Apart vv uu) ∧ Hid (Bw wr w.heap.size [.float .f32 c0, .float .f32 c1, .float .f32 c2, .float .f32 c3, .float .f32 c4]) ∧ Hid (Bw wr (w.heap.size + 1) [.float .f32 0, .float .f32 0, .float .f32 0, .float .f32 0, .float .f32 0]) ∧ Hid (Below w.heap.size w wr))) (fun _ _ i _ => X.length - (intOf i).toNat)
  case atStart => exact ⟨_, _, rfl, rfl, 0, [], [], a0, a1, a2, a3, a4, Nat.zero_le _, rfl, Lib.hid ⟨ha0, ha1, ha2, ha3, ha4⟩, Lib.hid ⟨rfl, Hs.out, rfl, rfl⟩, Lib.hid rfl, Lib.hid rfl, Lib.hid Is32s.nil, Lib.hid Is32s.nil, Lib.hid (by exact HE0.out), Lib.hid (by exact HE1.out), Lib.hid (by exact HAp0.out), HS5, HR5, HB5⟩
  case round =>
    obtain ⟨vv, uu, rfl, rfl, k, ls, ms, c0, c1, c2, c3, c4, hk, rfl, HC, HOk, HLk, HMk, HIl, HIm, HRow, HRowb, HAp, HS, HR, HBk⟩ := hrel
    by_cases hlt : k < X.length
    · obtain ⟨bx, ox, rfl, hbx, hcx⟩ := row_at H1.out (by omega)
      obtain ⟨x, hx⟩ : ∃ x, X.getD k 0 = x := ⟨_, rfl⟩
      have hcx' : w.cell? ⟨bx, ox + k, none⟩ = some (.float .f32 x) := by rw [hcx k hlt, hx]
      have hxi : Is32 (some x) x := Is32.c (by rw [← hx]; exact getD_lt HZ1.out _)
      have Hcx := Lib.hid hcx'
      have Hxk := Lib.hid hx
      have Hxi := Lib.hid hxi
      clear hcx hx hcx' hxi
      obtain ⟨R, hR⟩ : ∃ R, soIt A0 A1 A2 A3 A4 T X (k + 1) = R := ⟨_, rfl⟩
      have hok9 : (stepO (soIt A0 A1 A2 A3 A4 T X k).s0 (soIt A0 A1 A2 A3 A4 T X k).s1 (soIt A0 A1 A2 A3 A4 T X k).s2 (soIt A0 A1 A2 A3 A4 T X k).s3 (soIt A0 A1 A2 A3 A4 T X k).s4 (some x) T).ok = true → _ := so_step HC.out.1 HC.out.2.1 HC.out.2.2.1 HC.out.2.2.2.1 HC.out.2.2.2.2 Hxi.out ht
      have hamt : amtO (some x) = true := by
        have h7 : X.all amtB = true := by have h9 := Hx.out; unfold rainB at h9; rw [Bool.and_eq_true] at h9; exact h9.2
        have h9 := List.all_eq_true.1 h7 X[k] (List.getElem_mem hlt); rw [← Hxk.out, List.getD_eq_getElem?_getD, List.getElem?_eq_getElem hlt]; exact h9
      have hcall : ∀ W : World, Calls Try.prog 138 #[.agg #[.float .f32 c0, .float .f32 c1, .float .f32 c2, .float .f32 c3, .float .f32 c4], .float .f32 x, .float .f32 t] W (StepB R W) := by
        intro W
        have h9 := l03Step_any W HC.out.1 HC.out.2.1 HC.out.2.2.1 HC.out.2.2.2.1 HC.out.2.2.2.2 Hxi.out ht HOk.out.2.1 hamt Hp.out
        have e8 : tryO (soIt A0 A1 A2 A3 A4 T X k).s0 (soIt A0 A1 A2 A3 A4 T X k).s1 (soIt A0 A1 A2 A3 A4 T X k).s2 (soIt A0 A1 A2 A3 A4 T X k).s3 (soIt A0 A1 A2 A3 A4 T X k).s4 (some x) T = stepO (soIt A0 A1 A2 A3 A4 T X k).s0 (soIt A0 A1 A2 A3 A4 T X k).s1 (soIt A0 A1 A2 A3 A4 T X k).s2 (soIt A0 A1 A2 A3 A4 T X k).s3 (soIt A0 A1 A2 A3 A4 T X k).s4 (some x) T := by unfold tryO stepO; rw [HOk.out.2.1, hamt, Hp.out, Bool.true_and, Bool.and_true, Bool.and_true]
        rw [← hR, soIt, Hxk.out, ← e8]
        exact h9
      have hst : R.ok = true → soilO R.s0 R.s1 R.s2 R.s3 R.s4 = true ∧ fin32o R.off = true ∧ fin32o R.goes = true := by rw [← hR, soIt, Hxk.out]; exact hok9
      have HCall := Lib.hid hcall
      have HRR := Lib.hid hR
      have HSt := Lib.hid hst
      clear hcall hR hst hok9 hamt
      go_wp2_with fail
      refine wp_region_inv (id := 8) (soInvS _ w R vv uu k bx ox X.length cap1 c0 c1 c2 c3 c4 x t ls ms) (by kernel_rfl) (by kernel_rfl) (soInvS.start _ (beld HBk.out 1) HS.out HR.out HRow.out HRowb.out) ?hend ?hsteps
      case hend =>
        intro d a w9 hinv hall
        obtain ⟨u13, u14, u15, u16, u37, u38, u39, u40, u41, u42, u43, u44, u45, u46, u47, u48, y0, y1, y2, y3, y4, yo, yg, p, rfl, f0, f1, f2, f3, f4, f5, f6, f7, f8, f9, f10, f11, f12, f14, f15, f16, hbel, hs, hres, hrw, hrx, gp13⟩ := hinv
        have e0 := f0 (hall 0 (by decide))
        subst e0
        have e1 := f1 (hall 1 (by decide))
        subst e1
        have e2 := f2 (hall 2 (by decide))
        subst e2
        have e3 := f3 (hall 3 (by decide))
        subst e3
        have e4 := f4 (hall 4 (by decide))
        subst e4
        have e5 := f5 (hall 5 (by decide))
        subst e5
        obtain ⟨e6, hy⟩ := f6 (hall 6 (by decide))
        subst e6
        have e7 := f7 (hall 7 (by decide))
        subst e7
        have e8 := f8 (hall 8 (by decide))
        subst e8
        have e9 := f9 (hall 9 (by decide))
        subst e9
        have e10 := f10 (hall 10 (by decide))
        subst e10
        have e11 := f11 (hall 11 (by decide))
        subst e11
        obtain ⟨e12, hp0, hp1, hp2, _⟩ := f12 (hall 12 (by decide))
        subst e12
        have e14 := f14 (hall 14 (by decide))
        subst e14
        have e15 := f15 (hall 15 (by decide))
        subst e15
        have e16 := f16 (hall 16 (by decide))
        subst e16
        have Hy := Lib.hid hy
        have hbp := gp13 (hall 13 (by decide))
        have HP9 := Lib.hid hbp
        have HS9 := Lib.hid hs
        have HR9 := Lib.hid hres
        have HRow9 := Lib.hid hrw
        have HRow9b := Lib.hid hrx
        have HB9 := Lib.hid hbel
        have hc0 := hs.c 0 rfl
        have hc1 := hs.c 1 rfl
        have hc2 := hs.c 2 rfl
        have hc3 := hs.c 3 rfl
        have hc4 := hs.c 4 rfl
        have hf0 := hs.f 0 (by simp)
        have hf1 := hs.f 1 (by simp)
        have hf2 := hs.f 2 (by simp)
        have hf3 := hs.f 3 (by simp)
        have hf4 := hs.f 4 (by simp)
        have hpc0 := hbp.c 0 rfl
        have hpc1 := hbp.c 1 rfl
        have hpc2 := hbp.c 2 rfl
        have hpc3 := hbp.c 3 rfl
        have hpc4 := hbp.c 4 rfl
        have hr0 := hres.c 0 rfl
        have hr1 := hres.c 1 rfl
        have hr2 := hres.c 2 rfl
        have hr3 := hres.c 3 rfl
        have hr4 := hres.c 4 rfl
        have hg0 := hres.f 0 (by simp)
        have hg1 := hres.f 1 (by simp)
        have hg2 := hres.f 2 (by simp)
        have hg3 := hres.f 3 (by simp)
        have hg4 := hres.f 4 (by simp)
        clear f0 f1 f2 f3 f4 f5 f6 f7 f8 f9 f10 f11 f12 f14 f15 f16 hbel hs hres hrw hrx gp13 hy hbp hp1 hp2
        obtain ⟨okb, hok⟩ : ∃ b, R.ok = b := ⟨_, rfl⟩
        rw [hok]
        have Hok := Lib.hid hok
        clear hok
        simp only [Act.put]
        cases okb
        · have hv : Q = failRunS := by rw [← HQ2.out, if_neg]; rw [soOk_no hlt (by rw [HRR.out]; exact Hok.out)]; decide
          have HV := Lib.hid hv
          clear hv
          go_wp2_with fail
          rw [HV.out]
          exact bodyPost_ret (v := .tuple #[.agg #[.float .f32 0, .float .f32 0, .float .f32 0, .float .f32 0, .float .f32 0], .slice none 0 0, .slice none 0 0, .bool false]) (by first | (simp [results, Try.results52, go_sem, hr0, hr1, hr2, hr3, hr4, hg0, hg1, hg2, hg3, hg4]; done) | (simp (maxDischargeDepth := 12) [results, Try.results52, go_sem, hr0, hr1, hr2, hr3, hr4, hg0, hg1, hg2, hg3, hg4]; done) | (simp (maxDischargeDepth := 12) [results, Try.results52, go_sem, hr0, hr1, hr2, hr3, hr4, hg0, hg1, hg2, hg3, hg4]; rfl)) rfl (RunSB.no (by repeat (first | with_reducible exact HB9.out | with_reducible refine beld ?_ _ | (with_reducible refine Below.alloc ?_ ?_ _; rotate_left; exact (by first | (simp; done) | (simp; omega) | omega)) | (with_reducible refine Below.setCell ?_ ?_ _; rotate_left; exact (by first | (simp; done) | (simp; omega) | omega)))))
        · have hsn : Bw (((((w9.setCell ⟨w.heap.size, 0, none⟩ (.float .f32 y0)).setCell ⟨w.heap.size, 1, none⟩ (.float .f32 y1)).setCell ⟨w.heap.size, 2, none⟩ (.float .f32 y2)).setCell ⟨w.heap.size, 3, none⟩ (.float .f32 y3)).setCell ⟨w.heap.size, 4, none⟩ (.float .f32 y4)) w.heap.size [.float .f32 y0, .float .f32 y1, .float .f32 y2, .float .f32 y3, .float .f32 y4] := Bw.of5 (by have := HS9.out.1.1; simp; omega) (by first | (simp [go_sem, hf0, hf1, hf2, hf3, hf4]; done) | (simp (maxDischargeDepth := 12) [go_sem, hc0, hc1, hc2, hc3, hc4, hf0, hf1, hf2, hf3, hf4]; done) | (simp (maxDischargeDepth := 12) [go_sem, hc0, hc1, hc2, hc3, hc4, hf0, hf1, hf2, hf3, hf4]; rfl)) (by first | (simp [go_sem, hf0, hf1, hf2, hf3, hf4]; done) | (simp (maxDischargeDepth := 12) [go_sem, hc0, hc1, hc2, hc3, hc4, hf0, hf1, hf2, hf3, hf4]; done) | (simp (maxDischargeDepth := 12) [go_sem, hc0, hc1, hc2, hc3, hc4, hf0, hf1, hf2, hf3, hf4]; rfl)) (by first | (simp [go_sem, hf0, hf1, hf2, hf3, hf4]; done) | (simp (maxDischargeDepth := 12) [go_sem, hc0, hc1, hc2, hc3, hc4, hf0, hf1, hf2, hf3, hf4]; done) | (simp (maxDischargeDepth := 12) [go_sem, hc0, hc1, hc2, hc3, hc4, hf0, hf1, hf2, hf3, hf4]; rfl)) (by first | (simp [go_sem, hf0, hf1, hf2, hf3, hf4]; done) | (simp (maxDischargeDepth := 12) [go_sem, hc0, hc1, hc2, hc3, hc4, hf0, hf1, hf2, hf3, hf4]; done) | (simp (maxDischargeDepth := 12) [go_sem, hc0, hc1, hc2, hc3, hc4, hf0, hf1, hf2, hf3, hf4]; rfl)) (by first | (simp [go_sem, hf0, hf1, hf2, hf3, hf4]; done) | (simp (maxDischargeDepth := 12) [go_sem, hc0, hc1, hc2, hc3, hc4, hf0, hf1, hf2, hf3, hf4]; done) | (simp (maxDischargeDepth := 12) [go_sem, hc0, hc1, hc2, hc3, hc4, hf0, hf1, hf2, hf3, hf4]; rfl)) (by first | (simp [go_sem, hf0, hf1, hf2, hf3, hf4]; done) | (simp (maxDischargeDepth := 12) [go_sem, hc0, hc1, hc2, hc3, hc4, hf0, hf1, hf2, hf3, hf4]; done) | (simp (maxDischargeDepth := 12) [go_sem, hc0, hc1, hc2, hc3, hc4, hf0, hf1, hf2, hf3, hf4]; rfl)) (by first | (simp [go_sem, hf0, hf1, hf2, hf3, hf4]; done) | (simp (maxDischargeDepth := 12) [go_sem, hc0, hc1, hc2, hc3, hc4, hf0, hf1, hf2, hf3, hf4]; done) | (simp (maxDischargeDepth := 12) [go_sem, hc0, hc1, hc2, hc3, hc4, hf0, hf1, hf2, hf3, hf4]; rfl)) (by first | (simp [go_sem, hf0, hf1, hf2, hf3, hf4]; done) | (simp (maxDischargeDepth := 12) [go_sem, hc0, hc1, hc2, hc3, hc4, hf0, hf1, hf2, hf3, hf4]; done) | (simp (maxDischargeDepth := 12) [go_sem, hc0, hc1, hc2, hc3, hc4, hf0, hf1, hf2, hf3, hf4]; rfl)) (by first | (simp [go_sem, hf0, hf1, hf2, hf3, hf4]; done) | (simp (maxDischargeDepth := 12) [go_sem, hc0, hc1, hc2, hc3, hc4, hf0, hf1, hf2, hf3, hf4]; done) | (simp (maxDischargeDepth := 12) [go_sem, hc0, hc1, hc2, hc3, hc4, hf0, hf1, hf2, hf3, hf4]; rfl)) (by first | (simp [go_sem, hf0, hf1, hf2, hf3, hf4]; done) | (simp (maxDischargeDepth := 12) [go_sem, hc0, hc1, hc2, hc3, hc4, hf0, hf1, hf2, hf3, hf4]; done) | (simp (maxDischargeDepth := 12) [go_sem, hc0, hc1, hc2, hc3, hc4, hf0, hf1, hf2, hf3, hf4]; rfl))
          have HSn := Lib.hid hsn
          have HRn := Lib.hid (HR9.out.far5 (b := w.heap.size) (by omega) 0 1 2 3 4 (.float .f32 y0) (.float .f32 y1) (.float .f32 y2) (.float .f32 y3) (.float .f32 y4))
          have HRwn := Lib.hid (HRow9.out.faar5 (b := w.heap.size) (fun h9 => by have := (HRow9.out.lo _ h9).1; omega) 0 1 2 3 4 (.float .f32 y0) (.float .f32 y1) (.float .f32 y2) (.float .f32 y3) (.float .f32 y4))
          have HRxn := Lib.hid (HRow9b.out.faar5 (b := w.heap.size) (fun h9 => by have := (HRow9b.out.lo _ h9).1; omega) 0 1 2 3 4 (.float .f32 y0) (.float .f32 y1) (.float .f32 y2) (.float .f32 y3) (.float .f32 y4))
          have hle := Nat.le_refl w.heap.size
          have HBn := Lib.hid (((((HB9.out.setCell (p := ⟨w.heap.size, 0, none⟩) hle (.float .f32 y0)).setCell (p := ⟨w.heap.size, 1, none⟩) hle (.float .f32 y1)).setCell (p := ⟨w.heap.size, 2, none⟩) hle (.float .f32 y2)).setCell (p := ⟨w.heap.size, 3, none⟩) hle (.float .f32 y3)).setCell (p := ⟨w.heap.size, 4, none⟩) hle (.float .f32 y4))
          obtain ⟨wn, hwn⟩ : ∃ wn, (((((w9.setCell ⟨w.heap.size, 0, none⟩ (.float .f32 y0)).setCell ⟨w.heap.size, 1, none⟩ (.float .f32 y1)).setCell ⟨w.heap.size, 2, none⟩ (.float .f32 y2)).setCell ⟨w.heap.size, 3, none⟩ (.float .f32 y3)).setCell ⟨w.heap.size, 4, none⟩ (.float .f32 y4)) = wn := ⟨_, rfl⟩
          rw [hwn] at HSn HRn HRwn HRxn HBn
          have hbig : w.heap.size + 2 ≤ wn.heap.size := by have := HRn.out.1.1; omega
          have hcell9 := (Bx.new wn [.float .f32 yo] 29).c 0 rfl
          have HCell9 := Lib.hid hcell9
          have hl9 : ls.length ≤ 1048576 := by rw [HLk.out]; omega
          have Hl9 := Lib.hid hl9
          have hm9 : ms.length ≤ 1048576 := by rw [HMk.out]; omega
          have Hm9 := Lib.hid hm9
          clear hsn hcell9 hl9 hm9 hle
          go_wp2_with (at_builtin; refine push_any rfl rfl _ _ rfl rfl (HRwn.out.alloc _) wn.heap.size _ yo rfl HCell9.out Hl9.out (by simp; omega) ?_)
          intro g9 cap9 w8 hrow9 hp9
          have HBe := Lib.hid (Below.pushed (HBn.out.alloc (by omega) _) hp9 (HRwn.out.alloc _) (by omega) (by simp; omega))
          have hb8 := Below.pushed ((Below.refl (w.heap.size + 2) wn).alloc (by omega) _) hp9 (HRwn.out.alloc _) (Nat.le_refl _) (by simp; omega)
          have HSe := Lib.hid (HSn.out.below hb8 (by omega))
          have HRe := Lib.hid (HRn.out.below hb8 (by omega))
          have Hrow9 := Lib.hid hrow9
          have HRx8 := Lib.hid ((HRxn.out.alloc _).other hp9 HAp.out)
          have HAp8 := Lib.hid (HAp.out.next (n := ls.length + 1) (cap := cap9) hp9 (HRxn.out.alloc _))
          have hbig8 : w.heap.size + 2 ≤ w8.heap.size := by have := HRe.out.1.1; omega
          have hcell9 := (Bx.new w8 [.float .f32 yg] 29).c 0 rfl
          have HCell8 := Lib.hid hcell9
          clear hrow9 hp9 hb8 hwn hcell9 hr0 hg0 hc0 hf0 hpc0 hr1 hg1 hc1 hf1 hpc1 hr2 hg2 hc2 hf2 hpc2 hr3 hg3 hc3 hf3 hpc3 hr4 hg4 hc4 hf4 hpc4
          go_wp2_with (at_builtin; refine push_any rfl rfl _ _ rfl rfl (HRx8.out.alloc _) w8.heap.size _ yg rfl HCell8.out Hm9.out (by simp; omega) ?_)
          intro g7 cap7 w7 hrow7 hp7
          have HBf := Lib.hid (Below.pushed (HBe.out.alloc (by omega) _) hp7 (HRx8.out.alloc _) (by omega) (by simp; omega))
          have hb8 := Below.pushed ((Below.refl (w.heap.size + 2) w8).alloc (by omega) _) hp7 (HRx8.out.alloc _) (Nat.le_refl _) (by simp; omega)
          have HSf := Lib.hid (HSe.out.below hb8 (by omega))
          have HRf := Lib.hid (HRe.out.below hb8 (by omega))
          have Hrow7 := Lib.hid hrow7
          have Hrow7a := Lib.hid ((Hrow9.out.alloc _).other hp7 HAp8.out.symm)
          have HAp7 := Lib.hid (Apart.symm (HAp8.out.symm.next (n := ms.length + 1) (cap := cap7) hp7 (Hrow9.out.alloc _)))
          clear hrow7 hp7 hb8
          go_wp2_with fail
          go_roundw
          case rel => exact ⟨_, _, rfl, rfl, k + 1, ls ++ [yo], ms ++ [yg], y0, y1, y2, y3, y4, by omega, by go_num, Lib.hid (by rw [HRR.out]; exact ⟨Hy.out.1, Hy.out.2.1, Hy.out.2.2.1, Hy.out.2.2.2.1, Hy.out.2.2.2.2.1⟩), Lib.hid ⟨soOk_succ HOk.out.1 (by rw [HRR.out]; exact Hok.out), by rw [HRR.out]; exact (HSt.out Hok.out).1, by rw [soOffs_succ, HRR.out, List.all_append, HOk.out.2.2.1]; simp [(HSt.out Hok.out).2.1], by rw [soGoes_succ, HRR.out, List.all_append, HOk.out.2.2.2]; simp [(HSt.out Hok.out).2.2]⟩, Lib.hid (by rw [List.length_append, List.length_singleton, HLk.out]), Lib.hid (by rw [List.length_append, List.length_singleton, HMk.out]), Lib.hid (by rw [soOffs_succ, HRR.out]; exact HIl.out.snoc Hy.out.2.2.2.2.2.1), Lib.hid (by rw [soGoes_succ, HRR.out]; exact HIm.out.snoc Hy.out.2.2.2.2.2.2), Hrow7a, Hrow7, HAp7, HSf, HRf, HBf⟩
          case measure => simp [intOf]; omega
      case hsteps =>
        refine .cons 1 rfl ?_ ?_
        · intro d a w9 hsz hcl hinv hd hdep
          obtain ⟨u13, u14, u15, u16, u37, u38, u39, u40, u41, u42, u43, u44, u45, u46, u47, u48, y0, y1, y2, y3, y4, yo, yg, p, rfl, f0, f1, f2, f3, f4, f5, f6, f7, f8, f9, f10, f11, f12, f14, f15, f16, hbel, hs, hres, hrw, hrx, gp13⟩ := hinv
          have hc0 := hs.c 0 rfl
          have hc1 := hs.c 1 rfl
          have hc2 := hs.c 2 rfl
          have hc3 := hs.c 3 rfl
          have hc4 := hs.c 4 rfl
          simp only [Act.put]
          go_wp2_with fail
          exact soInvS.mk u13 u14 u15 u16 u37 (.agg #[.float .f32 c0, .float .f32 c1, .float .f32 c2, .float .f32 c3, .float .f32 c4]) u39 u40 u41 u42 u43 u44 u45 u46 u47 u48 y0 y1 y2 y3 y4 yo yg p (by first | kernel_rfl | rfl) (Gd.new (by first | rfl | simp)) (Gd.keep (i := 0) f1 (by decide)) (Gd.keep (i := 0) f2 (by decide)) (Gd.keep (i := 0) f3 (by decide)) (Gd.keep (i := 0) f4 (by decide)) (Gd.keep (i := 0) f5 (by decide)) (Gd.keep (i := 0) f6 (by decide)) (Gd.keep (i := 0) f7 (by decide)) (Gd.keep (i := 0) f8 (by decide)) (Gd.keep (i := 0) f9 (by decide)) (Gd.keep (i := 0) f10 (by decide)) (Gd.keep (i := 0) f11 (by decide)) (Gd.keep (i := 0) f12 (by decide)) (Gd.keep (i := 0) f14 (by decide)) (Gd.keep (i := 0) f15 (by decide)) (Gd.keep (i := 0) f16 (by decide)) hbel hs hres hrw hrx (Gd.keep (i := 0) gp13 (by decide))
        refine .cons 2 rfl ?_ ?_
        · intro d a w9 hsz hcl hinv hd hdep
          obtain ⟨u13, u14, u15, u16, u37, u38, u39, u40, u41, u42, u43, u44, u45, u46, u47, u48, y0, y1, y2, y3, y4, yo, yg, p, rfl, f0, f1, f2, f3, f4, f5, f6, f7, f8, f9, f10, f11, f12, f14, f15, f16, hbel, hs, hres, hrw, hrx, gp13⟩ := hinv
          simp only [Act.put]
          go_wp2_with fail
          exact soInvS.mk u13 u14 u15 u16 u37 u38 (.slice (some ⟨bx, ox, none⟩) X.length cap1) u40 u41 u42 u43 u44 u45 u46 u47 u48 y0 y1 y2 y3 y4 yo yg p (by first | kernel_rfl | rfl) (Gd.keep (i := 1) f0 (by decide)) (Gd.new (by first | rfl | simp)) (Gd.keep (i := 1) f2 (by decide)) (Gd.keep (i := 1) f3 (by decide)) (Gd.keep (i := 1) f4 (by decide)) (Gd.keep (i := 1) f5 (by decide)) (Gd.keep (i := 1) f6 (by decide)) (Gd.keep (i := 1) f7 (by decide)) (Gd.keep (i := 1) f8 (by decide)) (Gd.keep (i := 1) f9 (by decide)) (Gd.keep (i := 1) f10 (by decide)) (Gd.keep (i := 1) f11 (by decide)) (Gd.keep (i := 1) f12 (by decide)) (Gd.keep (i := 1) f14 (by decide)) (Gd.keep (i := 1) f15 (by decide)) (Gd.keep (i := 1) f16 (by decide)) hbel hs hres hrw hrx (Gd.keep (i := 1) gp13 (by decide))
        refine .cons 3 rfl ?_ ?_
        · intro d a w9 hsz hcl hinv hd hdep
          obtain ⟨u13, u14, u15, u16, u37, u38, u39, u40, u41, u42, u43, u44, u45, u46, u47, u48, y0, y1, y2, y3, y4, yo, yg, p, rfl, f0, f1, f2, f3, f4, f5, f6, f7, f8, f9, f10, f11, f12, f14, f15, f16, hbel, hs, hres, hrw, hrx, gp13⟩ := hinv
          simp only [Act.put]
          go_wp2_with fail
          exact soInvS.mk u13 u14 u15 u16 u37 u38 u39 (.int .i64 k) u41 u42 u43 u44 u45 u46 u47 u48 y0 y1 y2 y3 y4 yo yg p (by first | kernel_rfl | rfl) (Gd.keep (i := 2) f0 (by decide)) (Gd.keep (i := 2) f1 (by decide)) (Gd.new (by first | rfl | simp)) (Gd.keep (i := 2) f3 (by decide)) (Gd.keep (i := 2) f4 (by decide)) (Gd.keep (i := 2) f5 (by decide)) (Gd.keep (i := 2) f6 (by decide)) (Gd.keep (i := 2) f7 (by decide)) (Gd.keep (i := 2) f8 (by decide)) (Gd.keep (i := 2) f9 (by decide)) (Gd.keep (i := 2) f10 (by decide)) (Gd.keep (i := 2) f11 (by decide)) (Gd.keep (i := 2) f12 (by decide)) (Gd.keep (i := 2) f14 (by decide)) (Gd.keep (i := 2) f15 (by decide)) (Gd.keep (i := 2) f16 (by decide)) hbel hs hres hrw hrx (Gd.keep (i := 2) gp13 (by decide))
        refine .cons 4 rfl ?_ ?_
        · intro d a w9 hsz hcl hinv hd hdep
          obtain ⟨u13, u14, u15, u16, u37, u38, u39, u40, u41, u42, u43, u44, u45, u46, u47, u48, y0, y1, y2, y3, y4, yo, yg, p, rfl, f0, f1, f2, f3, f4, f5, f6, f7, f8, f9, f10, f11, f12, f14, f15, f16, hbel, hs, hres, hrw, hrx, gp13⟩ := hinv
          have e1 := f1 (hdep.get 1 rfl)
          subst e1
          have e2 := f2 (hdep.get 2 rfl)
          subst e2
          have hkv : (k : Int) < (X.length : Int) := by omega
          simp only [Act.put]
          go_wp2_with fail
          exact soInvS.mk u13 u14 u15 u16 u37 u38 (.slice (some ⟨bx, ox, none⟩) X.length cap1) (.int .i64 k) (.pointer (some ⟨bx, ox + k, none⟩)) u42 u43 u44 u45 u46 u47 u48 y0 y1 y2 y3 y4 yo yg p (by first | kernel_rfl | rfl) (Gd.keep (i := 3) f0 (by decide)) (Gd.new rfl) (Gd.new rfl) (Gd.new (by first | rfl | simp)) (Gd.keep (i := 3) f4 (by decide)) (Gd.keep (i := 3) f5 (by decide)) (Gd.keep (i := 3) f6 (by decide)) (Gd.keep (i := 3) f7 (by decide)) (Gd.keep (i := 3) f8 (by decide)) (Gd.keep (i := 3) f9 (by decide)) (Gd.keep (i := 3) f10 (by decide)) (Gd.keep (i := 3) f11 (by decide)) (Gd.keep (i := 3) f12 (by decide)) (Gd.keep (i := 3) f14 (by decide)) (Gd.keep (i := 3) f15 (by decide)) (Gd.keep (i := 3) f16 (by decide)) hbel hs hres hrw hrx (Gd.keep (i := 3) gp13 (by decide))
        refine .cons 5 rfl ?_ ?_
        · intro d a w9 hsz hcl hinv hd hdep
          obtain ⟨u13, u14, u15, u16, u37, u38, u39, u40, u41, u42, u43, u44, u45, u46, u47, u48, y0, y1, y2, y3, y4, yo, yg, p, rfl, f0, f1, f2, f3, f4, f5, f6, f7, f8, f9, f10, f11, f12, f14, f15, f16, hbel, hs, hres, hrw, hrx, gp13⟩ := hinv
          have e3 := f3 (hdep.get 3 rfl)
          subst e3
          have hcell : w9.cell? ⟨bx, ox + k, none⟩ = some (.float .f32 x) := by rw [hbel.cell (p := ⟨bx, ox + k, none⟩) hbx]; exact Hcx.out
          simp only [Act.put]
          go_wp2_with fail
          exact soInvS.mk u13 u14 u15 u16 u37 u38 u39 u40 (.pointer (some ⟨bx, ox + k, none⟩)) (.float .f32 x) u43 u44 u45 u46 u47 u48 y0 y1 y2 y3 y4 yo yg p (by first | kernel_rfl | rfl) (Gd.keep (i := 4) f0 (by decide)) (Gd.keep (i := 4) f1 (by decide)) (Gd.keep (i := 4) f2 (by decide)) (Gd.new rfl) (Gd.new (by first | rfl | simp)) (Gd.keep (i := 4) f5 (by decide)) (Gd.keep (i := 4) f6 (by decide)) (Gd.keep (i := 4) f7 (by decide)) (Gd.keep (i := 4) f8 (by decide)) (Gd.keep (i := 4) f9 (by decide)) (Gd.keep (i := 4) f10 (by decide)) (Gd.keep (i := 4) f11 (by decide)) (Gd.keep (i := 4) f12 (by decide)) (Gd.keep (i := 4) f14 (by decide)) (Gd.keep (i := 4) f15 (by decide)) (Gd.keep (i := 4) f16 (by decide)) hbel hs hres hrw hrx (Gd.keep (i := 4) gp13 (by decide))
        refine .cons 6 rfl ?_ ?_
        · intro d a w9 hsz hcl hinv hd hdep
          obtain ⟨u13, u14, u15, u16, u37, u38, u39, u40, u41, u42, u43, u44, u45, u46, u47, u48, y0, y1, y2, y3, y4, yo, yg, p, rfl, f0, f1, f2, f3, f4, f5, f6, f7, f8, f9, f10, f11, f12, f14, f15, f16, hbel, hs, hres, hrw, hrx, gp13⟩ := hinv
          simp only [Act.put]
          go_wp2_with fail
          exact soInvS.mk u13 u14 u15 u16 u37 u38 u39 u40 u41 u42 (.float .f32 t) u44 u45 u46 u47 u48 y0 y1 y2 y3 y4 yo yg p (by first | kernel_rfl | rfl) (Gd.keep (i := 5) f0 (by decide)) (Gd.keep (i := 5) f1 (by decide)) (Gd.keep (i := 5) f2 (by decide)) (Gd.keep (i := 5) f3 (by decide)) (Gd.keep (i := 5) f4 (by decide)) (Gd.new (by first | rfl | simp)) (Gd.keep (i := 5) f6 (by decide)) (Gd.keep (i := 5) f7 (by decide)) (Gd.keep (i := 5) f8 (by decide)) (Gd.keep (i := 5) f9 (by decide)) (Gd.keep (i := 5) f10 (by decide)) (Gd.keep (i := 5) f11 (by decide)) (Gd.keep (i := 5) f12 (by decide)) (Gd.keep (i := 5) f14 (by decide)) (Gd.keep (i := 5) f15 (by decide)) (Gd.keep (i := 5) f16 (by decide)) hbel hs hres hrw hrx (Gd.keep (i := 5) gp13 (by decide))
        refine .cons 7 rfl ?_ ?_
        · intro d a w9 hsz hcl hinv hd hdep
          obtain ⟨u13, u14, u15, u16, u37, u38, u39, u40, u41, u42, u43, u44, u45, u46, u47, u48, y0, y1, y2, y3, y4, yo, yg, p, rfl, f0, f1, f2, f3, f4, f5, f6, f7, f8, f9, f10, f11, f12, f14, f15, f16, hbel, hs, hres, hrw, hrx, gp13⟩ := hinv
          have e0 := f0 (hdep.get 0 rfl)
          subst e0
          have e4 := f4 (hdep.get 4 rfl)
          subst e4
          have e5 := f5 (hdep.get 5 rfl)
          subst e5
          have n7 := hcl.not hd 7 _ rfl rfl
          have n8 := hcl.not n7 8 _ rfl rfl
          have n9 := hcl.not n7 9 _ rfl rfl
          have n10 := hcl.not n7 10 _ rfl rfl
          have n11 := hcl.not n7 11 _ rfl rfl
          have n13 := hcl.not n8 13 _ rfl rfl
          have n14 := hcl.not n9 14 _ rfl rfl
          have n15 := hcl.not n10 15 _ rfl rfl
          have n16 := hcl.not n11 16 _ rfl rfl
          simp only [Act.put]
          go_wp2_with fail
          refine (HCall.out _).mono ?_
          rintro e w5 ⟨y0', y1', y2', y3', y4', yo', yg', rfl, hy5, hb⟩
          have Hy5 := Lib.hid hy5
          have Hb5 := Lib.hid hb
          clear hy5 hb
          go_wp2_with fail
          exact soInvS.mk u13 u14 u15 u16 u37 (.agg #[.float .f32 c0, .float .f32 c1, .float .f32 c2, .float .f32 c3, .float .f32 c4]) u39 u40 u41 (.float .f32 x) (.float .f32 t) (.tuple #[.agg #[.float .f32 y0', .float .f32 y1', .float .f32 y2', .float .f32 y3', .float .f32 y4'], .float .f32 yo', .float .f32 yg', .bool R.ok]) u45 u46 u47 u48 y0' y1' y2' y3' y4' yo' yg' p (by first | kernel_rfl | rfl) (Gd.new rfl) (Gd.keep (i := 6) f1 (by decide)) (Gd.keep (i := 6) f2 (by decide)) (Gd.keep (i := 6) f3 (by decide)) (Gd.new rfl) (Gd.new rfl) (Gd.new ⟨rfl, Hy5.out⟩) (Gd.undone (i := 6) n7 (by decide)) (Gd.undone (i := 6) n8 (by decide)) (Gd.undone (i := 6) n9 (by decide)) (Gd.undone (i := 6) n10 (by decide)) (Gd.undone (i := 6) n11 (by decide)) ((f12.imp fun h => ⟨h.1, h.2.1, h.2.2.1, h.2.2.2.1, by obtain ⟨q0, q1, q2, q3, q4, h9⟩ := h.2.2.2.2; exact ⟨q0, q1, q2, q3, q4, h9.below Hb5.out h9.1.1⟩⟩).keep (i := 6) (by decide)) (Gd.undone (i := 6) n14 (by decide)) (Gd.undone (i := 6) n15 (by decide)) (Gd.undone (i := 6) n16 (by decide)) (hbel.trans (Hb5.out.mono hbel.size)) (hs.below Hb5.out hs.1.1) (hres.below Hb5.out hres.1.1) (hrw.below Hb5.out (Nat.le_refl _)) (hrx.below Hb5.out (Nat.le_refl _)) (Gd.undone (i := 6) n13 (by decide))
        refine .cons 8 rfl ?_ ?_
        · intro d a w9 hsz hcl hinv hd hdep
          obtain ⟨u13, u14, u15, u16, u37, u38, u39, u40, u41, u42, u43, u44, u45, u46, u47, u48, y0, y1, y2, y3, y4, yo, yg, p, rfl, f0, f1, f2, f3, f4, f5, f6, f7, f8, f9, f10, f11, f12, f14, f15, f16, hbel, hs, hres, hrw, hrx, gp13⟩ := hinv
          obtain ⟨e6, hy⟩ := f6 (hdep.get 6 rfl)
          have Hy := Lib.hid hy
          clear hy
          subst e6
          simp only [Act.put]
          go_wp2_with fail
          exact soInvS.mk u13 u14 u15 u16 (.tuple #[.agg #[.float .f32 y0, .float .f32 y1, .float .f32 y2, .float .f32 y3, .float .f32 y4], .float .f32 yo, .float .f32 yg, .bool R.ok]) u38 u39 u40 u41 u42 u43 (.tuple #[.agg #[.float .f32 y0, .float .f32 y1, .float .f32 y2, .float .f32 y3, .float .f32 y4], .float .f32 yo, .float .f32 yg, .bool R.ok]) u45 u46 u47 u48 y0 y1 y2 y3 y4 yo yg p (by first | kernel_rfl | rfl) (Gd.keep (i := 7) f0 (by decide)) (Gd.keep (i := 7) f1 (by decide)) (Gd.keep (i := 7) f2 (by decide)) (Gd.keep (i := 7) f3 (by decide)) (Gd.keep (i := 7) f4 (by decide)) (Gd.keep (i := 7) f5 (by decide)) (Gd.new ⟨rfl, Hy.out⟩) (Gd.new (by first | rfl | simp)) (Gd.keep (i := 7) f8 (by decide)) (Gd.keep (i := 7) f9 (by decide)) (Gd.keep (i := 7) f10 (by decide)) (Gd.keep (i := 7) f11 (by decide)) (Gd.keep (i := 7) f12 (by decide)) (Gd.keep (i := 7) f14 (by decide)) (Gd.keep (i := 7) f15 (by decide)) (Gd.keep (i := 7) f16 (by decide)) hbel hs hres hrw hrx (Gd.keep (i := 7) gp13 (by decide))
        refine .cons 9 rfl ?_ ?_
        · intro d a w9 hsz hcl hinv hd hdep
          obtain ⟨u13, u14, u15, u16, u37, u38, u39, u40, u41, u42, u43, u44, u45, u46, u47, u48, y0, y1, y2, y3, y4, yo, yg, p, rfl, f0, f1, f2, f3, f4, f5, f6, f7, f8, f9, f10, f11, f12, f14, f15, f16, hbel, hs, hres, hrw, hrx, gp13⟩ := hinv
          have e7 := f7 (hdep.get 7 rfl)
          subst e7
          simp only [Act.put]
          go_wp2_with fail
          exact soInvS.mk u13 u14 u15 u16 (.tuple #[.agg #[.float .f32 y0, .float .f32 y1, .float .f32 y2, .float .f32 y3, .float .f32 y4], .float .f32 yo, .float .f32 yg, .bool R.ok]) u38 u39 u40 u41 u42 u43 u44 (.agg #[.float .f32 y0, .float .f32 y1, .float .f32 y2, .float .f32 y3, .float .f32 y4]) u46 u47 u48 y0 y1 y2 y3 y4 yo yg p (by first | kernel_rfl | rfl) (Gd.keep (i := 8) f0 (by decide)) (Gd.keep (i := 8) f1 (by decide)) (Gd.keep (i := 8) f2 (by decide)) (Gd.keep (i := 8) f3 (by decide)) (Gd.keep (i := 8) f4 (by decide)) (Gd.keep (i := 8) f5 (by decide)) (Gd.keep (i := 8) f6 (by decide)) (Gd.new rfl) (Gd.new (by first | rfl | simp)) (Gd.keep (i := 8) f9 (by decide)) (Gd.keep (i := 8) f10 (by decide)) (Gd.keep (i := 8) f11 (by decide)) (Gd.keep (i := 8) f12 (by decide)) (Gd.keep (i := 8) f14 (by decide)) (Gd.keep (i := 8) f15 (by decide)) (Gd.keep (i := 8) f16 (by decide)) hbel hs hres hrw hrx (Gd.keep (i := 8) gp13 (by decide))
        refine .cons 10 rfl ?_ ?_
        · intro d a w9 hsz hcl hinv hd hdep
          obtain ⟨u13, u14, u15, u16, u37, u38, u39, u40, u41, u42, u43, u44, u45, u46, u47, u48, y0, y1, y2, y3, y4, yo, yg, p, rfl, f0, f1, f2, f3, f4, f5, f6, f7, f8, f9, f10, f11, f12, f14, f15, f16, hbel, hs, hres, hrw, hrx, gp13⟩ := hinv
          have e7 := f7 (hdep.get 7 rfl)
          subst e7
          simp only [Act.put]
          go_wp2_with fail
          exact soInvS.mk u13 u14 u15 u16 (.tuple #[.agg #[.float .f32 y0, .float .f32 y1, .float .f32 y2, .float .f32 y3, .float .f32 y4], .float .f32 yo, .float .f32 yg, .bool R.ok]) u38 u39 u40 u41 u42 u43 u44 u45 (.float .f32 yo) u47 u48 y0 y1 y2 y3 y4 yo yg p (by first | kernel_rfl | rfl) (Gd.keep (i := 9) f0 (by decide)) (Gd.keep (i := 9) f1 (by decide)) (Gd.keep (i := 9) f2 (by decide)) (Gd.keep (i := 9) f3 (by decide)) (Gd.keep (i := 9) f4 (by decide)) (Gd.keep (i := 9) f5 (by decide)) (Gd.keep (i := 9) f6 (by decide)) (Gd.new rfl) (Gd.keep (i := 9) f8 (by decide)) (Gd.new (by first | rfl | simp)) (Gd.keep (i := 9) f10 (by decide)) (Gd.keep (i := 9) f11 (by decide)) (Gd.keep (i := 9) f12 (by decide)) (Gd.keep (i := 9) f14 (by decide)) (Gd.keep (i := 9) f15 (by decide)) (Gd.keep (i := 9) f16 (by decide)) hbel hs hres hrw hrx (Gd.keep (i := 9) gp13 (by decide))
        refine .cons 11 rfl ?_ ?_
        · intro d a w9 hsz hcl hinv hd hdep
          obtain ⟨u13, u14, u15, u16, u37, u38, u39, u40, u41, u42, u43, u44, u45, u46, u47, u48, y0, y1, y2, y3, y4, yo, yg, p, rfl, f0, f1, f2, f3, f4, f5, f6, f7, f8, f9, f10, f11, f12, f14, f15, f16, hbel, hs, hres, hrw, hrx, gp13⟩ := hinv
          have e7 := f7 (hdep.get 7 rfl)
          subst e7
          simp only [Act.put]
          go_wp2_with fail
          exact soInvS.mk u13 u14 u15 u16 (.tuple #[.agg #[.float .f32 y0, .float .f32 y1, .float .f32 y2, .float .f32 y3, .float .f32 y4], .float .f32 yo, .float .f32 yg, .bool R.ok]) u38 u39 u40 u41 u42 u43 u44 u45 u46 (.float .f32 yg) u48 y0 y1 y2 y3 y4 yo yg p (by first | kernel_rfl | rfl) (Gd.keep (i := 10) f0 (by decide)) (Gd.keep (i := 10) f1 (by decide)) (Gd.keep (i := 10) f2 (by decide)) (Gd.keep (i := 10) f3 (by decide)) (Gd.keep (i := 10) f4 (by decide)) (Gd.keep (i := 10) f5 (by decide)) (Gd.keep (i := 10) f6 (by decide)) (Gd.new rfl) (Gd.keep (i := 10) f8 (by decide)) (Gd.keep (i := 10) f9 (by decide)) (Gd.new (by first | rfl | simp)) (Gd.keep (i := 10) f11 (by decide)) (Gd.keep (i := 10) f12 (by decide)) (Gd.keep (i := 10) f14 (by decide)) (Gd.keep (i := 10) f15 (by decide)) (Gd.keep (i := 10) f16 (by decide)) hbel hs hres hrw hrx (Gd.keep (i := 10) gp13 (by decide))
        refine .cons 12 rfl ?_ ?_
        · intro d a w9 hsz hcl hinv hd hdep
          obtain ⟨u13, u14, u15, u16, u37, u38, u39, u40, u41, u42, u43, u44, u45, u46, u47, u48, y0, y1, y2, y3, y4, yo, yg, p, rfl, f0, f1, f2, f3, f4, f5, f6, f7, f8, f9, f10, f11, f12, f14, f15, f16, hbel, hs, hres, hrw, hrx, gp13⟩ := hinv
          have e7 := f7 (hdep.get 7 rfl)
          subst e7
          simp only [Act.put]
          go_wp2_with fail
          exact soInvS.mk u13 u14 u15 u16 (.tuple #[.agg #[.float .f32 y0, .float .f32 y1, .float .f32 y2, .float .f32 y3, .float .f32 y4], .float .f32 yo, .float .f32 yg, .bool R.ok]) u38 u39 u40 u41 u42 u43 u44 u45 u46 u47 (.bool R.ok) y0 y1 y2 y3 y4 yo yg p (by first | kernel_rfl | rfl) (Gd.keep (i := 11) f0 (by decide)) (Gd.keep (i := 11) f1 (by decide)) (Gd.keep (i := 11) f2 (by decide)) (Gd.keep (i := 11) f3 (by decide)) (Gd.keep (i := 11) f4 (by decide)) (Gd.keep (i := 11) f5 (by decide)) (Gd.keep (i := 11) f6 (by decide)) (Gd.new rfl) (Gd.keep (i := 11) f8 (by decide)) (Gd.keep (i := 11) f9 (by decide)) (Gd.keep (i := 11) f10 (by decide)) (Gd.new (by first | rfl | simp)) (Gd.keep (i := 11) f12 (by decide)) (Gd.keep (i := 11) f14 (by decide)) (Gd.keep (i := 11) f15 (by decide)) (Gd.keep (i := 11) f16 (by decide)) hbel hs hres hrw hrx (Gd.keep (i := 11) gp13 (by decide))
        refine .cons 13 rfl ?_ ?_
        · intro d a w9 hsz hcl hinv hd hdep
          obtain ⟨u13, u14, u15, u16, u37, u38, u39, u40, u41, u42, u43, u44, u45, u46, u47, u48, y0, y1, y2, y3, y4, yo, yg, p, rfl, f0, f1, f2, f3, f4, f5, f6, f7, f8, f9, f10, f11, f12, f14, f15, f16, hbel, hs, hres, hrw, hrx, gp13⟩ := hinv
          have n13 := hcl.not hd 13 _ rfl rfl
          simp only [Act.put]
          go_wp2_with fail
          exact soInvS.mk (.pointer (some ⟨w9.heap.size, 0, none⟩)) u14 u15 u16 u37 u38 u39 u40 u41 u42 u43 u44 u45 u46 u47 u48 y0 y1 y2 y3 y4 yo yg w9.heap.size (by first | kernel_rfl | rfl) (Gd.keep (i := 12) f0 (by decide)) (Gd.keep (i := 12) f1 (by decide)) (Gd.keep (i := 12) f2 (by decide)) (Gd.keep (i := 12) f3 (by decide)) (Gd.keep (i := 12) f4 (by decide)) (Gd.keep (i := 12) f5 (by decide)) (Gd.keep (i := 12) f6 (by decide)) (Gd.keep (i := 12) f7 (by decide)) (Gd.keep (i := 12) f8 (by decide)) (Gd.keep (i := 12) f9 (by decide)) (Gd.keep (i := 12) f10 (by decide)) (Gd.keep (i := 12) f11 (by decide)) (Gd.new ⟨(by first | rfl | simp), (by have := hbel.size; have := hres.1.1; omega), (fun h9 => by have := (hrw.lo _ h9).2; omega), (fun h9 => by have := (hrx.lo _ h9).2; omega), _, _, _, _, _, Bw.new _ [_, _, _, _, _] _⟩) (Gd.keep (i := 12) f14 (by decide)) (Gd.keep (i := 12) f15 (by decide)) (Gd.keep (i := 12) f16 (by decide)) (hbel.alloc hbel.size _) (hs.alloc _) (hres.alloc _) (hrw.alloc _) (hrx.alloc _) (Gd.undone (i := 12) n13 (by decide))
        refine .cons 14 rfl ?_ ?_
        · intro d a w9 hsz hcl hinv hd hdep
          obtain ⟨u13, u14, u15, u16, u37, u38, u39, u40, u41, u42, u43, u44, u45, u46, u47, u48, y0, y1, y2, y3, y4, yo, yg, p, rfl, f0, f1, f2, f3, f4, f5, f6, f7, f8, f9, f10, f11, f12, f14, f15, f16, hbel, hs, hres, hrw, hrx, gp13⟩ := hinv
          obtain ⟨e12, hp12⟩ := f12 (hdep.get 12 rfl)
          subst e12
          obtain ⟨hp0, hp1, hp2, q0, q1, q2, q3, q4, hbp⟩ := hp12
          have e8 := f8 (hdep.get 8 rfl)
          subst e8
          have hc0 := hbp.c 0 rfl
          have hc1 := hbp.c 1 rfl
          have hc2 := hbp.c 2 rfl
          have hc3 := hbp.c 3 rfl
          have hc4 := hbp.c 4 rfl
          have hf0 := hbp.f 0 (by simp)
          have hf1 := hbp.f 1 (by simp)
          have hf2 := hbp.f 2 (by simp)
          have hf3 := hbp.f 3 (by simp)
          have hf4 := hbp.f 4 (by simp)
          simp only [Act.put]
          go_wp2_with fail
          have hpw : w.heap.size ≤ p := by omega
          have hnew : Bw (((((w9.setCell ⟨p, 0, none⟩ (.float .f32 y0)).setCell ⟨p, 1, none⟩ (.float .f32 y1)).setCell ⟨p, 2, none⟩ (.float .f32 y2)).setCell ⟨p, 3, none⟩ (.float .f32 y3)).setCell ⟨p, 4, none⟩ (.float .f32 y4)) p [.float .f32 y0, .float .f32 y1, .float .f32 y2, .float .f32 y3, .float .f32 y4] := Bw.of5 (by have := hbp.1.1; simp; omega) (by first | (simp [go_sem, hf0, hf1, hf2, hf3, hf4]; done) | (simp (maxDischargeDepth := 12) [go_sem, hc0, hc1, hc2, hc3, hc4, hf0, hf1, hf2, hf3, hf4]; done) | (simp (maxDischargeDepth := 12) [go_sem, hc0, hc1, hc2, hc3, hc4, hf0, hf1, hf2, hf3, hf4]; rfl)) (by first | (simp [go_sem, hf0, hf1, hf2, hf3, hf4]; done) | (simp (maxDischargeDepth := 12) [go_sem, hc0, hc1, hc2, hc3, hc4, hf0, hf1, hf2, hf3, hf4]; done) | (simp (maxDischargeDepth := 12) [go_sem, hc0, hc1, hc2, hc3, hc4, hf0, hf1, hf2, hf3, hf4]; rfl)) (by first | (simp [go_sem, hf0, hf1, hf2, hf3, hf4]; done) | (simp (maxDischargeDepth := 12) [go_sem, hc0, hc1, hc2, hc3, hc4, hf0, hf1, hf2, hf3, hf4]; done) | (simp (maxDischargeDepth := 12) [go_sem, hc0, hc1, hc2, hc3, hc4, hf0, hf1, hf2, hf3, hf4]; rfl)) (by first | (simp [go_sem, hf0, hf1, hf2, hf3, hf4]; done) | (simp (maxDischargeDepth := 12) [go_sem, hc0, hc1, hc2, hc3, hc4, hf0, hf1, hf2, hf3, hf4]; done) | (simp (maxDischargeDepth := 12) [go_sem, hc0, hc1, hc2, hc3, hc4, hf0, hf1, hf2, hf3, hf4]; rfl)) (by first | (simp [go_sem, hf0, hf1, hf2, hf3, hf4]; done) | (simp (maxDischargeDepth := 12) [go_sem, hc0, hc1, hc2, hc3, hc4, hf0, hf1, hf2, hf3, hf4]; done) | (simp (maxDischargeDepth := 12) [go_sem, hc0, hc1, hc2, hc3, hc4, hf0, hf1, hf2, hf3, hf4]; rfl)) (by first | (simp [go_sem, hf0, hf1, hf2, hf3, hf4]; done) | (simp (maxDischargeDepth := 12) [go_sem, hc0, hc1, hc2, hc3, hc4, hf0, hf1, hf2, hf3, hf4]; done) | (simp (maxDischargeDepth := 12) [go_sem, hc0, hc1, hc2, hc3, hc4, hf0, hf1, hf2, hf3, hf4]; rfl)) (by first | (simp [go_sem, hf0, hf1, hf2, hf3, hf4]; done) | (simp (maxDischargeDepth := 12) [go_sem, hc0, hc1, hc2, hc3, hc4, hf0, hf1, hf2, hf3, hf4]; done) | (simp (maxDischargeDepth := 12) [go_sem, hc0, hc1, hc2, hc3, hc4, hf0, hf1, hf2, hf3, hf4]; rfl)) (by first | (simp [go_sem, hf0, hf1, hf2, hf3, hf4]; done) | (simp (maxDischargeDepth := 12) [go_sem, hc0, hc1, hc2, hc3, hc4, hf0, hf1, hf2, hf3, hf4]; done) | (simp (maxDischargeDepth := 12) [go_sem, hc0, hc1, hc2, hc3, hc4, hf0, hf1, hf2, hf3, hf4]; rfl)) (by first | (simp [go_sem, hf0, hf1, hf2, hf3, hf4]; done) | (simp (maxDischargeDepth := 12) [go_sem, hc0, hc1, hc2, hc3, hc4, hf0, hf1, hf2, hf3, hf4]; done) | (simp (maxDischargeDepth := 12) [go_sem, hc0, hc1, hc2, hc3, hc4, hf0, hf1, hf2, hf3, hf4]; rfl)) (by first | (simp [go_sem, hf0, hf1, hf2, hf3, hf4]; done) | (simp (maxDischargeDepth := 12) [go_sem, hc0, hc1, hc2, hc3, hc4, hf0, hf1, hf2, hf3, hf4]; done) | (simp (maxDischargeDepth := 12) [go_sem, hc0, hc1, hc2, hc3, hc4, hf0, hf1, hf2, hf3, hf4]; rfl))
          exact soInvS.mk (.pointer (some ⟨p, 0, none⟩)) u14 u15 u16 u37 u38 u39 u40 u41 u42 u43 u44 (.agg #[.float .f32 y0, .float .f32 y1, .float .f32 y2, .float .f32 y3, .float .f32 y4]) u46 u47 u48 y0 y1 y2 y3 y4 yo yg p (by first | kernel_rfl | rfl) (Gd.keep (i := 13) f0 (by decide)) (Gd.keep (i := 13) f1 (by decide)) (Gd.keep (i := 13) f2 (by decide)) (Gd.keep (i := 13) f3 (by decide)) (Gd.keep (i := 13) f4 (by decide)) (Gd.keep (i := 13) f5 (by decide)) (Gd.keep (i := 13) f6 (by decide)) (Gd.keep (i := 13) f7 (by decide)) (Gd.new rfl) (Gd.keep (i := 13) f9 (by decide)) (Gd.keep (i := 13) f10 (by decide)) (Gd.keep (i := 13) f11 (by decide)) (Gd.new ⟨rfl, hp0, hp1, hp2, _, _, _, _, _, hnew⟩) (Gd.keep (i := 13) f14 (by decide)) (Gd.keep (i := 13) f15 (by decide)) (Gd.keep (i := 13) f16 (by decide)) (((((hbel.setCell hpw _).setCell hpw _).setCell hpw _).setCell hpw _).setCell hpw _) (Bw.far5 hs (by omega) _ _ _ _ _ _ _ _ _ _) (Bw.far5 hres (by omega) _ _ _ _ _ _ _ _ _ _) (hrw.faar5 hp1 _ _ _ _ _ _ _ _ _ _) (hrx.faar5 hp2 _ _ _ _ _ _ _ _ _ _) (Gd.new hnew)
        refine .cons 15 rfl ?_ ?_
        · intro d a w9 hsz hcl hinv hd hdep
          obtain ⟨u13, u14, u15, u16, u37, u38, u39, u40, u41, u42, u43, u44, u45, u46, u47, u48, y0, y1, y2, y3, y4, yo, yg, p, rfl, f0, f1, f2, f3, f4, f5, f6, f7, f8, f9, f10, f11, f12, f14, f15, f16, hbel, hs, hres, hrw, hrx, gp13⟩ := hinv
          have e9 := f9 (hdep.get 9 rfl)
          subst e9
          simp only [Act.put]
          go_wp2_with fail
          exact soInvS.mk u13 (.float .f32 yo) u15 u16 u37 u38 u39 u40 u41 u42 u43 u44 u45 (.float .f32 yo) u47 u48 y0 y1 y2 y3 y4 yo yg p (by first | kernel_rfl | rfl) (Gd.keep (i := 14) f0 (by decide)) (Gd.keep (i := 14) f1 (by decide)) (Gd.keep (i := 14) f2 (by decide)) (Gd.keep (i := 14) f3 (by decide)) (Gd.keep (i := 14) f4 (by decide)) (Gd.keep (i := 14) f5 (by decide)) (Gd.keep (i := 14) f6 (by decide)) (Gd.keep (i := 14) f7 (by decide)) (Gd.keep (i := 14) f8 (by decide)) (Gd.new rfl) (Gd.keep (i := 14) f10 (by decide)) (Gd.keep (i := 14) f11 (by decide)) (Gd.keep (i := 14) f12 (by decide)) (Gd.new (by first | rfl | simp)) (Gd.keep (i := 14) f15 (by decide)) (Gd.keep (i := 14) f16 (by decide)) hbel hs hres hrw hrx (Gd.keep (i := 14) gp13 (by decide))
        refine .cons 16 rfl ?_ ?_
        · intro d a w9 hsz hcl hinv hd hdep
          obtain ⟨u13, u14, u15, u16, u37, u38, u39, u40, u41, u42, u43, u44, u45, u46, u47, u48, y0, y1, y2, y3, y4, yo, yg, p, rfl, f0, f1, f2, f3, f4, f5, f6, f7, f8, f9, f10, f11, f12, f14, f15, f16, hbel, hs, hres, hrw, hrx, gp13⟩ := hinv
          have e10 := f10 (hdep.get 10 rfl)
          subst e10
          simp only [Act.put]
          go_wp2_with fail
          exact soInvS.mk u13 u14 (.float .f32 yg) u16 u37 u38 u39 u40 u41 u42 u43 u44 u45 u46 (.float .f32 yg) u48 y0 y1 y2 y3 y4 yo yg p (by first | kernel_rfl | rfl) (Gd.keep (i := 15) f0 (by decide)) (Gd.keep (i := 15) f1 (by decide)) (Gd.keep (i := 15) f2 (by decide)) (Gd.keep (i := 15) f3 (by decide)) (Gd.keep (i := 15) f4 (by decide)) (Gd.keep (i := 15) f5 (by decide)) (Gd.keep (i := 15) f6 (by decide)) (Gd.keep (i := 15) f7 (by decide)) (Gd.keep (i := 15) f8 (by decide)) (Gd.keep (i := 15) f9 (by decide)) (Gd.new rfl) (Gd.keep (i := 15) f11 (by decide)) (Gd.keep (i := 15) f12 (by decide)) (Gd.keep (i := 15) f14 (by decide)) (Gd.new (by first | rfl | simp)) (Gd.keep (i := 15) f16 (by decide)) hbel hs hres hrw hrx (Gd.keep (i := 15) gp13 (by decide))
        refine .cons 17 rfl ?_ trivial
        · intro d a w9 hsz hcl hinv hd hdep
          obtain ⟨u13, u14, u15, u16, u37, u38, u39, u40, u41, u42, u43, u44, u45, u46, u47, u48, y0, y1, y2, y3, y4, yo, yg, p, rfl, f0, f1, f2, f3, f4, f5, f6, f7, f8, f9, f10, f11, f12, f14, f15, f16, hbel, hs, hres, hrw, hrx, gp13⟩ := hinv
          have e11 := f11 (hdep.get 11 rfl)
          subst e11
          simp only [Act.put]
          go_wp2_with fail
          exact soInvS.mk u13 u14 u15 (.bool R.ok) u37 u38 u39 u40 u41 u42 u43 u44 u45 u46 u47 (.bool R.ok) y0 y1 y2 y3 y4 yo yg p (by first | kernel_rfl | rfl) (Gd.keep (i := 16) f0 (by decide)) (Gd.keep (i := 16) f1 (by decide)) (Gd.keep (i := 16) f2 (by decide)) (Gd.keep (i := 16) f3 (by decide)) (Gd.keep (i := 16) f4 (by decide)) (Gd.keep (i := 16) f5 (by decide)) (Gd.keep (i := 16) f6 (by decide)) (Gd.keep (i := 16) f7 (by decide)) (Gd.keep (i := 16) f8 (by decide)) (Gd.keep (i := 16) f9 (by decide)) (Gd.keep (i := 16) f10 (by decide)) (Gd.new rfl) (Gd.keep (i := 16) f12 (by decide)) (Gd.keep (i := 16) f14 (by decide)) (Gd.keep (i := 16) f15 (by decide)) (Gd.new (by first | rfl | simp)) hbel hs hres hrw hrx (Gd.keep (i := 16) gp13 (by decide))
    · have hkX : k = X.length := by omega
      subst hkX
      obtain ⟨av, cv, hv9⟩ := HRow.out.len
      subst hv9
      obtain ⟨au, cu, hu9⟩ := HRowb.out.len
      subst hu9
      have hv : Q = ⟨(soIt A0 A1 A2 A3 A4 T X X.length).s0, (soIt A0 A1 A2 A3 A4 T X X.length).s1, (soIt A0 A1 A2 A3 A4 T X X.length).s2, (soIt A0 A1 A2 A3 A4 T X X.length).s3, (soIt A0 A1 A2 A3 A4 T X X.length).s4, ls, ms, true⟩ := by rw [← HQ2.out, if_pos HOk.out.1, ← HIl.out.exact HOk.out.2.2.1, ← HIm.out.exact HOk.out.2.2.2]
      have HV := Lib.hid hv
      clear hv
      have hne9 : (Value.slice av ls.length cv).ownBlock ≠ some (w.heap.size + 1) := fun h9 => by have := (HRow.out.lo _ h9).1; omega
      have HNe := Lib.hid hne9
      have hne8 : (Value.slice au ms.length cu).ownBlock ≠ some (w.heap.size + 1) := fun h9 => by have := (HRowb.out.lo _ h9).1; omega
      have HNe8 := Lib.hid hne8
      clear hne9 hne8
      have hc0 := HS.out.c 0 rfl
      have hc1 := HS.out.c 1 rfl
      have hc2 := HS.out.c 2 rfl
      have hc3 := HS.out.c 3 rfl
      have hc4 := HS.out.c 4 rfl
      have hr0 := HR.out.c 0 rfl
      have hr1 := HR.out.c 1 rfl
      have hr2 := HR.out.c 2 rfl
      have hr3 := HR.out.c 3 rfl
      have hr4 := HR.out.c 4 rfl
      have hg0 := HR.out.f 0 (by simp)
      have hg1 := HR.out.f 1 (by simp)
      have hg2 := HR.out.f 2 (by simp)
      have hg3 := HR.out.f 3 (by simp)
      have hg4 := HR.out.f 4 (by simp)
      go_wp2_with fail
      rw [HV.out]
      exact bodyPost_ret (v := .tuple #[.agg #[.float .f32 c0, .float .f32 c1, .float .f32 c2, .float .f32 c3, .float .f32 c4], .slice av ls.length cv, .slice au ms.length cu, .bool true]) (by first | (simp [results, Try.results52, go_sem, hr0, hr1, hr2, hr3, hr4, hg0, hg1, hg2, hg3, hg4, hc0, hc1, hc2, hc3, hc4]; done) | (simp (maxDischargeDepth := 12) [results, Try.results52, go_sem, hr0, hr1, hr2, hr3, hr4, hg0, hg1, hg2, hg3, hg4, hc0, hc1, hc2, hc3, hc4]; done) | (simp (maxDischargeDepth := 12) [results, Try.results52, go_sem, hr0, hr1, hr2, hr3, hr4, hg0, hg1, hg2, hg3, hg4, hc0, hc1, hc2, hc3, hc4]; rfl)) rfl (RunSB.yes (lo := w.heap.size + 2) (HRow.out.faar5 HNe.out _ _ _ _ _ _ _ _ _ _) (HRowb.out.faar5 HNe8.out _ _ _ _ _ _ _ _ _ _) HAp.out (by omega) (by rw [HLk.out]; exact hl1) (by rw [HMk.out]; exact hl1) HC.out (by repeat (first | with_reducible exact HBk.out | with_reducible refine beld ?_ _ | (with_reducible refine Below.alloc ?_ ?_ _; rotate_left; exact (by first | (simp; done) | (simp; omega) | omega)) | (with_reducible refine Below.setCell ?_ ?_ _; rotate_left; exact (by first | (simp; done) | (simp; omega) | omega)))))

end Go.Proofs.Ytdoecpghlfjhiac
