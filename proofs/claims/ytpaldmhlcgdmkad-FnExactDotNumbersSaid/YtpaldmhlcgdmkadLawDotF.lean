/- The walk of the law on DotNumbers. -/
import Derived.Test.YtpaldmhlcgdmkadDotF
namespace Go.Proofs.Ytpaldmhlcgdmkad
open Go.RowKit

theorem toF_at {len : Nat} (a : Option Addr) (cap : Nat) (zs : List Nat) (w : World) (h : Hid (zs.length = len)) (hr : RowF .f32 w a zs) (hl : len ≤ 1048576) :
    Calls Try.prog 18 #[.slice a len cap] w fun e w' => e = .returned (.slice (some ⟨w.heap.size, 0, none⟩) len len) ∧ Below w.heap.size w w' ∧ RowF .f32 w' (some ⟨w.heap.size, 0, none⟩) zs := by
  obtain rfl := h.out; exact toFloat32S_any a cap zs w hr hl
theorem eqF_at {len : Nat} (a a' : Option Addr) (cap cap' : Nat) (zs : List Nat) (w : World) (h0 : Hid (zs.length = len)) (h : RowF .f32 w a zs) (h' : RowF .f32 w a' zs) (hl : len ≤ 1048576) :
    Calls Try.prog 20 #[.slice a len cap, .slice a' len cap'] w fun e w' => e = .returned (.bool true) ∧ ∃ n, w' = w.drewN n := by
  obtain rfl := h0.out; exact eqFloat32S_any a a' cap cap' zs w h h' hl
theorem sDot_at {len : Nat} (a a' : Option Addr) (cap cap' : Nat) (xs ys : List Nat) (w : World) (h0 : Hid (xs.length = len)) (h1 : Hid (ys.length = len)) (h : RowF .f32 w a xs) (h' : RowF .f32 w a' ys) (hl : len ≤ 1048576) :
    Calls Try.prog 41 #[.slice a len cap, .slice a' len cap'] w (RetF32 (fdot xs ys len) w) := by
  obtain rfl := h0.out; exact l01Dot_any a a' cap cap' xs ys w h h' hl h1.out
theorem iDot_at {len : Nat} (a a' : Option Addr) (cap cap' : Nat) (xs ys : List Nat) (w : World) (h0 : Hid (xs.length = len)) (h1 : Hid (ys.length = len)) (h : RowF .f32 w a xs) (h' : RowF .f32 w a' ys) (hl : len ≤ 256) :
    Calls Try.prog 22 #[.slice a len cap, .slice a' len cap'] w (RetF32B (fdot xs ys len) w) := by
  obtain rfl := h0.out; exact dotNumbers_any a a' cap cap' xs ys w h h' hl h1.out

set_option maxHeartbeats 2000000 in
theorem dotLaw_few (a a' : Option Addr) (len cap cap' : Nat) (xs ys : List Nat) (w : World) (X0 : Hid (xs.length = len)) (Y0 : Hid (ys.length = len)) (H0 : Hid (RowF .f32 w a xs)) (G0 : Hid (RowF .f32 w a' ys)) (hl2 : len ≤ 256) :
    Calls Try.prog 7 #[.slice a len cap, .slice a' len cap'] w fun e w' => e = .returned (.bool true) ∧ Below w.heap.size w w' := by
  have hd : decide ((len : Int) ≤ 256) = true := by simp; omega
  have hl : len ≤ 1048576 := by omega
  have hl' : len ≤ 1048576 := by omega
  go_enter Try.func7, Try.ntmps7
  go_wp2_with fail
  refine (toF_at a cap xs _ X0 H0.out hl).mono ?_
  rintro e w1 ⟨rfl, hb1, hr1⟩
  have Hb1 := Lib.hid hb1; have Hr1 := Lib.hid hr1; have Hs1 := Lib.hid hb1.size; clear hb1 hr1
  go_wp2_with fail
  refine (toF_at a' cap' ys _ Y0 (G0.out.below Hb1.out (Nat.le_refl _)) hl').mono ?_
  rintro e w2 ⟨rfl, hb2, hr2⟩
  have Hr1b := Lib.hid (Hr1.out.below hb2 (Nat.le_refl _))
  have Hb2 := Lib.hid (below_then Hb1.out 0 hb2 Hs1.out); have Gr2 := Lib.hid hr2; have Hs2 := Lib.hid (Nat.le_trans Hs1.out hb2.size); clear hb2 hr2
  go_wp2_with (first | (go_at_call 21; go_in) | (go_at_call 39; go_in) | go_back)
  refine (sDot_at _ _ _ _ xs ys _ X0 Y0 Hr1b.out Gr2.out hl).mono ?_
  rintro e w' ⟨r1, n1, rfl, rfl, hq1⟩
  have Hq1 := Lib.hid hq1; clear hq1
  go_wp2_with go_back
  refine (toF_at a cap xs _ X0 ((H0.out.below Hb2.out (Nat.le_refl _)).drewN _) hl).mono ?_
  rintro e w3 ⟨rfl, hb3, hr3⟩
  have Hb3 := Lib.hid (below_then Hb2.out _ hb3 Hs2.out); have Hr3 := Lib.hid hr3; have Hs3 := Lib.hid (Nat.le_trans Hs2.out hb3.size); clear hb3 hr3
  go_wp2_with fail
  refine (toF_at a' cap' ys _ Y0 (G0.out.below Hb3.out (Nat.le_refl _)) hl').mono ?_
  rintro e w4 ⟨rfl, hb4, hr4⟩
  have Hr4 := Lib.hid (Hr3.out.below hb4 (Nat.le_refl _))
  have Hb4 := Lib.hid (below_then Hb3.out 0 hb4 Hs3.out); have Gr4 := Lib.hid hr4; have Hs4 := Lib.hid (Nat.le_trans Hs3.out hb4.size); clear hb4 hr4
  go_wp2_with fail
  refine (iDot_at _ _ _ _ xs ys _ X0 Y0 Hr4.out Gr4.out hl2).mono ?_
  rintro e w' ⟨r2, n2, rfl, rfl, hq2⟩
  have Hq2 := Lib.hid hq2; clear hq2
  go_wp2_with (refine wpList_cvt rfl _ _ _ rfl .f32 .f64 _ rfl (by kernel_rfl) Try.underlying25 (widen_ok _) ?_; intro z n hz)
  refine (sameFloat_true (cvtF .f32 .f64 (fdot xs ys len)) _ _ (Rp.cvtF (by decide) Hq2.out (by assumption)) (Rp.cvtF (by decide) Hq1.out (by assumption)) _).mono ?_
  rintro e w' ⟨rfl, n3, rfl⟩
  go_wp2_with fail
  refine (toF_at a cap xs _ X0 ((H0.out.below Hb4.out (Nat.le_refl _)).drewN _) hl).mono ?_
  rintro e w5 ⟨rfl, hb5, hr5⟩
  have Hr4b := Lib.hid ((Hr4.out.drewN _).below hb5 (Nat.le_refl _))
  have Gr4b := Lib.hid ((Gr4.out.drewN _).below hb5 (Nat.le_refl _))
  have Hb5 := Lib.hid (below_then Hb4.out _ hb5 Hs4.out); have Hr5 := Lib.hid hr5; have Hs5 := Lib.hid (Nat.le_trans Hs4.out hb5.size); clear hb5 hr5
  go_wp2_with fail
  refine (eqF_at _ _ _ _ xs _ X0 Hr4b.out Hr5.out hl).mono ?_
  rintro e w' ⟨rfl, n4, rfl⟩
  go_wp2_with fail
  refine (toF_at a' cap' ys _ Y0 ((G0.out.below Hb5.out (Nat.le_refl _)).drewN _) hl').mono ?_
  rintro e w6 ⟨rfl, hb6, hr6⟩
  have Gr4c := Lib.hid ((Gr4b.out.drewN _).below hb6 (Nat.le_refl _))
  have Hb6 := Lib.hid (below_then Hb5.out _ hb6 Hs5.out); have Gr6 := Lib.hid hr6; clear hb6 hr6
  go_wp2_with fail
  refine (eqF_at _ _ _ _ ys _ Y0 Gr4c.out Gr6.out hl').mono ?_
  rintro e w' ⟨rfl, n5, rfl⟩
  go_wp2_with fail
  go_ret
  exact ⟨rfl, below_drewN Hb6.out _⟩

set_option maxHeartbeats 2000000 in
theorem dotLaw_long (a a' : Option Addr) (len len' cap cap' : Nat) (xs ys : List Nat) (w : World) (X0 : Hid (xs.length = len)) (Y0 : Hid (ys.length = len')) (H0 : Hid (RowF .f32 w a xs)) (G0 : Hid (RowF .f32 w a' ys)) (hl : len ≤ 1048576) (hl' : len' ≤ 1048576) (h1 : 256 < len) (h2 : len ≠ len') :
    Calls Try.prog 7 #[.slice a len cap, .slice a' len' cap'] w fun e w' => e = .returned (.bool true) ∧ Below w.heap.size w w' := by
  have hd : decide ((len : Int) ≤ 256) = false := by simp; omega
  have hd2 : ((len : Int) != (len' : Int)) = true := by rw [bne_iff_ne]; omega
  go_enter Try.func7, Try.ntmps7
  go_wp2_with fail
  refine (toF_at a cap xs _ X0 H0.out hl).mono ?_
  rintro e w1 ⟨rfl, hb1, hr1⟩
  have Hb1 := Lib.hid hb1; have Hr1 := Lib.hid hr1; have Hs1 := Lib.hid hb1.size; clear hb1 hr1
  go_wp2_with fail
  refine (toF_at a' cap' ys _ Y0 (G0.out.below Hb1.out (Nat.le_refl _)) hl').mono ?_
  rintro e w2 ⟨rfl, hb2, hr2⟩
  have Hr1b := Lib.hid (Hr1.out.below hb2 (Nat.le_refl _))
  have Hb2 := Lib.hid (below_then Hb1.out 0 hb2 Hs1.out); have Gr2 := Lib.hid hr2; have Hs2 := Lib.hid (Nat.le_trans Hs1.out hb2.size); clear hb2 hr2
  go_wp2_with (first | (go_at_call 21; go_in) | (go_at_call 39; go_in) | go_back)
  refine (toF_at a cap xs _ X0 (H0.out.below Hb2.out (Nat.le_refl _)) hl).mono ?_
  rintro e w3 ⟨rfl, hb3, hr3⟩
  have Hb3 := Lib.hid (below_then Hb2.out 0 hb3 Hs2.out); have Hr3 := Lib.hid hr3; have Hs3 := Lib.hid (Nat.le_trans Hs2.out hb3.size); clear hb3 hr3
  go_wp2_with fail
  refine (toF_at a' cap' ys _ Y0 (G0.out.below Hb3.out (Nat.le_refl _)) hl').mono ?_
  rintro e w4 ⟨rfl, hb4, hr4⟩
  have Hr4 := Lib.hid (Hr3.out.below hb4 (Nat.le_refl _))
  have Hb4 := Lib.hid (below_then Hb3.out 0 hb4 Hs3.out); have Gr4 := Lib.hid hr4; have Hs4 := Lib.hid (Nat.le_trans Hs3.out hb4.size); clear hb4 hr4
  go_wp2_with (first | (go_at_call 22; go_in) | go_back | (refine wpList_cvt rfl _ _ _ rfl .f32 .f64 _ rfl (by kernel_rfl) Try.underlying25 (widen_ok _) ?_; intro z n hz))
  refine (sameFloat_true (cvt .f32 0 .f64) _ _ (by assumption) (by assumption) _).mono ?_
  rintro e w' ⟨rfl, n3, rfl⟩
  go_wp2_with fail
  refine (toF_at a cap xs _ X0 ((H0.out.below Hb4.out (Nat.le_refl _)).drewN _) hl).mono ?_
  rintro e w5 ⟨rfl, hb5, hr5⟩
  have Hr4b := Lib.hid ((Hr4.out.drewN _).below hb5 (Nat.le_refl _))
  have Gr4b := Lib.hid ((Gr4.out.drewN _).below hb5 (Nat.le_refl _))
  have Hb5 := Lib.hid (below_then Hb4.out _ hb5 Hs4.out); have Hr5 := Lib.hid hr5; have Hs5 := Lib.hid (Nat.le_trans Hs4.out hb5.size); clear hb5 hr5
  go_wp2_with fail
  refine (eqF_at _ _ _ _ xs _ X0 Hr4b.out Hr5.out hl).mono ?_
  rintro e w' ⟨rfl, n4, rfl⟩
  go_wp2_with fail
  refine (toF_at a' cap' ys _ Y0 ((G0.out.below Hb5.out (Nat.le_refl _)).drewN _) hl').mono ?_
  rintro e w6 ⟨rfl, hb6, hr6⟩
  have Gr4c := Lib.hid ((Gr4b.out.drewN _).below hb6 (Nat.le_refl _))
  have Hb6 := Lib.hid (below_then Hb5.out _ hb6 Hs5.out); have Gr6 := Lib.hid hr6; clear hb6 hr6
  go_wp2_with fail
  refine (eqF_at _ _ _ _ ys _ Y0 Gr4c.out Gr6.out hl').mono ?_
  rintro e w' ⟨rfl, n5, rfl⟩
  go_wp2_with fail
  go_ret
  exact ⟨rfl, below_drewN Hb6.out _⟩

set_option maxHeartbeats 2000000 in
theorem dotLaw_longe (a a' : Option Addr) (len len' cap cap' : Nat) (xs ys : List Nat) (w : World) (X0 : Hid (xs.length = len)) (Y0 : Hid (ys.length = len')) (H0 : Hid (RowF .f32 w a xs)) (G0 : Hid (RowF .f32 w a' ys)) (hl : len ≤ 1048576) (hl' : len' ≤ 1048576) (h1 : 256 < len) (h2 : len = len') :
    Calls Try.prog 7 #[.slice a len cap, .slice a' len' cap'] w fun e w' => e = .returned (.bool true) ∧ Below w.heap.size w w' := by
  subst h2
  have hd : decide ((len : Int) ≤ 256) = false := by simp; omega
  go_enter Try.func7, Try.ntmps7
  go_wp2_with fail
  refine (toF_at a cap xs _ X0 H0.out hl).mono ?_
  rintro e w1 ⟨rfl, hb1, hr1⟩
  have Hb1 := Lib.hid hb1; have Hr1 := Lib.hid hr1; have Hs1 := Lib.hid hb1.size; clear hb1 hr1
  go_wp2_with fail
  refine (toF_at a' cap' ys _ Y0 (G0.out.below Hb1.out (Nat.le_refl _)) hl').mono ?_
  rintro e w2 ⟨rfl, hb2, hr2⟩
  have Hr1b := Lib.hid (Hr1.out.below hb2 (Nat.le_refl _))
  have Hb2 := Lib.hid (below_then Hb1.out 0 hb2 Hs1.out); have Gr2 := Lib.hid hr2; have Hs2 := Lib.hid (Nat.le_trans Hs1.out hb2.size); clear hb2 hr2
  go_wp2_with (first | (go_at_call 21; go_in) | (go_at_call 39; go_in) | go_back)
  refine (toF_at a cap xs _ X0 (H0.out.below Hb2.out (Nat.le_refl _)) hl).mono ?_
  rintro e w3 ⟨rfl, hb3, hr3⟩
  have Hb3 := Lib.hid (below_then Hb2.out 0 hb3 Hs2.out); have Hr3 := Lib.hid hr3; have Hs3 := Lib.hid (Nat.le_trans Hs2.out hb3.size); clear hb3 hr3
  go_wp2_with fail
  refine (toF_at a' cap' ys _ Y0 (G0.out.below Hb3.out (Nat.le_refl _)) hl').mono ?_
  rintro e w4 ⟨rfl, hb4, hr4⟩
  have Hr4 := Lib.hid (Hr3.out.below hb4 (Nat.le_refl _))
  have Hb4 := Lib.hid (below_then Hb3.out 0 hb4 Hs3.out); have Gr4 := Lib.hid hr4; have Hs4 := Lib.hid (Nat.le_trans Hs3.out hb4.size); clear hb4 hr4
  go_wp2_with (first | (go_at_call 22; go_in) | go_back | (refine wpList_cvt rfl _ _ _ rfl .f32 .f64 _ rfl (by kernel_rfl) Try.underlying25 (widen_ok _) ?_; intro z n hz))
  refine (sameFloat_true (cvt .f32 0 .f64) _ _ (by assumption) (by assumption) _).mono ?_
  rintro e w' ⟨rfl, n3, rfl⟩
  go_wp2_with fail
  refine (toF_at a cap xs _ X0 ((H0.out.below Hb4.out (Nat.le_refl _)).drewN _) hl).mono ?_
  rintro e w5 ⟨rfl, hb5, hr5⟩
  have Hr4b := Lib.hid ((Hr4.out.drewN _).below hb5 (Nat.le_refl _))
  have Gr4b := Lib.hid ((Gr4.out.drewN _).below hb5 (Nat.le_refl _))
  have Hb5 := Lib.hid (below_then Hb4.out _ hb5 Hs4.out); have Hr5 := Lib.hid hr5; have Hs5 := Lib.hid (Nat.le_trans Hs4.out hb5.size); clear hb5 hr5
  go_wp2_with fail
  refine (eqF_at _ _ _ _ xs _ X0 Hr4b.out Hr5.out hl).mono ?_
  rintro e w' ⟨rfl, n4, rfl⟩
  go_wp2_with fail
  refine (toF_at a' cap' ys _ Y0 ((G0.out.below Hb5.out (Nat.le_refl _)).drewN _) hl').mono ?_
  rintro e w6 ⟨rfl, hb6, hr6⟩
  have Gr4c := Lib.hid ((Gr4b.out.drewN _).below hb6 (Nat.le_refl _))
  have Hb6 := Lib.hid (below_then Hb5.out _ hb6 Hs5.out); have Gr6 := Lib.hid hr6; clear hb6 hr6
  go_wp2_with fail
  refine (eqF_at _ _ _ _ ys _ Y0 Gr4c.out Gr6.out hl').mono ?_
  rintro e w' ⟨rfl, n5, rfl⟩
  go_wp2_with fail
  go_ret
  exact ⟨rfl, below_drewN Hb6.out _⟩

set_option maxHeartbeats 2000000 in
theorem dotLaw_other (a a' : Option Addr) (len len' cap cap' : Nat) (xs ys : List Nat) (w : World) (X0 : Hid (xs.length = len)) (Y0 : Hid (ys.length = len')) (H0 : Hid (RowF .f32 w a xs)) (G0 : Hid (RowF .f32 w a' ys)) (hl : len ≤ 1048576) (hl' : len' ≤ 1048576) (h1 : len ≤ 256) (h2 : len ≠ len') :
    Calls Try.prog 7 #[.slice a len cap, .slice a' len' cap'] w fun e w' => e = .returned (.bool true) ∧ Below w.heap.size w w' := by
  have hd : decide ((len : Int) ≤ 256) = true := by simp; omega
  have hd2 : ((len : Int) != (len' : Int)) = true := by rw [bne_iff_ne]; omega
  go_enter Try.func7, Try.ntmps7
  go_wp2_with fail
  refine (toF_at a cap xs _ X0 H0.out hl).mono ?_
  rintro e w1 ⟨rfl, hb1, hr1⟩
  have Hb1 := Lib.hid hb1; have Hr1 := Lib.hid hr1; have Hs1 := Lib.hid hb1.size; clear hb1 hr1
  go_wp2_with fail
  refine (toF_at a' cap' ys _ Y0 (G0.out.below Hb1.out (Nat.le_refl _)) hl').mono ?_
  rintro e w2 ⟨rfl, hb2, hr2⟩
  have Hr1b := Lib.hid (Hr1.out.below hb2 (Nat.le_refl _))
  have Hb2 := Lib.hid (below_then Hb1.out 0 hb2 Hs1.out); have Gr2 := Lib.hid hr2; have Hs2 := Lib.hid (Nat.le_trans Hs1.out hb2.size); clear hb2 hr2
  go_wp2_with (first | (go_at_call 21; go_in) | (go_at_call 39; go_in) | go_back)
  refine (toF_at a cap xs _ X0 (H0.out.below Hb2.out (Nat.le_refl _)) hl).mono ?_
  rintro e w3 ⟨rfl, hb3, hr3⟩
  have Hb3 := Lib.hid (below_then Hb2.out 0 hb3 Hs2.out); have Hr3 := Lib.hid hr3; have Hs3 := Lib.hid (Nat.le_trans Hs2.out hb3.size); clear hb3 hr3
  go_wp2_with fail
  refine (toF_at a' cap' ys _ Y0 (G0.out.below Hb3.out (Nat.le_refl _)) hl').mono ?_
  rintro e w4 ⟨rfl, hb4, hr4⟩
  have Hr4 := Lib.hid (Hr3.out.below hb4 (Nat.le_refl _))
  have Hb4 := Lib.hid (below_then Hb3.out 0 hb4 Hs3.out); have Gr4 := Lib.hid hr4; have Hs4 := Lib.hid (Nat.le_trans Hs3.out hb4.size); clear hb4 hr4
  go_wp2_with (first | (go_at_call 22; go_in) | go_back | (refine wpList_cvt rfl _ _ _ rfl .f32 .f64 _ rfl (by kernel_rfl) Try.underlying25 (widen_ok _) ?_; intro z n hz))
  refine (sameFloat_true (cvt .f32 0 .f64) _ _ (by assumption) (by assumption) _).mono ?_
  rintro e w' ⟨rfl, n3, rfl⟩
  go_wp2_with fail
  refine (toF_at a cap xs _ X0 ((H0.out.below Hb4.out (Nat.le_refl _)).drewN _) hl).mono ?_
  rintro e w5 ⟨rfl, hb5, hr5⟩
  have Hr4b := Lib.hid ((Hr4.out.drewN _).below hb5 (Nat.le_refl _))
  have Gr4b := Lib.hid ((Gr4.out.drewN _).below hb5 (Nat.le_refl _))
  have Hb5 := Lib.hid (below_then Hb4.out _ hb5 Hs4.out); have Hr5 := Lib.hid hr5; have Hs5 := Lib.hid (Nat.le_trans Hs4.out hb5.size); clear hb5 hr5
  go_wp2_with fail
  refine (eqF_at _ _ _ _ xs _ X0 Hr4b.out Hr5.out hl).mono ?_
  rintro e w' ⟨rfl, n4, rfl⟩
  go_wp2_with fail
  refine (toF_at a' cap' ys _ Y0 ((G0.out.below Hb5.out (Nat.le_refl _)).drewN _) hl').mono ?_
  rintro e w6 ⟨rfl, hb6, hr6⟩
  have Gr4c := Lib.hid ((Gr4b.out.drewN _).below hb6 (Nat.le_refl _))
  have Hb6 := Lib.hid (below_then Hb5.out _ hb6 Hs5.out); have Gr6 := Lib.hid hr6; clear hb6 hr6
  go_wp2_with fail
  refine (eqF_at _ _ _ _ ys _ Y0 Gr4c.out Gr6.out hl').mono ?_
  rintro e w' ⟨rfl, n5, rfl⟩
  go_wp2_with fail
  go_ret
  exact ⟨rfl, below_drewN Hb6.out _⟩

set_option maxHeartbeats 1000000 in
theorem walk_FnExactDotNumbers (a : Option Addr) (len cap : Nat) (xs : List Nat) (a' : Option Addr) (len' cap' : Nat) (ys : List Nat) (w : World) (h : IsRowF .f32 w a len cap xs) (h' : IsRowF .f32 w a' len' cap' ys) :
    Calls Try.prog 7 #[.slice a len cap, .slice a' len' cap'] w fun e w' => e = .returned (.bool true) ∧ Below w.heap.size w w' := by
  obtain ⟨X0, hcap, hmax, hr, _⟩ := h
  obtain ⟨Y0, hcap', hmax', hr', _⟩ := h'
  by_cases hl : len ≤ 1048576
  · by_cases hl' : len' ≤ 1048576
    · by_cases h1 : len ≤ 256
      · by_cases h2 : len = len'
        · subst h2
          exact dotLaw_few a a' len cap cap' xs ys w X0 Y0 hr hr' h1
        · exact dotLaw_other a a' len len' cap cap' xs ys w X0 Y0 hr hr' hl hl' h1 h2
      · by_cases h2 : len = len'
        · exact dotLaw_longe a a' len len' cap cap' xs ys w X0 Y0 hr hr' hl hl' (by omega) h2
        · exact dotLaw_long a a' len len' cap cap' xs ys w X0 Y0 hr hr' hl hl' (by omega) h2
    · unfold maxLen at hmax hmax'
      clear hr hr' X0 Y0
      go_enter Try.func7, Try.ntmps7
      go_wp2_with (first | go_in | go_back)
      all_goals go_ret
      all_goals exact ⟨rfl, Below.refl _ _⟩
  · unfold maxLen at hmax hmax'
    clear hr hr' X0 Y0
    go_enter Try.func7, Try.ntmps7
    go_wp2_with (first | go_in | go_back)
    all_goals go_ret
    all_goals exact ⟨rfl, Below.refl _ _⟩
end Go.Proofs.Ytpaldmhlcgdmkad
