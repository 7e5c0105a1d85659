/- The walk of the law on SumNumbers. -/
import Derived.Test.YtpaldmhlcgdmkadSumF
namespace Go.Proofs.Ytpaldmhlcgdmkad
open Go.RowKit

/-- One step more. -/
theorem below_then {B : Nat} {w w1 w2 : World} (h : Below B w w1) (n : Nat) (h2 : Below (w1.drewN n).heap.size (w1.drewN n) w2) (hB : B ≤ w1.heap.size) : Below B w w2 :=
  (below_drewN h n).trans (h2.mono hB)

set_option maxHeartbeats 1000000 in
theorem sumLaw_few (a : Option Addr) (cap : Nat) (zs : List Nat) (w : World) (hr : RowF .f32 w a zs) (hl : zs.length ≤ 1048576) (hl2 : zs.length ≤ 256) :
    Calls Try.prog 6 #[.slice a zs.length cap] w fun e w' => e = .returned (.bool true) ∧ Below w.heap.size w w' := by
  have H0 := Lib.hid hr
  clear hr
  have hd : decide ((zs.length : Int) ≤ 256) = true := by simp; omega
  go_enter Try.func6, Try.ntmps6
  go_wp2_with fail
  refine (toFloat32S_any a cap zs _ H0.out hl).mono ?_
  rintro e w1 ⟨rfl, hb1, hr1⟩
  have Hb1 := Lib.hid hb1; have Hr1 := Lib.hid hr1; have Hs1 := Lib.hid hb1.size; clear hb1 hr1
  go_wp2_with (first | (go_at_call 17; go_in) | (go_at_call 39; go_in) | go_back)
  refine (l01Sum_any _ _ zs _ Hr1.out hl).mono ?_
  rintro e w' ⟨r1, n1, rfl, rfl, hq1⟩
  have Hq1 := Lib.hid hq1; clear hq1
  go_wp2_with go_back
  refine (toFloat32S_any a cap zs _ ((H0.out.below Hb1.out (Nat.le_refl _)).drewN _) hl).mono ?_
  rintro e w2 ⟨rfl, hb2, hr2⟩
  have Hb2 := Lib.hid (below_then Hb1.out _ hb2 Hs1.out); have Hr2 := Lib.hid hr2; have Hs2 := Lib.hid (Nat.le_trans Hs1.out hb2.size); clear hb2 hr2
  go_wp2_with fail
  refine (sumNumbers_any _ _ zs _ Hr2.out hl2).mono ?_
  rintro e w' ⟨r2, n2, rfl, rfl, hq2⟩
  have Hq2 := Lib.hid hq2; clear hq2
  go_wp2_with (refine wpList_cvt rfl _ _ _ rfl .f32 .f64 _ rfl (by kernel_rfl) Try.underlying25 (widen_ok _) ?_; intro z n hz)
  refine (sameFloat_true (cvtF .f32 .f64 (fsum zs)) _ _ (Rp.cvtF (by decide) Hq2.out (by assumption)) (Rp.cvtF (by decide) Hq1.out (by assumption)) _).mono ?_
  rintro e w' ⟨rfl, n3, rfl⟩
  go_wp2_with fail
  refine (toFloat32S_any a cap zs _ ((H0.out.below Hb2.out (Nat.le_refl _)).drewN _) hl).mono ?_
  rintro e w3 ⟨rfl, hb3, hr3⟩
  have Hb3 := Lib.hid (below_then Hb2.out _ hb3 Hs2.out); have Hr3 := Lib.hid hr3
  have Hr2' := Lib.hid ((Hr2.out.drewN _).below hb3 (Nat.le_refl _))
  clear hb3 hr3
  go_wp2_with fail
  refine (eqFloat32S_any _ _ _ _ zs _ Hr2'.out Hr3.out hl).mono ?_
  rintro e w' ⟨rfl, n4, rfl⟩
  go_wp2_with fail
  go_ret
  exact ⟨rfl, below_drewN Hb3.out _⟩

set_option maxHeartbeats 1000000 in
theorem sumLaw_many (a : Option Addr) (cap : Nat) (zs : List Nat) (w : World) (hr : RowF .f32 w a zs) (hl : zs.length ≤ 1048576) (hl2 : 256 < zs.length) :
    Calls Try.prog 6 #[.slice a zs.length cap] w fun e w' => e = .returned (.bool true) ∧ Below w.heap.size w w' := by
  have H0 := Lib.hid hr
  clear hr
  have hd : decide ((zs.length : Int) ≤ 256) = false := by simp; omega
  go_enter Try.func6, Try.ntmps6
  go_wp2_with fail
  refine (toFloat32S_any a cap zs _ H0.out hl).mono ?_
  rintro e w1 ⟨rfl, hb1, hr1⟩
  have Hb1 := Lib.hid hb1; have Hs1 := Lib.hid hb1.size; clear hb1 hr1
  go_wp2_with (first | (go_at_call 17; go_in) | (go_at_call 39; go_in) | go_back)
  refine (toFloat32S_any a cap zs _ (H0.out.below Hb1.out (Nat.le_refl _)) hl).mono ?_
  rintro e w2 ⟨rfl, hb2, hr2⟩
  have Hb2 := Lib.hid (below_then Hb1.out 0 hb2 Hs1.out); have Hr2 := Lib.hid hr2; have Hs2 := Lib.hid (Nat.le_trans Hs1.out hb2.size); clear hb2 hr2
  go_wp2_with (first | (go_at_call 19; go_in) | go_back | (refine wpList_cvt rfl _ _ _ rfl .f32 .f64 _ rfl (by kernel_rfl) Try.underlying25 (widen_ok _) ?_; intro z n hz))
  refine (sameFloat_true (cvt .f32 0 .f64) _ _ (by assumption) (by assumption) _).mono ?_
  rintro e w' ⟨rfl, n3, rfl⟩
  go_wp2_with fail
  refine (toFloat32S_any a cap zs _ ((H0.out.below Hb2.out (Nat.le_refl _)).drewN _) hl).mono ?_
  rintro e w3 ⟨rfl, hb3, hr3⟩
  have Hb3 := Lib.hid (below_then Hb2.out _ hb3 Hs2.out); have Hr3 := Lib.hid hr3
  have Hr2' := Lib.hid ((Hr2.out.drewN _).below hb3 (Nat.le_refl _))
  clear hb3 hr3
  go_wp2_with fail
  refine (eqFloat32S_any _ _ _ _ zs _ Hr2'.out Hr3.out hl).mono ?_
  rintro e w' ⟨rfl, n4, rfl⟩
  go_wp2_with fail
  go_ret
  exact ⟨rfl, below_drewN Hb3.out _⟩

set_option maxHeartbeats 1000000 in
theorem walk_FnExactSumNumbers (a : Option Addr) (len cap : Nat) (zs : List Nat) (w : World) (h : IsRowF .f32 w a len cap zs) :
    Calls Try.prog 6 #[.slice a len cap] w fun e w' => e = .returned (.bool true) ∧ Below w.heap.size w w' := by
  obtain ⟨rfl, hcap, hmax, hr, _⟩ := h
  by_cases hl : zs.length ≤ 1048576
  · by_cases hl2 : zs.length ≤ 256
    · exact sumLaw_few a cap zs w hr hl hl2
    · exact sumLaw_many a cap zs w hr hl (by omega)
  · unfold maxLen at hmax
    clear hr
    go_enter Try.func6, Try.ntmps6
    go_wp2_with (first | go_in | go_back)
    all_goals go_ret
    all_goals exact ⟨rfl, Below.refl _ _⟩
end Go.Proofs.Ytpaldmhlcgdmkad
