/- A tick of snow: the program and its model. -/
import Derived.Test.YtfdcfalkidcdnabSnowI0
import Derived.Test.YtfdcfalkidcdnabSnowI1
import Derived.Test.YtfdcfalkidcdnabSnowI2
import Derived.Test.YtfdcfalkidcdnabSnowI3
import Derived.Test.YtfdcfalkidcdnabSnowS0
import Derived.Test.YtfdcfalkidcdnabSnowS1
namespace Go.Proofs.Ytfdcfalkidcdnab
open Go.RowKit
set_option linter.unusedVariables false
set_option linter.unusedSimpArgs false
set_option maxRecDepth 100000
attribute [local irreducible] wpV wpList Code.wp

theorem Bx.of4 {w : World} {b : Nat} {v0 v1 v2 v3 : Value} (hb : b < w.heap.size) (h0 : w.cell? ⟨b, 0, none⟩ = some v0) (h1 : w.cell? ⟨b, 1, none⟩ = some v1) (h2 : w.cell? ⟨b, 2, none⟩ = some v2) (h3 : w.cell? ⟨b, 3, none⟩ = some v3) : Bx w b [v0, v1, v2, v3] := by
  refine ⟨hb, fun j v hj => ?_⟩
  rcases j with _ | _ | _ | _ | j
  · cases hj; exact h0
  · cases hj; exact h1
  · cases hj; exact h2
  · cases hj; exact h3
  · simp at hj

set_option maxHeartbeats 4000000 in
theorem snowI_f0 {A0 A1 A2 A3 X V T : Option Nat} {a0 a1 a2 a3 x v t : Nat} (w : World) (h0 : Is32 A0 a0) (h1 : Is32 A1 a1) (h2 : Is32 A2 a2) (h3 : Is32 A3 a3) (hx : Is32 X x) (hv : Is32 V v) (ht : Is32 T t) (hs : snowO A0 A1 A2 A3 = false) : Calls Try.prog 53 #[.agg #[.float .f32 a0, .float .f32 a1, .float .f32 a2, .float .f32 a3], .float .f32 x, .float .f32 v, .float .f32 t] w (SnowB failSnow w) := by
  have H_hs := Lib.hid hs
  clear hs
  go_enter Try.func53, Try.ntmps53
  go_wp2_with fail
  refine (validSnow_i _ h0 h1 h2 h3).mono ?_
  rintro e w1 ⟨bb, hbb, rfl, hb⟩
  obtain rfl := hbb.symm.trans H_hs.out
  clear hbb
  have hb1 : Below w.heap.size w w1 := Below.trans (by repeat (first | with_reducible exact (bel2 _ _ _ ) | with_reducible refine beld ?_ _ | (with_reducible refine Below.alloc ?_ ?_ _; rotate_left; exact (by first | (simp; done) | (simp; omega) | omega)) | (with_reducible refine Below.setCell ?_ ?_ _; rotate_left; exact (by first | (simp; done) | (simp; omega) | omega)))) (hb.mono (by first | (simp; done) | (simp; omega) | omega))
  have hs1 : w.heap.size + 2 ≤ w1.heap.size := (by have := hb.size; (try simp at this); omega)
  have bws : Bw w1 (w.heap.size) [.float .f32 a0, .float .f32 a1, .float .f32 a2, .float .f32 a3] := (by first | exact Bw.below (Bw.of4 (by first | (simp; done) | (simp; omega) | omega) (by first | (simp [go_sem]; done) | (simp (maxDischargeDepth := 8) [go_sem]; done) | (simp [go_sem]; rfl)) (by first | (simp [go_sem]; done) | (simp (maxDischargeDepth := 8) [go_sem]; done) | (simp [go_sem]; rfl)) (by first | (simp [go_sem]; done) | (simp (maxDischargeDepth := 8) [go_sem]; done) | (simp [go_sem]; rfl)) (by first | (simp [go_sem]; done) | (simp (maxDischargeDepth := 8) [go_sem]; done) | (simp [go_sem]; rfl)) (by first | (simp [go_sem]; done) | (simp (maxDischargeDepth := 8) [go_sem]; done) | (simp [go_sem]; rfl)) (by first | (simp [go_sem]; done) | (simp (maxDischargeDepth := 8) [go_sem]; done) | (simp [go_sem]; rfl)) (by first | (simp [go_sem]; done) | (simp (maxDischargeDepth := 8) [go_sem]; done) | (simp [go_sem]; rfl)) (by first | (simp [go_sem]; done) | (simp (maxDischargeDepth := 8) [go_sem]; done) | (simp [go_sem]; rfl))) hb (by first | (simp; done) | (simp; omega) | omega))
  have bwr : Bw w1 (w.heap.size + 1) [.float .f32 0, .float .f32 0, .float .f32 0, .float .f32 0] := (by first | exact Bw.below (Bw.of4 (by first | (simp; done) | (simp; omega) | omega) (by first | (simp [go_sem]; done) | (simp (maxDischargeDepth := 8) [go_sem]; done) | (simp [go_sem]; rfl)) (by first | (simp [go_sem]; done) | (simp (maxDischargeDepth := 8) [go_sem]; done) | (simp [go_sem]; rfl)) (by first | (simp [go_sem]; done) | (simp (maxDischargeDepth := 8) [go_sem]; done) | (simp [go_sem]; rfl)) (by first | (simp [go_sem]; done) | (simp (maxDischargeDepth := 8) [go_sem]; done) | (simp [go_sem]; rfl)) (by first | (simp [go_sem]; done) | (simp (maxDischargeDepth := 8) [go_sem]; done) | (simp [go_sem]; rfl)) (by first | (simp [go_sem]; done) | (simp (maxDischargeDepth := 8) [go_sem]; done) | (simp [go_sem]; rfl)) (by first | (simp [go_sem]; done) | (simp (maxDischargeDepth := 8) [go_sem]; done) | (simp [go_sem]; rfl)) (by first | (simp [go_sem]; done) | (simp (maxDischargeDepth := 8) [go_sem]; done) | (simp [go_sem]; rfl))) hb (by first | (simp; done) | (simp; omega) | omega))
  have cs0 := bws.c 0 rfl
  have fs0 := bws.f 0 (by simp)
  have cs1 := bws.c 1 rfl
  have fs1 := bws.f 1 (by simp)
  have cs2 := bws.c 2 rfl
  have fs2 := bws.f 2 (by simp)
  have cs3 := bws.c 3 rfl
  have fs3 := bws.f 3 (by simp)
  have BWs1 := Lib.hid bws
  clear bws
  have cr0 := bwr.c 0 rfl
  have fr0 := bwr.f 0 (by simp)
  have cr1 := bwr.c 1 rfl
  have fr1 := bwr.f 1 (by simp)
  have cr2 := bwr.c 2 rfl
  have fr2 := bwr.f 2 (by simp)
  have cr3 := bwr.c 3 rfl
  have fr3 := bwr.f 3 (by simp)
  have BWr1 := Lib.hid bwr
  clear bwr
  have Hb1 := Lib.hid hb1
  clear hb hb1
  go_wp2_with fail
  exact bodyPost_ret (v := .tuple #[.agg #[.float .f32 0, .float .f32 0, .float .f32 0, .float .f32 0], .float .f32 0, .bool false]) (by simp [results, Try.results53, go_sem, cs0, fs0, cs1, fs1, cs2, fs2, cs3, fs3, cr0, fr0, cr1, fr1, cr2, fr2, cr3, fr3]) rfl ⟨0, 0, 0, 0, 0, rfl, ⟨(Is32.c (by decide)), (Is32.c (by decide)), (Is32.c (by decide)), (Is32.c (by decide)), (Is32.c (by decide))⟩, (by repeat (first | with_reducible exact Hb1.out | with_reducible refine beld ?_ _ | (with_reducible refine Below.alloc ?_ ?_ _; rotate_left; exact (by first | (simp; done) | (simp; omega) | omega)) | (with_reducible refine Below.setCell ?_ ?_ _; rotate_left; exact (by first | (simp; done) | (simp; omega) | omega))))⟩

set_option maxHeartbeats 4000000 in
theorem snowI_f1 {A0 A1 A2 A3 X V T : Option Nat} {a0 a1 a2 a3 x v t : Nat} (w : World) (h0 : Is32 A0 a0) (h1 : Is32 A1 a1) (h2 : Is32 A2 a2) (h3 : Is32 A3 a3) (hx : Is32 X x) (hv : Is32 V v) (ht : Is32 T t) (hs : snowO A0 A1 A2 A3 = true) (hX : amtO X = false) : Calls Try.prog 53 #[.agg #[.float .f32 a0, .float .f32 a1, .float .f32 a2, .float .f32 a3], .float .f32 x, .float .f32 v, .float .f32 t] w (SnowB failSnow w) := by
  have H_hs := Lib.hid hs
  have H_hX := Lib.hid hX
  clear hs hX
  go_enter Try.func53, Try.ntmps53
  go_wp2_with fail
  refine (validSnow_i _ h0 h1 h2 h3).mono ?_
  rintro e w1 ⟨bb, hbb, rfl, hb⟩
  obtain rfl := hbb.symm.trans H_hs.out
  clear hbb
  have hb1 : Below w.heap.size w w1 := Below.trans (by repeat (first | with_reducible exact (bel2 _ _ _ ) | with_reducible refine beld ?_ _ | (with_reducible refine Below.alloc ?_ ?_ _; rotate_left; exact (by first | (simp; done) | (simp; omega) | omega)) | (with_reducible refine Below.setCell ?_ ?_ _; rotate_left; exact (by first | (simp; done) | (simp; omega) | omega)))) (hb.mono (by first | (simp; done) | (simp; omega) | omega))
  have hs1 : w.heap.size + 2 ≤ w1.heap.size := (by have := hb.size; (try simp at this); omega)
  have bws : Bw w1 (w.heap.size) [.float .f32 a0, .float .f32 a1, .float .f32 a2, .float .f32 a3] := (by first | exact Bw.below (Bw.of4 (by first | (simp; done) | (simp; omega) | omega) (by first | (simp [go_sem]; done) | (simp (maxDischargeDepth := 8) [go_sem]; done) | (simp [go_sem]; rfl)) (by first | (simp [go_sem]; done) | (simp (maxDischargeDepth := 8) [go_sem]; done) | (simp [go_sem]; rfl)) (by first | (simp [go_sem]; done) | (simp (maxDischargeDepth := 8) [go_sem]; done) | (simp [go_sem]; rfl)) (by first | (simp [go_sem]; done) | (simp (maxDischargeDepth := 8) [go_sem]; done) | (simp [go_sem]; rfl)) (by first | (simp [go_sem]; done) | (simp (maxDischargeDepth := 8) [go_sem]; done) | (simp [go_sem]; rfl)) (by first | (simp [go_sem]; done) | (simp (maxDischargeDepth := 8) [go_sem]; done) | (simp [go_sem]; rfl)) (by first | (simp [go_sem]; done) | (simp (maxDischargeDepth := 8) [go_sem]; done) | (simp [go_sem]; rfl)) (by first | (simp [go_sem]; done) | (simp (maxDischargeDepth := 8) [go_sem]; done) | (simp [go_sem]; rfl))) hb (by first | (simp; done) | (simp; omega) | omega))
  have bwr : Bw w1 (w.heap.size + 1) [.float .f32 0, .float .f32 0, .float .f32 0, .float .f32 0] := (by first | exact Bw.below (Bw.of4 (by first | (simp; done) | (simp; omega) | omega) (by first | (simp [go_sem]; done) | (simp (maxDischargeDepth := 8) [go_sem]; done) | (simp [go_sem]; rfl)) (by first | (simp [go_sem]; done) | (simp (maxDischargeDepth := 8) [go_sem]; done) | (simp [go_sem]; rfl)) (by first | (simp [go_sem]; done) | (simp (maxDischargeDepth := 8) [go_sem]; done) | (simp [go_sem]; rfl)) (by first | (simp [go_sem]; done) | (simp (maxDischargeDepth := 8) [go_sem]; done) | (simp [go_sem]; rfl)) (by first | (simp [go_sem]; done) | (simp (maxDischargeDepth := 8) [go_sem]; done) | (simp [go_sem]; rfl)) (by first | (simp [go_sem]; done) | (simp (maxDischargeDepth := 8) [go_sem]; done) | (simp [go_sem]; rfl)) (by first | (simp [go_sem]; done) | (simp (maxDischargeDepth := 8) [go_sem]; done) | (simp [go_sem]; rfl)) (by first | (simp [go_sem]; done) | (simp (maxDischargeDepth := 8) [go_sem]; done) | (simp [go_sem]; rfl))) hb (by first | (simp; done) | (simp; omega) | omega))
  have cs0 := bws.c 0 rfl
  have fs0 := bws.f 0 (by simp)
  have cs1 := bws.c 1 rfl
  have fs1 := bws.f 1 (by simp)
  have cs2 := bws.c 2 rfl
  have fs2 := bws.f 2 (by simp)
  have cs3 := bws.c 3 rfl
  have fs3 := bws.f 3 (by simp)
  have BWs1 := Lib.hid bws
  clear bws
  have cr0 := bwr.c 0 rfl
  have fr0 := bwr.f 0 (by simp)
  have cr1 := bwr.c 1 rfl
  have fr1 := bwr.f 1 (by simp)
  have cr2 := bwr.c 2 rfl
  have fr2 := bwr.f 2 (by simp)
  have cr3 := bwr.c 3 rfl
  have fr3 := bwr.f 3 (by simp)
  have BWr1 := Lib.hid bwr
  clear bwr
  have Hb1 := Lib.hid hb1
  clear hb hb1
  go_wp2_with fail
  refine (isAmount_o _ hx).mono ?_
  rintro e w' ⟨bb, hbb, rfl, rfl⟩
  obtain rfl := hbb.symm.trans H_hX.out
  clear hbb
  go_wp2_with fail
  exact bodyPost_ret (v := .tuple #[.agg #[.float .f32 0, .float .f32 0, .float .f32 0, .float .f32 0], .float .f32 0, .bool false]) (by simp [results, Try.results53, go_sem, cs0, fs0, cs1, fs1, cs2, fs2, cs3, fs3, cr0, fr0, cr1, fr1, cr2, fr2, cr3, fr3]) rfl ⟨0, 0, 0, 0, 0, rfl, ⟨(Is32.c (by decide)), (Is32.c (by decide)), (Is32.c (by decide)), (Is32.c (by decide)), (Is32.c (by decide))⟩, (by repeat (first | with_reducible exact Hb1.out | with_reducible refine beld ?_ _ | (with_reducible refine Below.alloc ?_ ?_ _; rotate_left; exact (by first | (simp; done) | (simp; omega) | omega)) | (with_reducible refine Below.setCell ?_ ?_ _; rotate_left; exact (by first | (simp; done) | (simp; omega) | omega))))⟩

set_option maxHeartbeats 4000000 in
theorem snowI_f2 {A0 A1 A2 A3 X V T : Option Nat} {a0 a1 a2 a3 x v t : Nat} (w : World) (h0 : Is32 A0 a0) (h1 : Is32 A1 a1) (h2 : Is32 A2 a2) (h3 : Is32 A3 a3) (hx : Is32 X x) (hv : Is32 V v) (ht : Is32 T t) (hs : snowO A0 A1 A2 A3 = true) (hX : amtO X = true) (hV : fin32o V = false) : Calls Try.prog 53 #[.agg #[.float .f32 a0, .float .f32 a1, .float .f32 a2, .float .f32 a3], .float .f32 x, .float .f32 v, .float .f32 t] w (SnowB failSnow w) := by
  have H_hs := Lib.hid hs
  have H_hX := Lib.hid hX
  have H_hV := Lib.hid hV
  clear hs hX hV
  go_enter Try.func53, Try.ntmps53
  go_wp2_with fail
  refine (validSnow_i _ h0 h1 h2 h3).mono ?_
  rintro e w1 ⟨bb, hbb, rfl, hb⟩
  obtain rfl := hbb.symm.trans H_hs.out
  clear hbb
  have hb1 : Below w.heap.size w w1 := Below.trans (by repeat (first | with_reducible exact (bel2 _ _ _ ) | with_reducible refine beld ?_ _ | (with_reducible refine Below.alloc ?_ ?_ _; rotate_left; exact (by first | (simp; done) | (simp; omega) | omega)) | (with_reducible refine Below.setCell ?_ ?_ _; rotate_left; exact (by first | (simp; done) | (simp; omega) | omega)))) (hb.mono (by first | (simp; done) | (simp; omega) | omega))
  have hs1 : w.heap.size + 2 ≤ w1.heap.size := (by have := hb.size; (try simp at this); omega)
  have bws : Bw w1 (w.heap.size) [.float .f32 a0, .float .f32 a1, .float .f32 a2, .float .f32 a3] := (by first | exact Bw.below (Bw.of4 (by first | (simp; done) | (simp; omega) | omega) (by first | (simp [go_sem]; done) | (simp (maxDischargeDepth := 8) [go_sem]; done) | (simp [go_sem]; rfl)) (by first | (simp [go_sem]; done) | (simp (maxDischargeDepth := 8) [go_sem]; done) | (simp [go_sem]; rfl)) (by first | (simp [go_sem]; done) | (simp (maxDischargeDepth := 8) [go_sem]; done) | (simp [go_sem]; rfl)) (by first | (simp [go_sem]; done) | (simp (maxDischargeDepth := 8) [go_sem]; done) | (simp [go_sem]; rfl)) (by first | (simp [go_sem]; done) | (simp (maxDischargeDepth := 8) [go_sem]; done) | (simp [go_sem]; rfl)) (by first | (simp [go_sem]; done) | (simp (maxDischargeDepth := 8) [go_sem]; done) | (simp [go_sem]; rfl)) (by first | (simp [go_sem]; done) | (simp (maxDischargeDepth := 8) [go_sem]; done) | (simp [go_sem]; rfl)) (by first | (simp [go_sem]; done) | (simp (maxDischargeDepth := 8) [go_sem]; done) | (simp [go_sem]; rfl))) hb (by first | (simp; done) | (simp; omega) | omega))
  have bwr : Bw w1 (w.heap.size + 1) [.float .f32 0, .float .f32 0, .float .f32 0, .float .f32 0] := (by first | exact Bw.below (Bw.of4 (by first | (simp; done) | (simp; omega) | omega) (by first | (simp [go_sem]; done) | (simp (maxDischargeDepth := 8) [go_sem]; done) | (simp [go_sem]; rfl)) (by first | (simp [go_sem]; done) | (simp (maxDischargeDepth := 8) [go_sem]; done) | (simp [go_sem]; rfl)) (by first | (simp [go_sem]; done) | (simp (maxDischargeDepth := 8) [go_sem]; done) | (simp [go_sem]; rfl)) (by first | (simp [go_sem]; done) | (simp (maxDischargeDepth := 8) [go_sem]; done) | (simp [go_sem]; rfl)) (by first | (simp [go_sem]; done) | (simp (maxDischargeDepth := 8) [go_sem]; done) | (simp [go_sem]; rfl)) (by first | (simp [go_sem]; done) | (simp (maxDischargeDepth := 8) [go_sem]; done) | (simp [go_sem]; rfl)) (by first | (simp [go_sem]; done) | (simp (maxDischargeDepth := 8) [go_sem]; done) | (simp [go_sem]; rfl)) (by first | (simp [go_sem]; done) | (simp (maxDischargeDepth := 8) [go_sem]; done) | (simp [go_sem]; rfl))) hb (by first | (simp; done) | (simp; omega) | omega))
  have cs0 := bws.c 0 rfl
  have fs0 := bws.f 0 (by simp)
  have cs1 := bws.c 1 rfl
  have fs1 := bws.f 1 (by simp)
  have cs2 := bws.c 2 rfl
  have fs2 := bws.f 2 (by simp)
  have cs3 := bws.c 3 rfl
  have fs3 := bws.f 3 (by simp)
  have BWs1 := Lib.hid bws
  clear bws
  have cr0 := bwr.c 0 rfl
  have fr0 := bwr.f 0 (by simp)
  have cr1 := bwr.c 1 rfl
  have fr1 := bwr.f 1 (by simp)
  have cr2 := bwr.c 2 rfl
  have fr2 := bwr.f 2 (by simp)
  have cr3 := bwr.c 3 rfl
  have fr3 := bwr.f 3 (by simp)
  have BWr1 := Lib.hid bwr
  clear bwr
  have Hb1 := Lib.hid hb1
  clear hb hb1
  go_wp2_with fail
  refine (isAmount_o _ hx).mono ?_
  rintro e w' ⟨bb, hbb, rfl, rfl⟩
  obtain rfl := hbb.symm.trans H_hX.out
  clear hbb
  go_wp2_with fail
  refine (isFin_o _ hv).mono ?_
  rintro e w' ⟨bb, hbb, rfl, rfl⟩
  obtain rfl := hbb.symm.trans H_hV.out
  clear hbb
  go_wp2_with fail
  exact bodyPost_ret (v := .tuple #[.agg #[.float .f32 0, .float .f32 0, .float .f32 0, .float .f32 0], .float .f32 0, .bool false]) (by simp [results, Try.results53, go_sem, cs0, fs0, cs1, fs1, cs2, fs2, cs3, fs3, cr0, fr0, cr1, fr1, cr2, fr2, cr3, fr3]) rfl ⟨0, 0, 0, 0, 0, rfl, ⟨(Is32.c (by decide)), (Is32.c (by decide)), (Is32.c (by decide)), (Is32.c (by decide)), (Is32.c (by decide))⟩, (by repeat (first | with_reducible exact Hb1.out | with_reducible refine beld ?_ _ | (with_reducible refine Below.alloc ?_ ?_ _; rotate_left; exact (by first | (simp; done) | (simp; omega) | omega)) | (with_reducible refine Below.setCell ?_ ?_ _; rotate_left; exact (by first | (simp; done) | (simp; omega) | omega))))⟩

set_option maxHeartbeats 4000000 in
theorem snowI_f3 {A0 A1 A2 A3 X V T : Option Nat} {a0 a1 a2 a3 x v t : Nat} (w : World) (h0 : Is32 A0 a0) (h1 : Is32 A1 a1) (h2 : Is32 A2 a2) (h3 : Is32 A3 a3) (hx : Is32 X x) (hv : Is32 V v) (ht : Is32 T t) (hs : snowO A0 A1 A2 A3 = true) (hX : amtO X = true) (hV : fin32o V = true) (hT : posO T = false) : Calls Try.prog 53 #[.agg #[.float .f32 a0, .float .f32 a1, .float .f32 a2, .float .f32 a3], .float .f32 x, .float .f32 v, .float .f32 t] w (SnowB failSnow w) := by
  have H_hs := Lib.hid hs
  have H_hX := Lib.hid hX
  have H_hV := Lib.hid hV
  have H_hT := Lib.hid hT
  clear hs hX hV hT
  go_enter Try.func53, Try.ntmps53
  go_wp2_with fail
  refine (validSnow_i _ h0 h1 h2 h3).mono ?_
  rintro e w1 ⟨bb, hbb, rfl, hb⟩
  obtain rfl := hbb.symm.trans H_hs.out
  clear hbb
  have hb1 : Below w.heap.size w w1 := Below.trans (by repeat (first | with_reducible exact (bel2 _ _ _ ) | with_reducible refine beld ?_ _ | (with_reducible refine Below.alloc ?_ ?_ _; rotate_left; exact (by first | (simp; done) | (simp; omega) | omega)) | (with_reducible refine Below.setCell ?_ ?_ _; rotate_left; exact (by first | (simp; done) | (simp; omega) | omega)))) (hb.mono (by first | (simp; done) | (simp; omega) | omega))
  have hs1 : w.heap.size + 2 ≤ w1.heap.size := (by have := hb.size; (try simp at this); omega)
  have bws : Bw w1 (w.heap.size) [.float .f32 a0, .float .f32 a1, .float .f32 a2, .float .f32 a3] := (by first | exact Bw.below (Bw.of4 (by first | (simp; done) | (simp; omega) | omega) (by first | (simp [go_sem]; done) | (simp (maxDischargeDepth := 8) [go_sem]; done) | (simp [go_sem]; rfl)) (by first | (simp [go_sem]; done) | (simp (maxDischargeDepth := 8) [go_sem]; done) | (simp [go_sem]; rfl)) (by first | (simp [go_sem]; done) | (simp (maxDischargeDepth := 8) [go_sem]; done) | (simp [go_sem]; rfl)) (by first | (simp [go_sem]; done) | (simp (maxDischargeDepth := 8) [go_sem]; done) | (simp [go_sem]; rfl)) (by first | (simp [go_sem]; done) | (simp (maxDischargeDepth := 8) [go_sem]; done) | (simp [go_sem]; rfl)) (by first | (simp [go_sem]; done) | (simp (maxDischargeDepth := 8) [go_sem]; done) | (simp [go_sem]; rfl)) (by first | (simp [go_sem]; done) | (simp (maxDischargeDepth := 8) [go_sem]; done) | (simp [go_sem]; rfl)) (by first | (simp [go_sem]; done) | (simp (maxDischargeDepth := 8) [go_sem]; done) | (simp [go_sem]; rfl))) hb (by first | (simp; done) | (simp; omega) | omega))
  have bwr : Bw w1 (w.heap.size + 1) [.float .f32 0, .float .f32 0, .float .f32 0, .float .f32 0] := (by first | exact Bw.below (Bw.of4 (by first | (simp; done) | (simp; omega) | omega) (by first | (simp [go_sem]; done) | (simp (maxDischargeDepth := 8) [go_sem]; done) | (simp [go_sem]; rfl)) (by first | (simp [go_sem]; done) | (simp (maxDischargeDepth := 8) [go_sem]; done) | (simp [go_sem]; rfl)) (by first | (simp [go_sem]; done) | (simp (maxDischargeDepth := 8) [go_sem]; done) | (simp [go_sem]; rfl)) (by first | (simp [go_sem]; done) | (simp (maxDischargeDepth := 8) [go_sem]; done) | (simp [go_sem]; rfl)) (by first | (simp [go_sem]; done) | (simp (maxDischargeDepth := 8) [go_sem]; done) | (simp [go_sem]; rfl)) (by first | (simp [go_sem]; done) | (simp (maxDischargeDepth := 8) [go_sem]; done) | (simp [go_sem]; rfl)) (by first | (simp [go_sem]; done) | (simp (maxDischargeDepth := 8) [go_sem]; done) | (simp [go_sem]; rfl)) (by first | (simp [go_sem]; done) | (simp (maxDischargeDepth := 8) [go_sem]; done) | (simp [go_sem]; rfl))) hb (by first | (simp; done) | (simp; omega) | omega))
  have cs0 := bws.c 0 rfl
  have fs0 := bws.f 0 (by simp)
  have cs1 := bws.c 1 rfl
  have fs1 := bws.f 1 (by simp)
  have cs2 := bws.c 2 rfl
  have fs2 := bws.f 2 (by simp)
  have cs3 := bws.c 3 rfl
  have fs3 := bws.f 3 (by simp)
  have BWs1 := Lib.hid bws
  clear bws
  have cr0 := bwr.c 0 rfl
  have fr0 := bwr.f 0 (by simp)
  have cr1 := bwr.c 1 rfl
  have fr1 := bwr.f 1 (by simp)
  have cr2 := bwr.c 2 rfl
  have fr2 := bwr.f 2 (by simp)
  have cr3 := bwr.c 3 rfl
  have fr3 := bwr.f 3 (by simp)
  have BWr1 := Lib.hid bwr
  clear bwr
  have Hb1 := Lib.hid hb1
  clear hb hb1
  go_wp2_with fail
  refine (isAmount_o _ hx).mono ?_
  rintro e w' ⟨bb, hbb, rfl, rfl⟩
  obtain rfl := hbb.symm.trans H_hX.out
  clear hbb
  go_wp2_with fail
  refine (isFin_o _ hv).mono ?_
  rintro e w' ⟨bb, hbb, rfl, rfl⟩
  obtain rfl := hbb.symm.trans H_hV.out
  clear hbb
  go_wp2_with fail
  refine (isPositive_o _ ht).mono ?_
  rintro e w' ⟨bb, hbb, rfl, rfl⟩
  obtain rfl := hbb.symm.trans H_hT.out
  clear hbb
  go_wp2_with fail
  exact bodyPost_ret (v := .tuple #[.agg #[.float .f32 0, .float .f32 0, .float .f32 0, .float .f32 0], .float .f32 0, .bool false]) (by simp [results, Try.results53, go_sem, cs0, fs0, cs1, fs1, cs2, fs2, cs3, fs3, cr0, fr0, cr1, fr1, cr2, fr2, cr3, fr3]) rfl ⟨0, 0, 0, 0, 0, rfl, ⟨(Is32.c (by decide)), (Is32.c (by decide)), (Is32.c (by decide)), (Is32.c (by decide)), (Is32.c (by decide))⟩, (by repeat (first | with_reducible exact Hb1.out | with_reducible refine beld ?_ _ | (with_reducible refine Below.alloc ?_ ?_ _; rotate_left; exact (by first | (simp; done) | (simp; omega) | omega)) | (with_reducible refine Below.setCell ?_ ?_ _; rotate_left; exact (by first | (simp; done) | (simp; omega) | omega))))⟩

theorem snowI_yes {A0 A1 A2 A3 X V T : Option Nat} {a0 a1 a2 a3 x v t : Nat} (w : World) (h0 : Is32 A0 a0) (h1 : Is32 A1 a1) (h2 : Is32 A2 a2) (h3 : Is32 A3 a3) (hx : Is32 X x) (hv : Is32 V v) (ht : Is32 T t) (hs : snowO A0 A1 A2 A3 = true) (hX : amtO X = true) (hV : fin32o V = true) (hT : posO T = true) : Calls Try.prog 53 #[.agg #[.float .f32 a0, .float .f32 a1, .float .f32 a2, .float .f32 a3], .float .f32 x, .float .f32 v, .float .f32 t] w (SnowB (snowTry A0 A1 A2 A3 X V T) w) := by
  cases c1 : fcmp .leq .f32 V (some 0) with
  | true =>
    cases c3 : fcmp .gtr .f32 (fop .sub .f32 A3 (fop .mul .f32 A1 (fop .add .f32 A2 X))) (some 0) with
    | false => exact snowI_100 w h0 h1 h2 h3 hx hv ht hs hX hV hT c1 c3
    | true => exact snowI_101 w h0 h1 h2 h3 hx hv ht hs hX hV hT c1 c3
  | false =>
    cases c2 : fcmp .gtr .f32 (fop .mul .f32 (fop .mul .f32 A0 V) T) A2 with
    | false =>
      cases c3 : fcmp .gtr .f32 (fop .sub .f32 (fop .add .f32 A3 (fop .add .f32 (fop .mul .f32 (fop .mul .f32 A0 V) T) X)) (fop .mul .f32 A1 (fop .sub .f32 A2 (fop .mul .f32 (fop .mul .f32 A0 V) T)))) (some 0) with
      | false => exact snowI_000 w h0 h1 h2 h3 hx hv ht hs hX hV hT c1 c2 c3
      | true => exact snowI_001 w h0 h1 h2 h3 hx hv ht hs hX hV hT c1 c2 c3
    | true =>
      cases c3 : fcmp .gtr .f32 (fop .sub .f32 (fop .add .f32 A3 (fop .add .f32 A2 X)) (fop .mul .f32 A1 (fop .sub .f32 A2 A2))) (some 0) with
      | false => exact snowI_010 w h0 h1 h2 h3 hx hv ht hs hX hV hT c1 c2 c3
      | true => exact snowI_011 w h0 h1 h2 h3 hx hv ht hs hX hV hT c1 c2 c3

theorem l03StepSnow_o {A0 A1 A2 A3 X V T : Option Nat} {a0 a1 a2 a3 x v t : Nat} (w : World) (h0 : Is32 A0 a0) (h1 : Is32 A1 a1) (h2 : Is32 A2 a2) (h3 : Is32 A3 a3) (hx : Is32 X x) (hv : Is32 V v) (ht : Is32 T t)  : Calls Try.prog 71 #[.agg #[.float .f32 a0, .float .f32 a1, .float .f32 a2, .float .f32 a3], .float .f32 x, .float .f32 v, .float .f32 t] w (SnowB (snowTry A0 A1 A2 A3 X V T) w) := by
  cases c1 : fcmp .leq .f32 V (some 0) with
  | true =>
    cases c3 : fcmp .gtr .f32 (fop .sub .f32 A3 (fop .mul .f32 A1 (fop .add .f32 A2 X))) (some 0) with
    | false => exact snowS_100 w h0 h1 h2 h3 hx hv ht c1 c3
    | true => exact snowS_101 w h0 h1 h2 h3 hx hv ht c1 c3
  | false =>
    cases c2 : fcmp .gtr .f32 (fop .mul .f32 (fop .mul .f32 A0 V) T) A2 with
    | false =>
      cases c3 : fcmp .gtr .f32 (fop .sub .f32 (fop .add .f32 A3 (fop .add .f32 (fop .mul .f32 (fop .mul .f32 A0 V) T) X)) (fop .mul .f32 A1 (fop .sub .f32 A2 (fop .mul .f32 (fop .mul .f32 A0 V) T)))) (some 0) with
      | false => exact snowS_000 w h0 h1 h2 h3 hx hv ht c1 c2 c3
      | true => exact snowS_001 w h0 h1 h2 h3 hx hv ht c1 c2 c3
    | true =>
      cases c3 : fcmp .gtr .f32 (fop .sub .f32 (fop .add .f32 A3 (fop .add .f32 A2 X)) (fop .mul .f32 A1 (fop .sub .f32 A2 A2))) (some 0) with
      | false => exact snowS_010 w h0 h1 h2 h3 hx hv ht c1 c2 c3
      | true => exact snowS_011 w h0 h1 h2 h3 hx hv ht c1 c2 c3

theorem stepSnow_i {A0 A1 A2 A3 X V T : Option Nat} {a0 a1 a2 a3 x v t : Nat} (w : World) (h0 : Is32 A0 a0) (h1 : Is32 A1 a1) (h2 : Is32 A2 a2) (h3 : Is32 A3 a3) (hx : Is32 X x) (hv : Is32 V v) (ht : Is32 T t) : Calls Try.prog 53 #[.agg #[.float .f32 a0, .float .f32 a1, .float .f32 a2, .float .f32 a3], .float .f32 x, .float .f32 v, .float .f32 t] w (SnowB (snowStep A0 A1 A2 A3 X V T) w) := by
  cases hs : snowO A0 A1 A2 A3
  · rw [show snowStep A0 A1 A2 A3 X V T = failSnow by unfold snowStep; rw [hs]; simp]; exact snowI_f0 w h0 h1 h2 h3 hx hv ht hs
  cases hX : amtO X
  · rw [show snowStep A0 A1 A2 A3 X V T = failSnow by unfold snowStep; rw [hX]; simp]; exact snowI_f1 w h0 h1 h2 h3 hx hv ht hs hX
  cases hV : fin32o V
  · rw [show snowStep A0 A1 A2 A3 X V T = failSnow by unfold snowStep; rw [hV]; simp]; exact snowI_f2 w h0 h1 h2 h3 hx hv ht hs hX hV
  cases hT : posO T
  · rw [show snowStep A0 A1 A2 A3 X V T = failSnow by unfold snowStep; rw [hT]; simp]; exact snowI_f3 w h0 h1 h2 h3 hx hv ht hs hX hV hT
  rw [show snowStep A0 A1 A2 A3 X V T = snowTry A0 A1 A2 A3 X V T by unfold snowStep; rw [hs, hX, hV, hT]; simp]
  exact snowI_yes w h0 h1 h2 h3 hx hv ht hs hX hV hT

end Go.Proofs.Ytfdcfalkidcdnab
