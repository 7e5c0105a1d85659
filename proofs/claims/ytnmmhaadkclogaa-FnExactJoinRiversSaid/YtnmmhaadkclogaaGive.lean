/- A river, if it is valid. -/
import Derived.Test.YtnmmhaadkclogaaOwnS
import Derived.Test.YtnmmhaadkclogaaRivS
import Derived.Test.YtnmmhaadkclogaaValRI
namespace Go.Proofs.Ytnmmhaadkclogaa
open Go.RowKit
set_option linter.unusedVariables false
set_option linter.unusedSimpArgs false
set_option maxRecDepth 100000
attribute [local irreducible] wpV wpList Code.wp

set_option maxHeartbeats 4000000 in
theorem give_yes (a0 a1 a2 : Option Addr) (l0 n l2 c0 c1 c2 : Nat) (D M V : List Int) (w : World) (h0 : RowC w a0 (ic D)) (h1 : RowC w a1 (ic M)) (h2 : RowC w a2 (ic V)) (hD : D.length = l0) (hM : M.length = n * 4) (hV : V.length = l2) (hl : l0 ≤ 1048576 ∧ n ≤ 1048576 ∧ l2 ≤ 1048576) (hv : rivB D M V n = true) :
    Calls Try.prog 63 #[.agg #[.slice a0 l0 c0, .slice a1 n c1, .slice a2 l2 c2]] w fun e w' => e = .returned (.tuple #[.agg #[.slice a0 l0 c0, .slice a1 n c1, .slice a2 l2 c2], .bool true]) ∧ Below w.heap.size w w' := by
  have hbl : Below w.heap.size w ((w.alloc (.cells #[.slice a0 l0 c0, .slice a1 n c1, .slice a2 l2 c2] 30)).alloc (.cells #[.slice none 0 0, .slice none 0 0, .slice none 0 0] 30)) := below2 w _ _
  have hbx : Bx ((w.alloc (.cells #[.slice a0 l0 c0, .slice a1 n c1, .slice a2 l2 c2] 30)).alloc (.cells #[.slice none 0 0, .slice none 0 0, .slice none 0 0] 30)) w.heap.size [.slice a0 l0 c0, .slice a1 n c1, .slice a2 l2 c2] := (Bx.new w [.slice a0 l0 c0, .slice a1 n c1, .slice a2 l2 c2] 30).alloc _
  have hbp : Bw ((w.alloc (.cells #[.slice a0 l0 c0, .slice a1 n c1, .slice a2 l2 c2] 30)).alloc (.cells #[.slice none 0 0, .slice none 0 0, .slice none 0 0] 30)) (w.heap.size + 1) [.slice none 0 0, .slice none 0 0, .slice none 0 0] := Bw.new1G w _ [.slice none 0 0, .slice none 0 0, .slice none 0 0] _
  have HC := Lib.hid (l06Is_any w.heap.size a0 a1 a2 l0 n l2 c0 c1 c2 D M V ((w.alloc (.cells #[.slice a0 l0 c0, .slice a1 n c1, .slice a2 l2 c2] 30)).alloc (.cells #[.slice none 0 0, .slice none 0 0, .slice none 0 0] 30)) hbx (h0.below hbl (Nat.le_refl _)) (h1.below hbl (Nat.le_refl _)) (h2.below hbl (Nat.le_refl _)) hD hM hV hl)
  have HX := Lib.hid hbx
  have HP := Lib.hid hbp
  have HL0 := Lib.hid hbl
  rw [hv] at HC
  clear h0 h1 h2 hD hM hV hl hbl hbx hbp hv
  go_enter Try.func63, Try.ntmps63
  go_wp2_with fail
  refine HC.out.mono ?_
  rintro e w1 ⟨rfl, m, hw1⟩
  have HB1 : Hid (Below w.heap.size w w1) := Lib.hid (by rw [hw1]; exact below_drewN HL0.out _)
  have hbd : Below (w.heap.size + 2) ((w.alloc (.cells #[.slice a0 l0 c0, .slice a1 n c1, .slice a2 l2 c2] 30)).alloc (.cells #[.slice none 0 0, .slice none 0 0, .slice none 0 0] 30)) w1 := by rw [hw1]; exact below_drewN (Below.refl _ _) _
  clear hw1
  have hx := HX.out.below hbd (by omega)
  have hp := HP.out.below hbd (by omega)
  have x0 := hx.c 0 rfl
  have x1 := hx.c 1 rfl
  have x2 := hx.c 2 rfl
  have q0 := hp.c 0 rfl
  have q1 := hp.c 1 rfl
  have q2 := hp.c 2 rfl
  have f0 := hp.f 0 (by simp)
  have f1 := hp.f 1 (by simp)
  have f2 := hp.f 2 (by simp)
  clear hx hp hbd HC HX HP HL0
  go_wp2_with fail
  exact bodyPost_ret (v := .tuple #[.agg #[.slice a0 l0 c0, .slice a1 n c1, .slice a2 l2 c2], .bool true]) (by first | (simp [results, Try.results63, go_sem, *]; done) | (simp (maxDischargeDepth := 12) [results, Try.results63, go_sem, *]; done) | (simp (maxDischargeDepth := 12) [results, Try.results63, go_sem, *]; rfl)) rfl ⟨rfl, (((HB1.out.setCell (by show w.heap.size ≤ w.heap.size + 1; omega) _).setCell (by show w.heap.size ≤ w.heap.size + 1; omega) _).setCell (by show w.heap.size ≤ w.heap.size + 1; omega) _)⟩

set_option maxHeartbeats 4000000 in
theorem give_no (a0 a1 a2 : Option Addr) (l0 n l2 c0 c1 c2 : Nat) (D M V : List Int) (w : World) (h0 : RowC w a0 (ic D)) (h1 : RowC w a1 (ic M)) (h2 : RowC w a2 (ic V)) (hD : D.length = l0) (hM : M.length = n * 4) (hV : V.length = l2) (hl : l0 ≤ 1048576 ∧ n ≤ 1048576 ∧ l2 ≤ 1048576) (hv : rivB D M V n = false) :
    Calls Try.prog 63 #[.agg #[.slice a0 l0 c0, .slice a1 n c1, .slice a2 l2 c2]] w fun e w' => e = .returned (.tuple #[.agg #[.slice none 0 0, .slice none 0 0, .slice none 0 0], .bool false]) ∧ Below w.heap.size w w' := by
  have hbl : Below w.heap.size w ((w.alloc (.cells #[.slice a0 l0 c0, .slice a1 n c1, .slice a2 l2 c2] 30)).alloc (.cells #[.slice none 0 0, .slice none 0 0, .slice none 0 0] 30)) := below2 w _ _
  have hbx : Bx ((w.alloc (.cells #[.slice a0 l0 c0, .slice a1 n c1, .slice a2 l2 c2] 30)).alloc (.cells #[.slice none 0 0, .slice none 0 0, .slice none 0 0] 30)) w.heap.size [.slice a0 l0 c0, .slice a1 n c1, .slice a2 l2 c2] := (Bx.new w [.slice a0 l0 c0, .slice a1 n c1, .slice a2 l2 c2] 30).alloc _
  have hbp : Bw ((w.alloc (.cells #[.slice a0 l0 c0, .slice a1 n c1, .slice a2 l2 c2] 30)).alloc (.cells #[.slice none 0 0, .slice none 0 0, .slice none 0 0] 30)) (w.heap.size + 1) [.slice none 0 0, .slice none 0 0, .slice none 0 0] := Bw.new1G w _ [.slice none 0 0, .slice none 0 0, .slice none 0 0] _
  have HC := Lib.hid (l06Is_any w.heap.size a0 a1 a2 l0 n l2 c0 c1 c2 D M V ((w.alloc (.cells #[.slice a0 l0 c0, .slice a1 n c1, .slice a2 l2 c2] 30)).alloc (.cells #[.slice none 0 0, .slice none 0 0, .slice none 0 0] 30)) hbx (h0.below hbl (Nat.le_refl _)) (h1.below hbl (Nat.le_refl _)) (h2.below hbl (Nat.le_refl _)) hD hM hV hl)
  have HX := Lib.hid hbx
  have HP := Lib.hid hbp
  have HL0 := Lib.hid hbl
  rw [hv] at HC
  clear h0 h1 h2 hD hM hV hl hbl hbx hbp hv
  go_enter Try.func63, Try.ntmps63
  go_wp2_with fail
  refine HC.out.mono ?_
  rintro e w1 ⟨rfl, m, hw1⟩
  have HB1 : Hid (Below w.heap.size w w1) := Lib.hid (by rw [hw1]; exact below_drewN HL0.out _)
  have hbd : Below (w.heap.size + 2) ((w.alloc (.cells #[.slice a0 l0 c0, .slice a1 n c1, .slice a2 l2 c2] 30)).alloc (.cells #[.slice none 0 0, .slice none 0 0, .slice none 0 0] 30)) w1 := by rw [hw1]; exact below_drewN (Below.refl _ _) _
  clear hw1
  have hx := HX.out.below hbd (by omega)
  have hp := HP.out.below hbd (by omega)
  have x0 := hx.c 0 rfl
  have x1 := hx.c 1 rfl
  have x2 := hx.c 2 rfl
  have q0 := hp.c 0 rfl
  have q1 := hp.c 1 rfl
  have q2 := hp.c 2 rfl
  have f0 := hp.f 0 (by simp)
  have f1 := hp.f 1 (by simp)
  have f2 := hp.f 2 (by simp)
  clear hx hp hbd HC HX HP HL0
  go_wp2_with fail
  exact bodyPost_ret (v := .tuple #[.agg #[.slice none 0 0, .slice none 0 0, .slice none 0 0], .bool false]) (by first | (simp [results, Try.results63, go_sem, *]; done) | (simp (maxDischargeDepth := 12) [results, Try.results63, go_sem, *]; done) | (simp (maxDischargeDepth := 12) [results, Try.results63, go_sem, *]; rfl)) rfl ⟨rfl, (((HB1.out.setCell (by show w.heap.size ≤ w.heap.size + 1; omega) _).setCell (by show w.heap.size ≤ w.heap.size + 1; omega) _).setCell (by show w.heap.size ≤ w.heap.size + 1; omega) _)⟩

set_option maxHeartbeats 4000000 in
theorem made_yes (a0 a1 a2 : Option Addr) (l0 n l2 c0 c1 c2 : Nat) (D M V : List Int) (w : World) (h0 : RowC w a0 (ic D)) (h1 : RowC w a1 (ic M)) (h2 : RowC w a2 (ic V)) (hD : D.length = l0) (hM : M.length = n * 4) (hV : V.length = l2) (hl : l0 ≤ 1048576 ∧ n ≤ 1048576 ∧ l2 ≤ 1048576) (hv : rivB D M V n = true) :
    Calls Try.prog 66 #[.agg #[.slice a0 l0 c0, .slice a1 n c1, .slice a2 l2 c2]] w fun e w' => e = .returned (.tuple #[.agg #[.slice a0 l0 c0, .slice a1 n c1, .slice a2 l2 c2], .bool true]) ∧ Below w.heap.size w w' := by
  have hbl : Below w.heap.size w ((w.alloc (.cells #[.slice a0 l0 c0, .slice a1 n c1, .slice a2 l2 c2] 30)).alloc (.cells #[.slice none 0 0, .slice none 0 0, .slice none 0 0] 30)) := below2 w _ _
  have hbx : Bx ((w.alloc (.cells #[.slice a0 l0 c0, .slice a1 n c1, .slice a2 l2 c2] 30)).alloc (.cells #[.slice none 0 0, .slice none 0 0, .slice none 0 0] 30)) w.heap.size [.slice a0 l0 c0, .slice a1 n c1, .slice a2 l2 c2] := (Bx.new w [.slice a0 l0 c0, .slice a1 n c1, .slice a2 l2 c2] 30).alloc _
  have hbp : Bw ((w.alloc (.cells #[.slice a0 l0 c0, .slice a1 n c1, .slice a2 l2 c2] 30)).alloc (.cells #[.slice none 0 0, .slice none 0 0, .slice none 0 0] 30)) (w.heap.size + 1) [.slice none 0 0, .slice none 0 0, .slice none 0 0] := Bw.new1G w _ [.slice none 0 0, .slice none 0 0, .slice none 0 0] _
  have HC := Lib.hid (validRiver_i a0 a1 a2 l0 n l2 c0 c1 c2 D M V ((w.alloc (.cells #[.slice a0 l0 c0, .slice a1 n c1, .slice a2 l2 c2] 30)).alloc (.cells #[.slice none 0 0, .slice none 0 0, .slice none 0 0] 30)) (h0.below hbl (Nat.le_refl _)) (h1.below hbl (Nat.le_refl _)) (h2.below hbl (Nat.le_refl _)) hD hM hV hl)
  have HX := Lib.hid hbx
  have HP := Lib.hid hbp
  have HL0 := Lib.hid hbl
  rw [hv] at HC
  clear h0 h1 h2 hD hM hV hl hbl hbx hbp hv
  go_enter Try.func66, Try.ntmps66
  go_wp2_with fail
  refine HC.out.mono ?_
  rintro e w1 ⟨b9, hb9, rfl, hb⟩
  subst hb9
  have HB1 : Hid (Below w.heap.size w w1) := Lib.hid (HL0.out.trans (hb.mono (by first | (simp; done) | (simp; omega))))
  have hbd : Below (w.heap.size + 2) ((w.alloc (.cells #[.slice a0 l0 c0, .slice a1 n c1, .slice a2 l2 c2] 30)).alloc (.cells #[.slice none 0 0, .slice none 0 0, .slice none 0 0] 30)) w1 := hb.mono (by first | (simp; done) | (simp; omega))
  clear hb
  have hx := HX.out.below hbd (by omega)
  have hp := HP.out.below hbd (by omega)
  have x0 := hx.c 0 rfl
  have x1 := hx.c 1 rfl
  have x2 := hx.c 2 rfl
  have q0 := hp.c 0 rfl
  have q1 := hp.c 1 rfl
  have q2 := hp.c 2 rfl
  have f0 := hp.f 0 (by simp)
  have f1 := hp.f 1 (by simp)
  have f2 := hp.f 2 (by simp)
  clear hx hp hbd HC HX HP HL0
  go_wp2_with fail
  exact bodyPost_ret (v := .tuple #[.agg #[.slice a0 l0 c0, .slice a1 n c1, .slice a2 l2 c2], .bool true]) (by first | (simp [results, Try.results66, go_sem, *]; done) | (simp (maxDischargeDepth := 12) [results, Try.results66, go_sem, *]; done) | (simp (maxDischargeDepth := 12) [results, Try.results66, go_sem, *]; rfl)) rfl ⟨rfl, (((HB1.out.setCell (by show w.heap.size ≤ w.heap.size + 1; omega) _).setCell (by show w.heap.size ≤ w.heap.size + 1; omega) _).setCell (by show w.heap.size ≤ w.heap.size + 1; omega) _)⟩

set_option maxHeartbeats 4000000 in
theorem made_no (a0 a1 a2 : Option Addr) (l0 n l2 c0 c1 c2 : Nat) (D M V : List Int) (w : World) (h0 : RowC w a0 (ic D)) (h1 : RowC w a1 (ic M)) (h2 : RowC w a2 (ic V)) (hD : D.length = l0) (hM : M.length = n * 4) (hV : V.length = l2) (hl : l0 ≤ 1048576 ∧ n ≤ 1048576 ∧ l2 ≤ 1048576) (hv : rivB D M V n = false) :
    Calls Try.prog 66 #[.agg #[.slice a0 l0 c0, .slice a1 n c1, .slice a2 l2 c2]] w fun e w' => e = .returned (.tuple #[.agg #[.slice none 0 0, .slice none 0 0, .slice none 0 0], .bool false]) ∧ Below w.heap.size w w' := by
  have hbl : Below w.heap.size w ((w.alloc (.cells #[.slice a0 l0 c0, .slice a1 n c1, .slice a2 l2 c2] 30)).alloc (.cells #[.slice none 0 0, .slice none 0 0, .slice none 0 0] 30)) := below2 w _ _
  have hbx : Bx ((w.alloc (.cells #[.slice a0 l0 c0, .slice a1 n c1, .slice a2 l2 c2] 30)).alloc (.cells #[.slice none 0 0, .slice none 0 0, .slice none 0 0] 30)) w.heap.size [.slice a0 l0 c0, .slice a1 n c1, .slice a2 l2 c2] := (Bx.new w [.slice a0 l0 c0, .slice a1 n c1, .slice a2 l2 c2] 30).alloc _
  have hbp : Bw ((w.alloc (.cells #[.slice a0 l0 c0, .slice a1 n c1, .slice a2 l2 c2] 30)).alloc (.cells #[.slice none 0 0, .slice none 0 0, .slice none 0 0] 30)) (w.heap.size + 1) [.slice none 0 0, .slice none 0 0, .slice none 0 0] := Bw.new1G w _ [.slice none 0 0, .slice none 0 0, .slice none 0 0] _
  have HC := Lib.hid (validRiver_i a0 a1 a2 l0 n l2 c0 c1 c2 D M V ((w.alloc (.cells #[.slice a0 l0 c0, .slice a1 n c1, .slice a2 l2 c2] 30)).alloc (.cells #[.slice none 0 0, .slice none 0 0, .slice none 0 0] 30)) (h0.below hbl (Nat.le_refl _)) (h1.below hbl (Nat.le_refl _)) (h2.below hbl (Nat.le_refl _)) hD hM hV hl)
  have HX := Lib.hid hbx
  have HP := Lib.hid hbp
  have HL0 := Lib.hid hbl
  rw [hv] at HC
  clear h0 h1 h2 hD hM hV hl hbl hbx hbp hv
  go_enter Try.func66, Try.ntmps66
  go_wp2_with fail
  refine HC.out.mono ?_
  rintro e w1 ⟨b9, hb9, rfl, hb⟩
  subst hb9
  have HB1 : Hid (Below w.heap.size w w1) := Lib.hid (HL0.out.trans (hb.mono (by first | (simp; done) | (simp; omega))))
  have hbd : Below (w.heap.size + 2) ((w.alloc (.cells #[.slice a0 l0 c0, .slice a1 n c1, .slice a2 l2 c2] 30)).alloc (.cells #[.slice none 0 0, .slice none 0 0, .slice none 0 0] 30)) w1 := hb.mono (by first | (simp; done) | (simp; omega))
  clear hb
  have hx := HX.out.below hbd (by omega)
  have hp := HP.out.below hbd (by omega)
  have x0 := hx.c 0 rfl
  have x1 := hx.c 1 rfl
  have x2 := hx.c 2 rfl
  have q0 := hp.c 0 rfl
  have q1 := hp.c 1 rfl
  have q2 := hp.c 2 rfl
  have f0 := hp.f 0 (by simp)
  have f1 := hp.f 1 (by simp)
  have f2 := hp.f 2 (by simp)
  clear hx hp hbd HC HX HP HL0
  go_wp2_with fail
  exact bodyPost_ret (v := .tuple #[.agg #[.slice none 0 0, .slice none 0 0, .slice none 0 0], .bool false]) (by first | (simp [results, Try.results66, go_sem, *]; done) | (simp (maxDischargeDepth := 12) [results, Try.results66, go_sem, *]; done) | (simp (maxDischargeDepth := 12) [results, Try.results66, go_sem, *]; rfl)) rfl ⟨rfl, (((HB1.out.setCell (by show w.heap.size ≤ w.heap.size + 1; omega) _).setCell (by show w.heap.size ≤ w.heap.size + 1; omega) _).setCell (by show w.heap.size ≤ w.heap.size + 1; omega) _)⟩

end Go.Proofs.Ytnmmhaadkclogaa
