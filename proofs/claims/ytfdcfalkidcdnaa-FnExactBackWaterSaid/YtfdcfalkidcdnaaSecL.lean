/- Critical depths: the program and its model alike. -/
import Derived.Test.YtfdcfalkidcdnaaSecB
import Derived.Test.YtfdcfalkidcdnaaOnlyV
import Derived.Test.YtfdcfalkidcdnaaHalve
import Derived.Test.YtfdcfalkidcdnaaRowF
namespace Go.Proofs.Ytfdcfalkidcdnaa
open Go.RowKit
set_option linter.unusedVariables false
set_option linter.unusedSimpArgs false
set_option maxRecDepth 100000
attribute [local irreducible] wpV wpList Code.wp

/-- Q is the square of the flow. -/
def critH (A0 A1 A2 A3 Q : Option Nat) (X : Option Nat) : Bool × Bool := (fcmp .gtr .f32 (fop .mul .f32 (some 1092416963) (fop .mul .f32 (fop .mul .f32 (areaS A0 A1 A2 A3 X).1 (areaS A0 A1 A2 A3 X).1) (areaS A0 A1 A2 A3 X).1)) (fop .mul .f32 Q (topS A0 A1 A2 A3 X).1), (areaS A0 A1 A2 A3 X).2 && (topS A0 A1 A2 A3 X).2)
def critR (A0 A1 A2 A3 F : Option Nat) : Option Nat × Option Nat × Bool := halveO (critH A0 A1 A2 A3 (fop .mul .f32 F F)) 40 (some 0) (some 1148846080)
def critO (A0 A1 A2 A3 F : Option Nat) : Option Nat × Bool := if secO A0 A1 A2 A3 && posO F then ((critR A0 A1 A2 A3 F).2.1, (critR A0 A1 A2 A3 F).2.2) else (some 0, false)

set_option maxHeartbeats 8000000 in
theorem crit_j {X : Option Nat} {x : Nat} {A0 A1 A2 A3 : Option Nat} {a0 a1 a2 a3 : Nat} (ba : Nat) {Q0 : Option Nat} {q0 : Nat} (bq : Nat) (w : World) (hBa : Bx w ba [.float .f32 a0, .float .f32 a1, .float .f32 a2, .float .f32 a3]) (hBq : Bx w bq [.float .f32 q0]) (hx : Is32 X x) (ha0 : Is32 A0 a0) (ha1 : Is32 A1 a1) (ha2 : Is32 A2 a2) (ha3 : Is32 A3 a3) (hq0 : Is32 Q0 q0) :
    Calls Try.prog 64 #[.float .f32 x, .pointer (some ⟨ba, 0, none⟩), .pointer (some ⟨bq, 0, none⟩)] w (TwoB (critH A0 A1 A2 A3 Q0 X) w) := by
  have ca0 := hBa.c 0 rfl
  have ca1 := hBa.c 1 rfl
  have ca2 := hBa.c 2 rfl
  have ca3 := hBa.c 3 rfl
  have cq0 := hBq.c 0 rfl
  go_enter Try.func64, Try.ntmps64
  go_wp2_with (first | ((with_reducible refine wpList_bin ?_); refine wpList_f32 rfl _ _ _ _ _ rfl rfl rfl (by decide) (by first | assumption | exact Is32.c (by decide)) (by first | assumption | exact Is32.c (by decide)) ?_; intro z n hz) | ((with_reducible refine wpList_bin ?_); refine wpList_c32 rfl _ _ _ _ _ rfl rfl rfl (by decide) (by first | assumption | exact Is32.c (by decide)) (by first | assumption | exact Is32.c (by decide)) ?_; intro bb hbb; cases bb) | (go_at_call 45; refine (areaAt_i _ (by first | assumption | exact Is32.c (by decide)) (by first | assumption | exact Is32.c (by decide)) (by first | assumption | exact Is32.c (by decide)) (by first | assumption | exact Is32.c (by decide)) (by first | assumption | exact Is32.c (by decide))).mono ?_; rintro e w1 ⟨z, bb, rfl, hbb, hz, hb⟩; have hb1 : Below w.heap.size w w1 := (by first | exact (Below.refl _ _).trans (hb.mono (by first | (simp; done) | (simp; omega) | omega)) | exact (beld (Below.refl _ _) _).trans (hb.mono (by first | (simp; done) | (simp; omega) | omega))); have hs1 : w.heap.size + 0 ≤ w1.heap.size := (by have := hb.size; (try simp at this); omega); have bxa1 : Bx w1 ba [.float .f32 a0, .float .f32 a1, .float .f32 a2, .float .f32 a3] := (by first | exact Bx.below hBa hb (by first | exact hBa.1 | (have := hBa.1; simp; omega) | (have := hBa.1; omega)) | exact Bx.below (Bx.drewN hBa _) hb (by first | exact hBa.1 | (have := hBa.1; simp; omega) | (have := hBa.1; omega))); have bxq1 : Bx w1 bq [.float .f32 q0] := (by first | exact Bx.below hBq hb (by first | exact hBq.1 | (have := hBq.1; simp; omega) | (have := hBq.1; omega)) | exact Bx.below (Bx.drewN hBq _) hb (by first | exact hBq.1 | (have := hBq.1; simp; omega) | (have := hBq.1; omega))); have ca0_1 := bxa1.c 0 rfl; have ca1_1 := bxa1.c 1 rfl; have ca2_1 := bxa1.c 2 rfl; have ca3_1 := bxa1.c 3 rfl; have Bxa1 := Lib.hid bxa1; clear bxa1; have cq0_1 := bxq1.c 0 rfl; have Bxq1 := Lib.hid bxq1; clear bxq1; have Hb1 := Lib.hid hb1; clear hb hb1; cases bb) | (go_at_call 48; refine (topAt_i _ (by first | assumption | exact Is32.c (by decide)) (by first | assumption | exact Is32.c (by decide)) (by first | assumption | exact Is32.c (by decide)) (by first | assumption | exact Is32.c (by decide)) (by first | assumption | exact Is32.c (by decide))).mono ?_; rintro e w2 ⟨z, bb, rfl, hbb, hz, hb⟩; have hb2 : Below w.heap.size w w2 := (by first | exact Hb1.out.trans (hb.mono (by first | (simp; done) | (simp; omega) | omega)) | exact (beld Hb1.out _).trans (hb.mono (by first | (simp; done) | (simp; omega) | omega))); have hs2 : w.heap.size + 0 ≤ w2.heap.size := (by have := hb.size; (try simp at this); omega); have bxa2 : Bx w2 ba [.float .f32 a0, .float .f32 a1, .float .f32 a2, .float .f32 a3] := (by first | exact Bx.below Bxa1.out hb (by first | exact hBa.1 | (have := hBa.1; simp; omega) | (have := hBa.1; omega)) | exact Bx.below (Bx.drewN Bxa1.out _) hb (by first | exact hBa.1 | (have := hBa.1; simp; omega) | (have := hBa.1; omega))); have bxq2 : Bx w2 bq [.float .f32 q0] := (by first | exact Bx.below Bxq1.out hb (by first | exact hBq.1 | (have := hBq.1; simp; omega) | (have := hBq.1; omega)) | exact Bx.below (Bx.drewN Bxq1.out _) hb (by first | exact hBq.1 | (have := hBq.1; simp; omega) | (have := hBq.1; omega))); have ca0_2 := bxa2.c 0 rfl; have ca1_2 := bxa2.c 1 rfl; have ca2_2 := bxa2.c 2 rfl; have ca3_2 := bxa2.c 3 rfl; have Bxa2 := Lib.hid bxa2; clear bxa2; have cq0_2 := bxq2.c 0 rfl; have Bxq2 := Lib.hid bxq2; clear bxq2; have Hb2 := Lib.hid hb2; clear hb hb2; cases bb))
  all_goals go_ret2
  all_goals (refine ⟨_, _, rfl, ?_, ?_, (by first | exact (Below.refl _ _) | exact beld (Below.refl _ _) _ | exact beld (beld (Below.refl _ _) _) _ | exact Hb2.out | exact beld Hb2.out _ | exact beld (beld Hb2.out _) _ | exact Hb1.out | exact beld Hb1.out _ | exact beld (beld Hb1.out _) _ | exact Below.alloc (by first | exact (Below.refl _ _) | exact beld (Below.refl _ _) _) (by first | (simp; done) | (simp; omega) | omega) _ | exact beld (Below.alloc (by first | exact (Below.refl _ _) | exact beld (Below.refl _ _) _) (by first | (simp; done) | (simp; omega) | omega) _) _ | exact Below.alloc (by first | exact Hb2.out | exact beld Hb2.out _) (by first | (simp; done) | (simp; omega) | omega) _ | exact beld (Below.alloc (by first | exact Hb2.out | exact beld Hb2.out _) (by first | (simp; done) | (simp; omega) | omega) _) _ | exact Below.alloc (by first | exact Hb1.out | exact beld Hb1.out _) (by first | (simp; done) | (simp; omega) | omega) _ | exact beld (Below.alloc (by first | exact Hb1.out | exact beld Hb1.out _) (by first | (simp; done) | (simp; omega) | omega) _) _)⟩; (first | (unfold critH; dsimp only; assumption) | (simp [critH, *]; done)); first | (unfold critH; dsimp only; simp only [*, Bool.and_self, Bool.and_true, Bool.and_false, Bool.true_and, Bool.false_and]; done) | (simp [critH, *]; done))

theorem critJudge {A0 A1 A2 A3 Q : Option Nat} {a0 a1 a2 a3 q : Nat} (ha0 : Is32 A0 a0) (ha1 : Is32 A1 a1) (ha2 : Is32 A2 a2) (ha3 : Is32 A3 a3) (hq : Is32 Q q) (bs bf : Nat) :
    Judges 64 #[.pointer (some ⟨bs, 0, none⟩), .pointer (some ⟨bf, 0, none⟩)] (critH A0 A1 A2 A3 Q) (fun W => Bx W bs [.float .f32 a0, .float .f32 a1, .float .f32 a2, .float .f32 a3] ∧ Bx W bf [.float .f32 q]) where
  keep := fun W n h => ⟨h.1.drewN n, h.2.drewN n⟩
  call := fun X x W hx h => (crit_j bs bf W h.1 h.2 hx ha0 ha1 ha2 ha3 hq).mono fun e W' ⟨b, c, h1, h2, h3, h4⟩ => ⟨b, c, h1, h3, fun _ => h2, h4, h.1.below h4 h.1.1, h.2.below h4 h.2.1⟩

theorem at_f32k {P : Program} {w : World} (G : Result Value → Prop) (op : BinOp) (t : TypeId) {X Y : Option Nat} {x y : Nat} (h4 : op = .add ∨ op = .sub ∨ op = .mul ∨ op = .quo) (hx : Is32 X x) (hy : Is32 Y y)
    (h : ∀ z n, Is32 (fop op .f32 X Y) z → G (.ok (.float .f32 z) (w.drewN n))) : G ((binOp op t (.float .f32 x) (.float .f32 y)).run P w) := by
  obtain ⟨r, n, hr, hz⟩ := run_fl (P := P) w op h4 t .f32 x y
  rw [hr]
  exact h r n ⟨Rp.fop hx.1 hy.1 hz, fl32_lt h4 hz⟩
theorem newCell (w : World) (n z : Nat) (t : TypeId) : ((w.drewN n).alloc (.cells #[.float .f32 z] t)).cell? ⟨w.heap.size, 0, none⟩ = some (.float .f32 z) ∧ ((w.drewN n).alloc (.cells #[.float .f32 z] t)).frozen? ⟨w.heap.size, 0, none⟩ = false := by
  have h := Bx.new (w.drewN n) [.float .f32 z] t
  have h2 := (show ∀ W : World, (W.alloc (.cells #[.float .f32 z] t)).frozen? ⟨W.heap.size, 0, none⟩ = false from fun W => by simp [go_sem]) (w.drewN n)
  exact ⟨h.c 0 rfl, h2⟩
theorem newBox (w : World) (n y z : Nat) (t : TypeId) : Below w.heap.size w (((w.drewN n).alloc (.cells #[.float .f32 y] t)).setCell ⟨w.heap.size, 0, none⟩ (.float .f32 z)) ∧
    Bx (((w.drewN n).alloc (.cells #[.float .f32 y] t)).setCell ⟨w.heap.size, 0, none⟩ (.float .f32 z)) w.heap.size [.float .f32 z] := by
  have hs : (w.drewN n).heap.size = w.heap.size := rfl
  have h1 : Below w.heap.size w ((w.drewN n).alloc (.cells #[.float .f32 y] t)) := (beld (Below.refl _ _) n).alloc (Nat.le_refl _) _
  refine ⟨h1.setCell (Nat.le_refl _) _, ?_, fun j v hj => ?_⟩
  · simp
  · rcases j with _ | j
    · simp only [List.getElem?_cons_zero, Option.some.injEq] at hj
      subst hj
      have := (newCell w n y t).1
      simp [go_sem, this]
    · simp at hj

set_option maxHeartbeats 4000000 in
theorem criticalDepth_i {A0 A1 A2 A3 F : Option Nat} {a0 a1 a2 a3 f : Nat} (w : World) (ha0 : Is32 A0 a0) (ha1 : Is32 A1 a1) (ha2 : Is32 A2 a2) (ha3 : Is32 A3 a3) (hf : Is32 F f) : Calls Try.prog 17 #[.agg #[.float .f32 a0, .float .f32 a1, .float .f32 a2, .float .f32 a3], .float .f32 f] w (OnlyB (critO A0 A1 A2 A3 F) w) := by
  unfold critO
  cases hs : secO A0 A1 A2 A3
  all_goals cases hp : posO F
  all_goals have hS := Lib.hid hs
  all_goals have hP := Lib.hid hp
  all_goals clear hs hp
  all_goals go_enter Try.func17, Try.ntmps17
  all_goals go_wp2_with fail
  all_goals refine (validSection_i _ ha0 ha1 ha2 ha3).mono ?_
  all_goals rintro e w1 ⟨bb, hbb, rfl, hb⟩
  all_goals obtain rfl := hbb.symm.trans hS.out
  all_goals clear hbb
  all_goals have hb1 : Below w.heap.size w w1 := (bel1 w _).trans (hb.mono (by simp))
  all_goals have hX1 : Bx w1 w.heap.size [.float .f32 a0, .float .f32 a1, .float .f32 a2, .float .f32 a3] := Bx.below (Bx.new w [_, _, _, _] _) hb (by simp)
  all_goals have HB1 := Lib.hid hb1
  all_goals have HX1 := Lib.hid hX1
  all_goals clear hb hb1 hX1
  · go_wp2_with fail
    go_ret2
    exact ⟨_, _, rfl, rfl, Is32.c (by decide), HB1.out⟩
  · go_wp2_with fail
    go_ret2
    exact ⟨_, _, rfl, rfl, Is32.c (by decide), HB1.out⟩
  · go_wp2_with fail
    refine (isPositive_o _ hf).mono ?_
    rintro e w' ⟨bb, hbb, rfl, rfl⟩
    obtain rfl := hbb.symm.trans hP.out
    clear hbb
    go_wp2_with fail
    go_ret2
    exact ⟨_, _, rfl, rfl, Is32.c (by decide), HB1.out⟩
  · go_wp2_with fail
    refine (isPositive_o _ hf).mono ?_
    rintro e w' ⟨bb, hbb, rfl, rfl⟩
    obtain rfl := hbb.symm.trans hP.out
    clear hbb
    go_wp2_with fail
    refine at_f32k (fun R => Oper.upon _ _ _ _ _ (Result.andThen R _)) _ _ (by decide) hf hf ?_
    intro z n hz
    obtain ⟨k9, f9⟩ := newCell w1 n 0 22
    go_wp2_with fail
    obtain ⟨hw9, hx9⟩ := newBox w1 n 0 z 22
    refine (halve_any _ _ (enters_of Try.func64 (by kernel_rfl) rfl) (critH A0 A1 A2 A3 (fop .mul .f32 F F)) _ _ (Is32.c (by decide)) (Is32.c (by decide)) (critJudge ha0 ha1 ha2 ha3 hz _ _) ⟨HX1.out.below hw9 HX1.out.1, hx9⟩).mono ?_
    rintro e w2 ⟨pp, qq, bb, rfl, hbb, hpp, hqq, hb2⟩
    have HB2 := Lib.hid (HB1.out.trans ((hw9.trans (hb2.mono hw9.size)).mono HB1.out.size))
    clear hw9 hx9 hb2 k9 f9
    go_wp2_with fail
    go_ret2
    exact ⟨_, _, rfl, hbb, hqq, HB2.out⟩

end Go.Proofs.Ytfdcfalkidcdnaa
namespace Go.Proofs.Ytfdcfalkidcdnaa
open Go.RowKit
set_option linter.unusedVariables false
set_option linter.unusedSimpArgs false
set_option maxRecDepth 100000
attribute [local irreducible] wpV wpList Code.wp

set_option maxHeartbeats 4000000 in
theorem l04Critical_o {A0 A1 A2 A3 F : Option Nat} {a0 a1 a2 a3 f : Nat} (ba : Nat) (w : World) (hBa : Bx w ba [.float .f32 a0, .float .f32 a1, .float .f32 a2, .float .f32 a3]) (ha0 : Is32 A0 a0) (ha1 : Is32 A1 a1) (ha2 : Is32 A2 a2) (ha3 : Is32 A3 a3) (hf : Is32 F f) :
    Calls Try.prog 60 #[.pointer (some ⟨ba, 0, none⟩), .float .f32 f] w (OnlyB ((critR A0 A1 A2 A3 F).2.1, (critR A0 A1 A2 A3 F).2.2) w) := by
  obtain ⟨R, hR⟩ : ∃ R, critR A0 A1 A2 A3 F = R := ⟨_, rfl⟩
  rw [hR]
  have HR := Lib.hid (show halveO (critH A0 A1 A2 A3 (fop .mul .f32 F F)) 40 (some 0) (some 1148846080) = R from hR)
  have HX0 := Lib.hid hBa
  clear hR hBa
  go_enter Try.func60, Try.ntmps60
  go_wp2_with fail
  go_loopw [6, 7, 8] (fun lo hi nn wr => ∃ (k : Nat) (X Y : Option Nat) (x y : Nat), k ≤ 40 ∧ lo = .float .f32 x ∧ hi = .float .f32 y ∧ nn = .int .i64 (k : Int) ∧ Is32 X x ∧ Is32 Y y ∧ Hid (halveO (critH A0 A1 A2 A3 (fop .mul .f32 F F)) (40 - k) X Y = R) ∧ Hid (Below w.heap.size w wr) ∧ Hid (Bx wr ba [.float .f32 a0, .float .f32 a1, .float .f32 a2, .float .f32 a3])) (fun _ _ nn _ => 40 - (intOf nn).toNat)
  case atStart => exact ⟨0, _, _, 0, 1148846080, by omega, rfl, rfl, rfl, Is32.c (by decide), Is32.c (by decide), HR, Lib.hid (Below.refl _ _), HX0⟩
  case round =>
    obtain ⟨k, X, Y, x, y, hk, rfl, rfl, rfl, hx, hy, HK, HBk, HX⟩ := hrel
    clear HX0
    have c0 := HX.out.c 0 rfl
    have c1 := HX.out.c 1 rfl
    have c2 := HX.out.c 2 rfl
    have c3 := HX.out.c 3 rfl
    by_cases hlt : k < 40
    · have hlt2 : (k : Int) < 40 := by omega
      go_wp2_with (first | ((with_reducible refine wpList_bin ?_); refine wpList_f32 rfl _ _ _ _ _ rfl rfl rfl (by decide) (by first | assumption | exact Is32.c (by decide)) (by first | assumption | exact Is32.c (by decide)) ?_; intro z n hz))
      have hmid : Is32 (fop .quo .f32 (fop .add .f32 X Y) (some 1073741824)) z := by rw [halfO]; exact hz
      have Hm := Lib.hid hmid
      clear hz
      refine (areaAt_s _ ha0 ha1 ha2 ha3 hmid).mono ?_
      rintro e W1 ⟨z1, b1, rfl, hb1, hz1, hb⟩
      have hB1 : Below w.heap.size w W1 := (by first | exact HBk.out.trans (hb.mono HBk.out.size) | exact (beld HBk.out _).trans (hb.mono (by first | exact HBk.out.size | (simp; exact HBk.out.size))))
      have hX1 : Bx W1 ba [.float .f32 a0, .float .f32 a1, .float .f32 a2, .float .f32 a3] := (by first | exact Bx.below HX.out hb HX.out.1 | exact Bx.below (Bx.drewN HX.out _) hb HX.out.1)
      have HB1 := Lib.hid hB1
      have HX1 := Lib.hid hX1
      clear hB1 hX1 hb
      clear c0 c1 c2 c3
      have c0 := HX1.out.c 0 rfl
      have c1 := HX1.out.c 1 rfl
      have c2 := HX1.out.c 2 rfl
      have c3 := HX1.out.c 3 rfl
      go_wp2_with fail
      refine (topAt_s _ ha0 ha1 ha2 ha3 Hm.out).mono ?_
      rintro e W2 ⟨z2, b2, rfl, hb2, hz2, hb⟩
      have hB2 : Below w.heap.size w W2 := (by first | exact HB1.out.trans (hb.mono HB1.out.size) | exact (beld HB1.out _).trans (hb.mono (by first | exact HB1.out.size | (simp; exact HB1.out.size))))
      have hX2 : Bx W2 ba [.float .f32 a0, .float .f32 a1, .float .f32 a2, .float .f32 a3] := (by first | exact Bx.below HX1.out hb HX1.out.1 | exact Bx.below (Bx.drewN HX1.out _) hb HX1.out.1)
      have HB2 := Lib.hid hB2
      have HX2 := Lib.hid hX2
      clear hB2 hX2 hb
      clear c0 c1 c2 c3
      have e40 : 40 - k = (40 - (k + 1)) + 1 := by omega
      have hk4 : halveO (critH A0 A1 A2 A3 (fop .mul .f32 F F)) ((40 - (k + 1)) + 1) X Y = R := by rw [← e40]; exact HK.out
      have HK4 := Lib.hid hk4
      clear e40 hk4
      have hcc : (critH A0 A1 A2 A3 (fop .mul .f32 F F) (fop .quo .f32 (fop .add .f32 X Y) (some 1073741824))).2 = (b1 && b2) := by rw [← hb1, ← hb2]; rfl
      have HC := Lib.hid hcc
      clear hcc hb1 hb2 hmid
      by_cases hbb : (b1 && b2) = true
      · rw [Bool.and_eq_true] at hbb
        obtain ⟨rfl, rfl⟩ := hbb
        go_wp2_with (first | ((with_reducible refine wpList_bin ?_); refine wpList_f32 rfl _ _ _ _ _ rfl rfl rfl (by decide) (by first | assumption | exact Is32.c (by decide)) (by first | assumption | exact Is32.c (by decide)) ?_; intro z n hz) | ((with_reducible refine wpList_bin ?_); refine wpList_c32 rfl _ _ _ _ _ rfl rfl rfl (by decide) (by first | assumption | exact Is32.c (by decide)) (by first | assumption | exact Is32.c (by decide)) ?_; intro b3 hb3; cases b3))
        · exact ⟨⟨k + 1, _, _, _, _, by omega, rfl, rfl, by go_num, Hm.out, hy, Lib.hid ((halve_lo (H := (critH A0 A1 A2 A3 (fop .mul .f32 F F))) HC.out hb3).symm.trans HK4.out), Lib.hid (by first | exact HB2.out | exact beld HB2.out _), Lib.hid (by first | exact HX2.out | exact Bx.drewN HX2.out _)⟩, by simp [intOf]; omega⟩
        · exact ⟨⟨k + 1, _, _, _, _, by omega, rfl, rfl, by go_num, hx, Hm.out, Lib.hid ((halve_hi (H := (critH A0 A1 A2 A3 (fop .mul .f32 F F))) HC.out hb3).symm.trans HK4.out), Lib.hid (by first | exact HB2.out | exact beld HB2.out _), Lib.hid (by first | exact HX2.out | exact Bx.drewN HX2.out _)⟩, by simp [intOf]; omega⟩
      · have hbf : (b1 && b2) = false := by simpa using hbb
        have hRv : R = (some 0, some 0, false) := HK4.out.symm.trans (halve_no (H := (critH A0 A1 A2 A3 (fop .mul .f32 F F))) (HC.out.trans hbf))
        have HRv := Lib.hid hRv
        clear hRv
        cases b1
        all_goals cases b2
        all_goals first | (exact absurd rfl hbb) | skip
        all_goals clear hbb hbf
        all_goals go_wp2_with fail
        all_goals go_ret2
        all_goals exact ⟨_, _, rfl, by rw [HRv.out], by rw [HRv.out]; exact Is32.c (by decide), HB2.out⟩
    · obtain rfl : k = 40 := by omega
      have h9 := HK.out
      simp only [Nat.sub_self, halveO] at h9
      have H9 := Lib.hid h9
      clear h9
      go_wp2_with fail
      go_ret2
      exact ⟨_, _, rfl, by rw [← H9.out], by rw [← H9.out]; exact hy, HBk.out⟩

set_option maxHeartbeats 8000000 in
theorem criticalDepth_s {A0 A1 A2 A3 : Option Nat} {a0 a1 a2 a3 : Nat} {F : Option Nat} {f : Nat} (w : World)  (ha0 : Is32 A0 a0) (ha1 : Is32 A1 a1) (ha2 : Is32 A2 a2) (ha3 : Is32 A3 a3) (hf : Is32 F f) :
    Calls Try.prog 15 #[.agg #[.float .f32 a0, .float .f32 a1, .float .f32 a2, .float .f32 a3], .float .f32 f] w (OnlyB (critO A0 A1 A2 A3 F) w) := by
  go_enter Try.func15, Try.ntmps15
  go_wp2_with (first | ((with_reducible refine wpList_bin ?_); refine wpList_f32 rfl _ _ _ _ _ rfl rfl rfl (by decide) (by first | assumption | exact Is32.c (by decide)) (by first | assumption | exact Is32.c (by decide)) ?_; intro z n hz) | ((with_reducible refine wpList_bin ?_); refine wpList_c32 rfl _ _ _ _ _ rfl rfl rfl (by decide) (by first | assumption | exact Is32.c (by decide)) (by first | assumption | exact Is32.c (by decide)) ?_; intro bb hbb; cases bb) | (go_at_call 58; refine (l04Is_o _ _ (by first | exact Bx.new _ [_, _, _, _] _ | exact Bx.drewN (Bx.new _ [_, _, _, _] _) _ | assumption) (by first | assumption | exact Is32.c (by decide)) (by first | assumption | exact Is32.c (by decide)) (by first | assumption | exact Is32.c (by decide)) (by first | assumption | exact Is32.c (by decide))).mono ?_; rintro e w' ⟨bb, hbb, rfl, q, rfl⟩; cases bb) | (go_at_call 59; refine (l02Above_o _ (by first | assumption | exact Is32.c (by decide))).mono ?_; rintro e w' ⟨bb, hbb, rfl, q, rfl⟩; cases bb) | (go_at_call 60; refine (l04Critical_o _ _ (by first | exact Bx.new _ [_, _, _, _] _ | exact Bx.drewN (Bx.new _ [_, _, _, _] _) _ | assumption) (by first | assumption | exact Is32.c (by decide)) (by first | assumption | exact Is32.c (by decide)) (by first | assumption | exact Is32.c (by decide)) (by first | assumption | exact Is32.c (by decide)) (by first | assumption | exact Is32.c (by decide))).mono ?_; rintro e w1 ⟨z, bb, rfl, hbb, hz, hb⟩; have hb1 : Below w.heap.size w w1 := (by first | exact (bel1 _ _ ).trans (hb.mono (by first | (simp; done) | (simp; omega) | omega)) | exact (beld (bel1 _ _ ) _).trans (hb.mono (by first | (simp; done) | (simp; omega) | omega))); have hs1 : w.heap.size + 1 ≤ w1.heap.size := (by have := hb.size; (try simp at this); omega); have bxa1 : Bx w1 (w.heap.size) [.float .f32 a0, .float .f32 a1, .float .f32 a2, .float .f32 a3] := (by first | exact Bx.below (Bx.new w [.float .f32 a0, .float .f32 a1, .float .f32 a2, .float .f32 a3] _) hb (by first | (simp; done) | (simp; omega) | omega) | exact Bx.below (Bx.drewN (Bx.new w [.float .f32 a0, .float .f32 a1, .float .f32 a2, .float .f32 a3] _) _) hb (by first | (simp; done) | (simp; omega) | omega)); have ca0 := bxa1.c 0 rfl; have ca1 := bxa1.c 1 rfl; have ca2 := bxa1.c 2 rfl; have ca3 := bxa1.c 3 rfl; have Bxa1 := Lib.hid bxa1; clear bxa1; have Hb1 := Lib.hid hb1; clear hb hb1; cases bb))
  all_goals go_ret2
  all_goals (refine ⟨_, _, rfl, ?_, ?_, (by first | exact (bel1 _ _ ) | exact beld (bel1 _ _ ) _ | exact beld (beld (bel1 _ _ ) _) _ | exact Hb1.out | exact beld Hb1.out _ | exact beld (beld Hb1.out _) _ | exact Below.alloc (by first | exact (bel1 _ _ ) | exact beld (bel1 _ _ ) _) (by first | (simp; done) | (simp; omega) | omega) _ | exact beld (Below.alloc (by first | exact (bel1 _ _ ) | exact beld (bel1 _ _ ) _) (by first | (simp; done) | (simp; omega) | omega) _) _ | exact Below.alloc (by first | exact Hb1.out | exact beld Hb1.out _) (by first | (simp; done) | (simp; omega) | omega) _ | exact beld (Below.alloc (by first | exact Hb1.out | exact beld Hb1.out _) (by first | (simp; done) | (simp; omega) | omega) _) _)⟩; (simp [critO, *]); first | (simp [critO, *]; done) | (simp [critO, *]; exact Is32.c (by decide)) | (simp [critO, *]; assumption))
end Go.Proofs.Ytfdcfalkidcdnaa
