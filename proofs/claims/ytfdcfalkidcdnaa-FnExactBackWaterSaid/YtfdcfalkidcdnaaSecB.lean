/- Sections: middle depths, speeds, heads, pushes: the program and its model alike. -/
import Derived.Test.YtfdcfalkidcdnaaSecA
namespace Go.Proofs.Ytfdcfalkidcdnaa
open Go.RowKit
set_option linter.unusedVariables false
set_option linter.unusedSimpArgs false
set_option maxRecDepth 100000
attribute [local irreducible] wpV wpList Code.wp

/-- Given, or nothing. -/
def passO (b : Bool) (X : Option Nat × Bool) : Option Nat × Bool := if b && X.2 then (X.1, true) else (some 0, false)
def midS (A0 A1 A2 A3 D : Option Nat) : Option Nat × Bool := if canS A0 A1 A2 A3 D && fin32o (areaU A0 A1 D) && fin32o (wetU A0 A1 D) then onlyO (fop .quo .f32 (areaU A0 A1 D) (wetU A0 A1 D)) else (some 0, false)
def midI (A0 A1 A2 A3 D : Option Nat) : Option Nat × Bool := if (areaS A0 A1 A2 A3 D).2 && (wetS A0 A1 A2 A3 D).2 then onlyO (fop .quo .f32 (areaS A0 A1 A2 A3 D).1 (wetS A0 A1 A2 A3 D).1) else (some 0, false)
def midP (A0 A1 D : Option Nat) : Option Nat × Bool := ((onlyO (fop .quo .f32 (areaU A0 A1 D) (wetU A0 A1 D))).1, (onlyO (fop .quo .f32 (areaU A0 A1 D) (wetU A0 A1 D))).2 && fin32o (areaU A0 A1 D) && fin32o (wetU A0 A1 D))
def speedS (A0 A1 A2 A3 D F : Option Nat) : Option Nat × Bool := if canS A0 A1 A2 A3 D && posO F && fin32o (areaU A0 A1 D) then onlyO (fop .quo .f32 F (areaU A0 A1 D)) else (some 0, false)
def speedI (A0 A1 A2 A3 D F : Option Nat) : Option Nat × Bool := if (areaS A0 A1 A2 A3 D).2 && posO F then onlyO (fop .quo .f32 F (areaS A0 A1 A2 A3 D).1) else (some 0, false)
def speedP (A0 A1 D F : Option Nat) : Option Nat × Bool := ((onlyO (fop .quo .f32 F (areaU A0 A1 D))).1, (onlyO (fop .quo .f32 F (areaU A0 A1 D))).2 && fin32o (areaU A0 A1 D))
def bothS (A0 A1 A2 A3 D F : Option Nat) : Bool := canS A0 A1 A2 A3 D && posO F
def headS (A0 A1 A2 A3 D F : Option Nat) : Option Nat × Bool := if (speedS A0 A1 A2 A3 D F).2 then onlyO (fop .add .f32 D (fop .quo .f32 (fop .mul .f32 (speedS A0 A1 A2 A3 D F).1 (speedS A0 A1 A2 A3 D F).1) (some 1100805571))) else (some 0, false)
def headP (A0 A1 D F : Option Nat) : Option Nat × Bool := if (speedP A0 A1 D F).2 then onlyO (fop .add .f32 D (fop .quo .f32 (fop .mul .f32 (speedP A0 A1 D F).1 (speedP A0 A1 D F).1) (some 1100805571))) else (some 0, false)
def headQ (A0 A1 A2 A3 D F : Option Nat) : Option Nat × Bool := if bothS A0 A1 A2 A3 D F then headP A0 A1 D F else (some 0, false)
def pushS (A0 A1 A2 A3 D F : Option Nat) : Option Nat × Bool := if (speedS A0 A1 A2 A3 D F).2 then onlyO (fop .add .f32 (fop .mul .f32 (some 1092416963) (fop .mul .f32 (fop .mul .f32 D D) (fop .add .f32 (fop .quo .f32 A0 (some 1073741824)) (fop .quo .f32 (fop .mul .f32 A1 D) (some 1077936128))))) (fop .mul .f32 F (speedS A0 A1 A2 A3 D F).1)) else (some 0, false)
def pushP (A0 A1 D F : Option Nat) : Option Nat × Bool := if (speedP A0 A1 D F).2 then onlyO (fop .add .f32 (fop .mul .f32 (some 1092416963) (fop .mul .f32 (fop .mul .f32 D D) (fop .add .f32 (fop .quo .f32 A0 (some 1073741824)) (fop .quo .f32 (fop .mul .f32 A1 D) (some 1077936128))))) (fop .mul .f32 F (speedP A0 A1 D F).1)) else (some 0, false)
def pushQ (A0 A1 A2 A3 D F : Option Nat) : Option Nat × Bool := if bothS A0 A1 A2 A3 D F then pushP A0 A1 D F else (some 0, false)
def swiftS (A0 A1 A2 A3 D F : Option Nat) : Option Nat × Bool := if (speedS A0 A1 A2 A3 D F).2 && (areaS A0 A1 A2 A3 D).2 && (topS A0 A1 A2 A3 D).2 then onlyO (fop .quo .f32 (speedS A0 A1 A2 A3 D F).1 (rootO (fop .mul .f32 (some 1092416963) (fop .quo .f32 (areaS A0 A1 A2 A3 D).1 (topS A0 A1 A2 A3 D).1)))) else (some 0, false)
def swiftQ (A0 A1 A2 A3 D F : Option Nat) : Option Nat × Bool := if bothS A0 A1 A2 A3 D F then (if (speedP A0 A1 D F).2 && (topS A0 A1 A2 A3 D).2 then onlyO (fop .quo .f32 (speedP A0 A1 D F).1 (rootO (fop .mul .f32 (some 1092416963) (fop .quo .f32 (areaU A0 A1 D) (topS A0 A1 A2 A3 D).1)))) else (some 0, false)) else (some 0, false)
theorem onlyO_pair (X : Option Nat) : onlyO X = ((onlyO X).1, (onlyO X).2) := rfl
theorem onlyO_no {X : Option Nat} (h : fin32o X = false) : onlyO X = (some 0, false) := by unfold onlyO; rw [h]; rfl
theorem onlyO_yes {X : Option Nat} (h : fin32o X = true) : onlyO X = (X, true) := by unfold onlyO; rw [h]; rfl

theorem midI_eq {A0 A1 A2 A3 D : Option Nat} : midI A0 A1 A2 A3 D = midS A0 A1 A2 A3 D := by
  unfold midI midS areaS wetS
  cases h0 : canS A0 A1 A2 A3 D
  all_goals cases h1 : fin32o (areaU A0 A1 D)
  all_goals cases h2 : fin32o (wetU A0 A1 D)
  all_goals simp [onlyO, *]

theorem midP_eq {A0 A1 A2 A3 D : Option Nat} : passO (canS A0 A1 A2 A3 D) (midP A0 A1 D) = midS A0 A1 A2 A3 D := by
  unfold passO midP midS
  cases h0 : canS A0 A1 A2 A3 D
  all_goals cases h1 : fin32o (areaU A0 A1 D)
  all_goals cases h2 : fin32o (wetU A0 A1 D)
  all_goals cases h3 : fin32o (fop .quo .f32 (areaU A0 A1 D) (wetU A0 A1 D))
  all_goals simp [onlyO, *]

theorem speedI_eq {A0 A1 A2 A3 D F : Option Nat} : speedI A0 A1 A2 A3 D F = speedS A0 A1 A2 A3 D F := by
  unfold speedI speedS areaS
  cases h0 : canS A0 A1 A2 A3 D
  all_goals cases h1 : fin32o (areaU A0 A1 D)
  all_goals cases h2 : posO F
  all_goals simp [onlyO, *]

theorem speedP_eq {A0 A1 A2 A3 D F : Option Nat} : passO (bothS A0 A1 A2 A3 D F) (speedP A0 A1 D F) = speedS A0 A1 A2 A3 D F := by
  unfold passO bothS speedP speedS
  cases h0 : canS A0 A1 A2 A3 D
  all_goals cases h1 : posO F
  all_goals cases h2 : fin32o (areaU A0 A1 D)
  all_goals cases h3 : fin32o (fop .quo .f32 F (areaU A0 A1 D))
  all_goals simp [onlyO, *]

theorem headQ_eq {A0 A1 A2 A3 D F : Option Nat} : headQ A0 A1 A2 A3 D F = headS A0 A1 A2 A3 D F := by
  unfold headQ headP headS bothS speedP speedS
  cases h0 : canS A0 A1 A2 A3 D
  all_goals cases h1 : posO F
  all_goals cases h2 : fin32o (areaU A0 A1 D)
  all_goals cases h3 : fin32o (fop .quo .f32 F (areaU A0 A1 D))
  all_goals simp [onlyO, *]

theorem pushQ_eq {A0 A1 A2 A3 D F : Option Nat} : pushQ A0 A1 A2 A3 D F = pushS A0 A1 A2 A3 D F := by
  unfold pushQ pushP pushS bothS speedP speedS
  cases h0 : canS A0 A1 A2 A3 D
  all_goals cases h1 : posO F
  all_goals cases h2 : fin32o (areaU A0 A1 D)
  all_goals cases h3 : fin32o (fop .quo .f32 F (areaU A0 A1 D))
  all_goals simp [onlyO, *]

theorem swiftQ_eq {A0 A1 A2 A3 D F : Option Nat} : swiftQ A0 A1 A2 A3 D F = swiftS A0 A1 A2 A3 D F := by
  unfold swiftQ swiftS bothS speedP speedS areaS
  cases h0 : canS A0 A1 A2 A3 D
  all_goals cases h1 : posO F
  all_goals cases h2 : fin32o (areaU A0 A1 D)
  all_goals cases h3 : fin32o (fop .quo .f32 F (areaU A0 A1 D))
  all_goals simp [onlyO, *]

set_option maxHeartbeats 8000000 in
theorem middleAt_i0 {A0 A1 A2 A3 : Option Nat} {a0 a1 a2 a3 : Nat} {D : Option Nat} {d : Nat} (w : World)  (ha0 : Is32 A0 a0) (ha1 : Is32 A1 a1) (ha2 : Is32 A2 a2) (ha3 : Is32 A3 a3) (hd : Is32 D d) :
    Calls Try.prog 47 #[.agg #[.float .f32 a0, .float .f32 a1, .float .f32 a2, .float .f32 a3], .float .f32 d] w (OnlyB (midI A0 A1 A2 A3 D) w) := by
  go_enter Try.func47, Try.ntmps47
  go_wp2_with (first | ((with_reducible refine wpList_bin ?_); refine wpList_f32 rfl _ _ _ _ _ rfl rfl rfl (by decide) (by first | assumption | exact Is32.c (by decide)) (by first | assumption | exact Is32.c (by decide)) ?_; intro z n hz) | ((with_reducible refine wpList_bin ?_); refine wpList_c32 rfl _ _ _ _ _ rfl rfl rfl (by decide) (by first | assumption | exact Is32.c (by decide)) (by first | assumption | exact Is32.c (by decide)) ?_; intro bb hbb; cases bb) | (go_at_call 45; refine (areaAt_i _ (by first | assumption | exact Is32.c (by decide)) (by first | assumption | exact Is32.c (by decide)) (by first | assumption | exact Is32.c (by decide)) (by first | assumption | exact Is32.c (by decide)) (by first | assumption | exact Is32.c (by decide))).mono ?_; rintro e w1 ⟨z, bb, rfl, hbb, hz, hb⟩; have hb1 : Below w.heap.size w w1 := (by first | exact (bel1 _ _ ).trans (hb.mono (by first | (simp; done) | (simp; omega) | omega)) | exact (beld (bel1 _ _ ) _).trans (hb.mono (by first | (simp; done) | (simp; omega) | omega))); have hs1 : w.heap.size + 1 ≤ w1.heap.size := (by have := hb.size; (try simp at this); omega); have bxa1 : Bx w1 (w.heap.size) [.float .f32 a0, .float .f32 a1, .float .f32 a2, .float .f32 a3] := (by first | exact Bx.below (Bx.new w [.float .f32 a0, .float .f32 a1, .float .f32 a2, .float .f32 a3] _) hb (by first | (simp; done) | (simp; omega) | omega) | exact Bx.below (Bx.drewN (Bx.new w [.float .f32 a0, .float .f32 a1, .float .f32 a2, .float .f32 a3] _) _) hb (by first | (simp; done) | (simp; omega) | omega)); have ca0 := bxa1.c 0 rfl; have ca1 := bxa1.c 1 rfl; have ca2 := bxa1.c 2 rfl; have ca3 := bxa1.c 3 rfl; have Bxa1 := Lib.hid bxa1; clear bxa1; have Hb1 := Lib.hid hb1; clear hb hb1; cases bb) | (go_at_call 46; refine (wetAt_i _ (by first | assumption | exact Is32.c (by decide)) (by first | assumption | exact Is32.c (by decide)) (by first | assumption | exact Is32.c (by decide)) (by first | assumption | exact Is32.c (by decide)) (by first | assumption | exact Is32.c (by decide))).mono ?_; rintro e w2 ⟨z, bb, rfl, hbb, hz, hb⟩; have hb2 : Below w.heap.size w w2 := (by first | exact Hb1.out.trans (hb.mono (by first | (simp; done) | (simp; omega) | omega)) | exact (beld Hb1.out _).trans (hb.mono (by first | (simp; done) | (simp; omega) | omega))); have hs2 : w.heap.size + 1 ≤ w2.heap.size := (by have := hb.size; (try simp at this); omega); have bxa2 : Bx w2 (w.heap.size) [.float .f32 a0, .float .f32 a1, .float .f32 a2, .float .f32 a3] := (by first | exact Bx.below Bxa1.out hb (by first | (simp; done) | (simp; omega) | omega) | exact Bx.below (Bx.drewN Bxa1.out _) hb (by first | (simp; done) | (simp; omega) | omega)); have ca0 := bxa2.c 0 rfl; have ca1 := bxa2.c 1 rfl; have ca2 := bxa2.c 2 rfl; have ca3 := bxa2.c 3 rfl; have Bxa2 := Lib.hid bxa2; clear bxa2; have Hb2 := Lib.hid hb2; clear hb hb2; cases bb) | (go_at_call 72; refine (finiteOnly_o _ (by first | assumption | exact Is32.c (by decide))).mono ?_; rintro e w' ⟨z, bb, rfl, hbb, hz, rfl⟩; cases bb))
  all_goals go_ret2
  all_goals (refine ⟨_, _, rfl, ?_, ?_, (by first | exact (bel1 _ _ ) | exact beld (bel1 _ _ ) _ | exact beld (beld (bel1 _ _ ) _) _ | exact Hb2.out | exact beld Hb2.out _ | exact beld (beld Hb2.out _) _ | exact Hb1.out | exact beld Hb1.out _ | exact beld (beld Hb1.out _) _ | exact Below.alloc (by first | exact (bel1 _ _ ) | exact beld (bel1 _ _ ) _) (by first | (simp; done) | (simp; omega) | omega) _ | exact beld (Below.alloc (by first | exact (bel1 _ _ ) | exact beld (bel1 _ _ ) _) (by first | (simp; done) | (simp; omega) | omega) _) _ | exact Below.alloc (by first | exact Hb2.out | exact beld Hb2.out _) (by first | (simp; done) | (simp; omega) | omega) _ | exact beld (Below.alloc (by first | exact Hb2.out | exact beld Hb2.out _) (by first | (simp; done) | (simp; omega) | omega) _) _ | exact Below.alloc (by first | exact Hb1.out | exact beld Hb1.out _) (by first | (simp; done) | (simp; omega) | omega) _ | exact beld (Below.alloc (by first | exact Hb1.out | exact beld Hb1.out _) (by first | (simp; done) | (simp; omega) | omega) _) _)⟩; (simp [midI, *]); first | (simp [midI, *]; done) | (simp [midI, *]; exact Is32.c (by decide)) | (simp [midI, *]; assumption))

theorem middleAt_i {A0 A1 A2 A3 : Option Nat} {a0 a1 a2 a3 : Nat} {D : Option Nat} {d : Nat} (w : World) (ha0 : Is32 A0 a0) (ha1 : Is32 A1 a1) (ha2 : Is32 A2 a2) (ha3 : Is32 A3 a3) (hd : Is32 D d) :
    Calls Try.prog 47 #[.agg #[.float .f32 a0, .float .f32 a1, .float .f32 a2, .float .f32 a3], .float .f32 d] w (OnlyB (midS A0 A1 A2 A3 D) w) := midI_eq ▸ middleAt_i0 w ha0 ha1 ha2 ha3 hd

set_option maxHeartbeats 8000000 in
theorem l04Middle_o {A0 A1 A2 A3 : Option Nat} {a0 a1 a2 a3 : Nat} (ba : Nat) {D : Option Nat} {d : Nat} (w : World) (hBa : Bx w ba [.float .f32 a0, .float .f32 a1, .float .f32 a2, .float .f32 a3]) (ha0 : Is32 A0 a0) (ha1 : Is32 A1 a1) (ha2 : Is32 A2 a2) (ha3 : Is32 A3 a3) (hd : Is32 D d) :
    Calls Try.prog 102 #[.pointer (some ⟨ba, 0, none⟩), .float .f32 d] w (OnlyQ (midP A0 A1 D) w) := by
  have ca0 := hBa.c 0 rfl
  have ca1 := hBa.c 1 rfl
  have ca2 := hBa.c 2 rfl
  have ca3 := hBa.c 3 rfl
  go_enter Try.func102, Try.ntmps102
  go_wp2_with (first | ((with_reducible refine wpList_bin ?_); refine wpList_f32 rfl _ _ _ _ _ rfl rfl rfl (by decide) (by first | assumption | exact Is32.c (by decide)) (by first | assumption | exact Is32.c (by decide)) ?_; intro z n hz) | ((with_reducible refine wpList_bin ?_); refine wpList_c32 rfl _ _ _ _ _ rfl rfl rfl (by decide) (by first | assumption | exact Is32.c (by decide)) (by first | assumption | exact Is32.c (by decide)) ?_; intro bb hbb; cases bb) | (go_at_call 115; refine (l04Area_o _ _ (by first | exact Bx.new _ [_, _, _, _] _ | exact Bx.drewN (Bx.new _ [_, _, _, _] _) _ | assumption) (by first | assumption | exact Is32.c (by decide)) (by first | assumption | exact Is32.c (by decide)) (by first | assumption | exact Is32.c (by decide)) (by first | assumption | exact Is32.c (by decide)) (by first | assumption | exact Is32.c (by decide))).mono ?_; rintro e w' ⟨z, rfl, hz, q, rfl⟩) | (go_at_call 117; refine (l04Wet_o _ _ (by first | exact Bx.new _ [_, _, _, _] _ | exact Bx.drewN (Bx.new _ [_, _, _, _] _) _ | assumption) (by first | assumption | exact Is32.c (by decide)) (by first | assumption | exact Is32.c (by decide)) (by first | assumption | exact Is32.c (by decide)) (by first | assumption | exact Is32.c (by decide)) (by first | assumption | exact Is32.c (by decide))).mono ?_; rintro e w' ⟨z, rfl, hz, q, rfl⟩) | (go_at_call 71; refine (l02Number_o _ (by first | assumption | exact Is32.c (by decide))).mono ?_; rintro e w' ⟨z, bb, rfl, hbb, hz, q, rfl⟩; cases bb) | (go_at_call 93; refine (l01Fin_o _ (by first | assumption | exact Is32.c (by decide))).mono ?_; rintro e w' ⟨bb, hbb, rfl, q, rfl⟩; cases bb))
  all_goals go_ret2
  all_goals (refine ⟨_, _, rfl, ?_, ?_, (by first | exact ⟨_, rfl⟩ | exact drewC _ _ _ ⟨_, rfl⟩ | exact drewC _ _ _ (drewC _ _ _ ⟨_, rfl⟩))⟩; (simp [midP, *]); first | (simp [midP, *]; done) | (simp [midP, *]; exact Is32.c (by decide)) | (simp [midP, *]; assumption))

set_option maxHeartbeats 8000000 in
theorem middleAt_s0 {A0 A1 A2 A3 : Option Nat} {a0 a1 a2 a3 : Nat} {D : Option Nat} {d : Nat} (w : World)  (ha0 : Is32 A0 a0) (ha1 : Is32 A1 a1) (ha2 : Is32 A2 a2) (ha3 : Is32 A3 a3) (hd : Is32 D d) :
    Calls Try.prog 77 #[.agg #[.float .f32 a0, .float .f32 a1, .float .f32 a2, .float .f32 a3], .float .f32 d] w (OnlyB (passO (canS A0 A1 A2 A3 D) (midP A0 A1 D)) w) := by
  go_enter Try.func77, Try.ntmps77
  go_wp2_with (first | ((with_reducible refine wpList_bin ?_); refine wpList_f32 rfl _ _ _ _ _ rfl rfl rfl (by decide) (by first | assumption | exact Is32.c (by decide)) (by first | assumption | exact Is32.c (by decide)) ?_; intro z n hz) | ((with_reducible refine wpList_bin ?_); refine wpList_c32 rfl _ _ _ _ _ rfl rfl rfl (by decide) (by first | assumption | exact Is32.c (by decide)) (by first | assumption | exact Is32.c (by decide)) ?_; intro bb hbb; cases bb) | (go_at_call 96; refine (l04Can_o _ _ (by first | exact Bx.new _ [_, _, _, _] _ | exact Bx.drewN (Bx.new _ [_, _, _, _] _) _ | assumption) (by first | assumption | exact Is32.c (by decide)) (by first | assumption | exact Is32.c (by decide)) (by first | assumption | exact Is32.c (by decide)) (by first | assumption | exact Is32.c (by decide)) (by first | assumption | exact Is32.c (by decide))).mono ?_; rintro e w' ⟨bb, hbb, rfl, q, rfl⟩; cases bb) | (go_at_call 102; refine (l04Middle_o _ _ (by first | exact Bx.new _ [_, _, _, _] _ | exact Bx.drewN (Bx.new _ [_, _, _, _] _) _ | assumption) (by first | assumption | exact Is32.c (by decide)) (by first | assumption | exact Is32.c (by decide)) (by first | assumption | exact Is32.c (by decide)) (by first | assumption | exact Is32.c (by decide)) (by first | assumption | exact Is32.c (by decide))).mono ?_; rintro e w' ⟨z, bb, rfl, hbb, hz, q, rfl⟩; cases bb))
  all_goals go_ret2
  all_goals (refine ⟨_, _, rfl, ?_, ?_, (by first | exact (bel1 _ _ ) | exact beld (bel1 _ _ ) _ | exact beld (beld (bel1 _ _ ) _) _ | exact Below.alloc (by first | exact (bel1 _ _ ) | exact beld (bel1 _ _ ) _) (by first | (simp; done) | (simp; omega) | omega) _ | exact beld (Below.alloc (by first | exact (bel1 _ _ ) | exact beld (bel1 _ _ ) _) (by first | (simp; done) | (simp; omega) | omega) _) _)⟩; (simp [passO, *]); first | (simp [passO, *]; done) | (simp [passO, *]; exact Is32.c (by decide)) | (simp [passO, *]; assumption))

theorem middleAt_s {A0 A1 A2 A3 : Option Nat} {a0 a1 a2 a3 : Nat} {D : Option Nat} {d : Nat} (w : World) (ha0 : Is32 A0 a0) (ha1 : Is32 A1 a1) (ha2 : Is32 A2 a2) (ha3 : Is32 A3 a3) (hd : Is32 D d) :
    Calls Try.prog 77 #[.agg #[.float .f32 a0, .float .f32 a1, .float .f32 a2, .float .f32 a3], .float .f32 d] w (OnlyB (midS A0 A1 A2 A3 D) w) := midP_eq ▸ middleAt_s0 w ha0 ha1 ha2 ha3 hd

set_option maxHeartbeats 8000000 in
theorem speedAt_i0 {A0 A1 A2 A3 : Option Nat} {a0 a1 a2 a3 : Nat} {D : Option Nat} {d : Nat} {F : Option Nat} {f : Nat} (w : World)  (ha0 : Is32 A0 a0) (ha1 : Is32 A1 a1) (ha2 : Is32 A2 a2) (ha3 : Is32 A3 a3) (hd : Is32 D d) (hf : Is32 F f) :
    Calls Try.prog 49 #[.agg #[.float .f32 a0, .float .f32 a1, .float .f32 a2, .float .f32 a3], .float .f32 d, .float .f32 f] w (OnlyB (speedI A0 A1 A2 A3 D F) w) := by
  go_enter Try.func49, Try.ntmps49
  go_wp2_with (first | ((with_reducible refine wpList_bin ?_); refine wpList_f32 rfl _ _ _ _ _ rfl rfl rfl (by decide) (by first | assumption | exact Is32.c (by decide)) (by first | assumption | exact Is32.c (by decide)) ?_; intro z n hz) | ((with_reducible refine wpList_bin ?_); refine wpList_c32 rfl _ _ _ _ _ rfl rfl rfl (by decide) (by first | assumption | exact Is32.c (by decide)) (by first | assumption | exact Is32.c (by decide)) ?_; intro bb hbb; cases bb) | (go_at_call 45; refine (areaAt_i _ (by first | assumption | exact Is32.c (by decide)) (by first | assumption | exact Is32.c (by decide)) (by first | assumption | exact Is32.c (by decide)) (by first | assumption | exact Is32.c (by decide)) (by first | assumption | exact Is32.c (by decide))).mono ?_; rintro e w1 ⟨z, bb, rfl, hbb, hz, hb⟩; have hb1 : Below w.heap.size w w1 := (by first | exact (bel1 _ _ ).trans (hb.mono (by first | (simp; done) | (simp; omega) | omega)) | exact (beld (bel1 _ _ ) _).trans (hb.mono (by first | (simp; done) | (simp; omega) | omega))); have hs1 : w.heap.size + 1 ≤ w1.heap.size := (by have := hb.size; (try simp at this); omega); have bxa1 : Bx w1 (w.heap.size) [.float .f32 a0, .float .f32 a1, .float .f32 a2, .float .f32 a3] := (by first | exact Bx.below (Bx.new w [.float .f32 a0, .float .f32 a1, .float .f32 a2, .float .f32 a3] _) hb (by first | (simp; done) | (simp; omega) | omega) | exact Bx.below (Bx.drewN (Bx.new w [.float .f32 a0, .float .f32 a1, .float .f32 a2, .float .f32 a3] _) _) hb (by first | (simp; done) | (simp; omega) | omega)); have ca0 := bxa1.c 0 rfl; have ca1 := bxa1.c 1 rfl; have ca2 := bxa1.c 2 rfl; have ca3 := bxa1.c 3 rfl; have Bxa1 := Lib.hid bxa1; clear bxa1; have Hb1 := Lib.hid hb1; clear hb hb1; cases bb) | (go_at_call 62; refine (isPositive_o _ (by first | assumption | exact Is32.c (by decide))).mono ?_; rintro e w' ⟨bb, hbb, rfl, rfl⟩; cases bb) | (go_at_call 72; refine (finiteOnly_o _ (by first | assumption | exact Is32.c (by decide))).mono ?_; rintro e w' ⟨z, bb, rfl, hbb, hz, rfl⟩; cases bb))
  all_goals go_ret2
  all_goals (refine ⟨_, _, rfl, ?_, ?_, (by first | exact (bel1 _ _ ) | exact beld (bel1 _ _ ) _ | exact beld (beld (bel1 _ _ ) _) _ | exact Hb1.out | exact beld Hb1.out _ | exact beld (beld Hb1.out _) _ | exact Below.alloc (by first | exact (bel1 _ _ ) | exact beld (bel1 _ _ ) _) (by first | (simp; done) | (simp; omega) | omega) _ | exact beld (Below.alloc (by first | exact (bel1 _ _ ) | exact beld (bel1 _ _ ) _) (by first | (simp; done) | (simp; omega) | omega) _) _ | exact Below.alloc (by first | exact Hb1.out | exact beld Hb1.out _) (by first | (simp; done) | (simp; omega) | omega) _ | exact beld (Below.alloc (by first | exact Hb1.out | exact beld Hb1.out _) (by first | (simp; done) | (simp; omega) | omega) _) _)⟩; (simp [speedI, *]); first | (simp [speedI, *]; done) | (simp [speedI, *]; exact Is32.c (by decide)) | (simp [speedI, *]; assumption))

theorem speedAt_i {A0 A1 A2 A3 : Option Nat} {a0 a1 a2 a3 : Nat} {D : Option Nat} {d : Nat} {F : Option Nat} {f : Nat} (w : World) (ha0 : Is32 A0 a0) (ha1 : Is32 A1 a1) (ha2 : Is32 A2 a2) (ha3 : Is32 A3 a3) (hd : Is32 D d) (hf : Is32 F f) :
    Calls Try.prog 49 #[.agg #[.float .f32 a0, .float .f32 a1, .float .f32 a2, .float .f32 a3], .float .f32 d, .float .f32 f] w (OnlyB (speedS A0 A1 A2 A3 D F) w) := speedI_eq ▸ speedAt_i0 w ha0 ha1 ha2 ha3 hd hf

set_option maxHeartbeats 8000000 in
theorem l04Speed_o {A0 A1 A2 A3 : Option Nat} {a0 a1 a2 a3 : Nat} (ba : Nat) {D : Option Nat} {d : Nat} {F : Option Nat} {f : Nat} (w : World) (hBa : Bx w ba [.float .f32 a0, .float .f32 a1, .float .f32 a2, .float .f32 a3]) (ha0 : Is32 A0 a0) (ha1 : Is32 A1 a1) (ha2 : Is32 A2 a2) (ha3 : Is32 A3 a3) (hd : Is32 D d) (hf : Is32 F f) :
    Calls Try.prog 101 #[.pointer (some ⟨ba, 0, none⟩), .float .f32 d, .float .f32 f] w (OnlyQ (speedP A0 A1 D F) w) := by
  have ca0 := hBa.c 0 rfl
  have ca1 := hBa.c 1 rfl
  have ca2 := hBa.c 2 rfl
  have ca3 := hBa.c 3 rfl
  go_enter Try.func101, Try.ntmps101
  go_wp2_with (first | ((with_reducible refine wpList_bin ?_); refine wpList_f32 rfl _ _ _ _ _ rfl rfl rfl (by decide) (by first | assumption | exact Is32.c (by decide)) (by first | assumption | exact Is32.c (by decide)) ?_; intro z n hz) | ((with_reducible refine wpList_bin ?_); refine wpList_c32 rfl _ _ _ _ _ rfl rfl rfl (by decide) (by first | assumption | exact Is32.c (by decide)) (by first | assumption | exact Is32.c (by decide)) ?_; intro bb hbb; cases bb) | (go_at_call 115; refine (l04Area_o _ _ (by first | exact Bx.new _ [_, _, _, _] _ | exact Bx.drewN (Bx.new _ [_, _, _, _] _) _ | assumption) (by first | assumption | exact Is32.c (by decide)) (by first | assumption | exact Is32.c (by decide)) (by first | assumption | exact Is32.c (by decide)) (by first | assumption | exact Is32.c (by decide)) (by first | assumption | exact Is32.c (by decide))).mono ?_; rintro e w' ⟨z, rfl, hz, q, rfl⟩) | (go_at_call 71; refine (l02Number_o _ (by first | assumption | exact Is32.c (by decide))).mono ?_; rintro e w' ⟨z, bb, rfl, hbb, hz, q, rfl⟩; cases bb) | (go_at_call 93; refine (l01Fin_o _ (by first | assumption | exact Is32.c (by decide))).mono ?_; rintro e w' ⟨bb, hbb, rfl, q, rfl⟩; cases bb))
  all_goals go_ret2
  all_goals (refine ⟨_, _, rfl, ?_, ?_, (by first | exact ⟨_, rfl⟩ | exact drewC _ _ _ ⟨_, rfl⟩ | exact drewC _ _ _ (drewC _ _ _ ⟨_, rfl⟩))⟩; (simp [speedP, *]); first | (simp [speedP, *]; done) | (simp [speedP, *]; exact Is32.c (by decide)) | (simp [speedP, *]; assumption))

set_option maxHeartbeats 8000000 in
theorem l04Both_o {A0 A1 A2 A3 : Option Nat} {a0 a1 a2 a3 : Nat} (ba : Nat) {D : Option Nat} {d : Nat} {F : Option Nat} {f : Nat} (w : World) (hBa : Bx w ba [.float .f32 a0, .float .f32 a1, .float .f32 a2, .float .f32 a3]) (ha0 : Is32 A0 a0) (ha1 : Is32 A1 a1) (ha2 : Is32 A2 a2) (ha3 : Is32 A3 a3) (hd : Is32 D d) (hf : Is32 F f) :
    Calls Try.prog 65 #[.pointer (some ⟨ba, 0, none⟩), .float .f32 d, .float .f32 f] w (SayQ (bothS A0 A1 A2 A3 D F) w) := by
  have ca0 := hBa.c 0 rfl
  have ca1 := hBa.c 1 rfl
  have ca2 := hBa.c 2 rfl
  have ca3 := hBa.c 3 rfl
  go_enter Try.func65, Try.ntmps65
  go_wp2_with (first | ((with_reducible refine wpList_bin ?_); refine wpList_f32 rfl _ _ _ _ _ rfl rfl rfl (by decide) (by first | assumption | exact Is32.c (by decide)) (by first | assumption | exact Is32.c (by decide)) ?_; intro z n hz) | ((with_reducible refine wpList_bin ?_); refine wpList_c32 rfl _ _ _ _ _ rfl rfl rfl (by decide) (by first | assumption | exact Is32.c (by decide)) (by first | assumption | exact Is32.c (by decide)) ?_; intro bb hbb; cases bb) | (go_at_call 96; refine (l04Can_o _ _ (by first | exact Bx.new _ [_, _, _, _] _ | exact Bx.drewN (Bx.new _ [_, _, _, _] _) _ | assumption) (by first | assumption | exact Is32.c (by decide)) (by first | assumption | exact Is32.c (by decide)) (by first | assumption | exact Is32.c (by decide)) (by first | assumption | exact Is32.c (by decide)) (by first | assumption | exact Is32.c (by decide))).mono ?_; rintro e w' ⟨bb, hbb, rfl, q, rfl⟩; cases bb) | (go_at_call 59; refine (l02Above_o _ (by first | assumption | exact Is32.c (by decide))).mono ?_; rintro e w' ⟨bb, hbb, rfl, q, rfl⟩; cases bb))
  all_goals go_ret
  all_goals (refine ⟨_, ?_, rfl, (by first | exact ⟨_, rfl⟩ | exact drewC _ _ _ ⟨_, rfl⟩ | exact drewC _ _ _ (drewC _ _ _ ⟨_, rfl⟩))⟩; simp [bothS, *])

set_option maxHeartbeats 8000000 in
theorem speedAt_s0 {A0 A1 A2 A3 : Option Nat} {a0 a1 a2 a3 : Nat} {D : Option Nat} {d : Nat} {F : Option Nat} {f : Nat} (w : World)  (ha0 : Is32 A0 a0) (ha1 : Is32 A1 a1) (ha2 : Is32 A2 a2) (ha3 : Is32 A3 a3) (hd : Is32 D d) (hf : Is32 F f) :
    Calls Try.prog 76 #[.agg #[.float .f32 a0, .float .f32 a1, .float .f32 a2, .float .f32 a3], .float .f32 d, .float .f32 f] w (OnlyB (passO (bothS A0 A1 A2 A3 D F) (speedP A0 A1 D F)) w) := by
  go_enter Try.func76, Try.ntmps76
  go_wp2_with (first | ((with_reducible refine wpList_bin ?_); refine wpList_f32 rfl _ _ _ _ _ rfl rfl rfl (by decide) (by first | assumption | exact Is32.c (by decide)) (by first | assumption | exact Is32.c (by decide)) ?_; intro z n hz) | ((with_reducible refine wpList_bin ?_); refine wpList_c32 rfl _ _ _ _ _ rfl rfl rfl (by decide) (by first | assumption | exact Is32.c (by decide)) (by first | assumption | exact Is32.c (by decide)) ?_; intro bb hbb; cases bb) | (go_at_call 65; refine (l04Both_o _ _ (by first | exact Bx.new _ [_, _, _, _] _ | exact Bx.drewN (Bx.new _ [_, _, _, _] _) _ | assumption) (by first | assumption | exact Is32.c (by decide)) (by first | assumption | exact Is32.c (by decide)) (by first | assumption | exact Is32.c (by decide)) (by first | assumption | exact Is32.c (by decide)) (by first | assumption | exact Is32.c (by decide)) (by first | assumption | exact Is32.c (by decide))).mono ?_; rintro e w' ⟨bb, hbb, rfl, q, rfl⟩; cases bb) | (go_at_call 101; refine (l04Speed_o _ _ (by first | exact Bx.new _ [_, _, _, _] _ | exact Bx.drewN (Bx.new _ [_, _, _, _] _) _ | assumption) (by first | assumption | exact Is32.c (by decide)) (by first | assumption | exact Is32.c (by decide)) (by first | assumption | exact Is32.c (by decide)) (by first | assumption | exact Is32.c (by decide)) (by first | assumption | exact Is32.c (by decide)) (by first | assumption | exact Is32.c (by decide))).mono ?_; rintro e w' ⟨z, bb, rfl, hbb, hz, q, rfl⟩; cases bb))
  all_goals go_ret2
  all_goals (refine ⟨_, _, rfl, ?_, ?_, (by first | exact (bel1 _ _ ) | exact beld (bel1 _ _ ) _ | exact beld (beld (bel1 _ _ ) _) _ | exact Below.alloc (by first | exact (bel1 _ _ ) | exact beld (bel1 _ _ ) _) (by first | (simp; done) | (simp; omega) | omega) _ | exact beld (Below.alloc (by first | exact (bel1 _ _ ) | exact beld (bel1 _ _ ) _) (by first | (simp; done) | (simp; omega) | omega) _) _)⟩; (simp [passO, *]); first | (simp [passO, *]; done) | (simp [passO, *]; exact Is32.c (by decide)) | (simp [passO, *]; assumption))

theorem speedAt_s {A0 A1 A2 A3 : Option Nat} {a0 a1 a2 a3 : Nat} {D : Option Nat} {d : Nat} {F : Option Nat} {f : Nat} (w : World) (ha0 : Is32 A0 a0) (ha1 : Is32 A1 a1) (ha2 : Is32 A2 a2) (ha3 : Is32 A3 a3) (hd : Is32 D d) (hf : Is32 F f) :
    Calls Try.prog 76 #[.agg #[.float .f32 a0, .float .f32 a1, .float .f32 a2, .float .f32 a3], .float .f32 d, .float .f32 f] w (OnlyB (speedS A0 A1 A2 A3 D F) w) := speedP_eq ▸ speedAt_s0 w ha0 ha1 ha2 ha3 hd hf

end Go.Proofs.Ytfdcfalkidcdnaa
