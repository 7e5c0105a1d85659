/- Reaches, flows of waves, dams that break: the program and its model alike. -/
import Derived.Test.YtgnkpppbhibfoaaRainA
import Derived.Test.YtgnkpppbhibfoaaRootO
import Derived.Test.YtgnkpppbhibfoaaTri
import Derived.Test.YtgnkpppbhibfoaaNegO
namespace Go.Proofs.Ytgnkpppbhibfoaa
open Go.RowKit
set_option linter.unusedVariables false
set_option linter.unusedSimpArgs false
set_option maxRecDepth 100000
attribute [local irreducible] wpV wpList Code.wp

def reachO (A0 A1 : Option Nat) : Bool := posO A0 && fcmp .geq .f32 A1 (some 0) && fcmp .leq .f32 A1 (some 1056964608)
def shN (A0 A1 T : Option Nat) : Option Nat := (fop .quo .f32 (fop .sub .f32 T (fop .mul .f32 (fop .mul .f32 (some 1073741824) A0) A1)) (fop .add .f32 (fop .mul .f32 (fop .mul .f32 (some 1073741824) A0) (fop .sub .f32 (some 1065353216) A1)) T))
def shB (A0 A1 T : Option Nat) : Option Nat := (fop .quo .f32 (fop .add .f32 T (fop .mul .f32 (fop .mul .f32 (some 1073741824) A0) A1)) (fop .add .f32 (fop .mul .f32 (fop .mul .f32 (some 1073741824) A0) (fop .sub .f32 (some 1065353216) A1)) T))
def shK (A0 A1 T : Option Nat) : Option Nat := (fop .quo .f32 (fop .sub .f32 (fop .mul .f32 (fop .mul .f32 (some 1073741824) A0) (fop .sub .f32 (some 1065353216) A1)) T) (fop .add .f32 (fop .mul .f32 (fop .mul .f32 (some 1073741824) A0) (fop .sub .f32 (some 1065353216) A1)) T))
def sharesU (A0 A1 T : Option Nat) : Option Nat × Option Nat × Option Nat × Bool := if fin32o (shN A0 A1 T) && fin32o (shB A0 A1 T) && fin32o (shK A0 A1 T) then (shN A0 A1 T, shB A0 A1 T, shK A0 A1 T, true) else (some 0, some 0, some 0, false)
def sharesO (A0 A1 T : Option Nat) : Option Nat × Option Nat × Option Nat × Bool := if reachO A0 A1 && posO T then sharesU A0 A1 T else (some 0, some 0, some 0, false)
def heldU (A0 A1 I O : Option Nat) : Option Nat := (fop .mul .f32 A0 (fop .add .f32 (fop .mul .f32 A1 I) (fop .mul .f32 (fop .sub .f32 (some 1065353216) A1) O)))
def heldO (A0 A1 I O : Option Nat) : Option Nat × Bool := if reachO A0 A1 && fin32o I && fin32o O then onlyO (heldU A0 A1 I O) else (some 0, false)
def wflowU (R X : Option Nat) : Option Nat := (fop .mul .f32 (fop .mul .f32 R X) (rootO X))
def wflowO (R X : Option Nat) : Option Nat × Bool := if posO R && amtO X then onlyO (wflowU R X) else (some 0, false)
def celC (D : Option Nat) : Option Nat := rootO (fop .mul .f32 (some 1092416963) D)

def breakV (D P T : Option Nat) : Option Nat × Option Nat := if fcmp .leq .f32 (fop .quo .f32 P T) (negO (celC D)) then (D, some 0) else if fcmp .geq .f32 (fop .quo .f32 P T) (fop .mul .f32 (some 1073741824) (celC D)) then (some 0, some 0) else ((fop .quo .f32 (fop .mul .f32 (fop .sub .f32 (fop .mul .f32 (some 1073741824) (celC D)) (fop .quo .f32 P T)) (fop .sub .f32 (fop .mul .f32 (some 1073741824) (celC D)) (fop .quo .f32 P T))) (some 1118868603)), (fop .quo .f32 (fop .mul .f32 (some 1073741824) (fop .add .f32 (celC D) (fop .quo .f32 P T))) (some 1077936128)))
def breakI (D P T : Option Nat) : Option Nat × Option Nat × Bool := if posO D && fin32o P && posO T then (if fcmp .leq .f32 (fop .quo .f32 P T) (negO (celC D)) then (D, some 0, true) else if fcmp .geq .f32 (fop .quo .f32 P T) (fop .mul .f32 (some 1073741824) (celC D)) then (some 0, some 0, true) else if fin32o (fop .quo .f32 (fop .mul .f32 (fop .sub .f32 (fop .mul .f32 (some 1073741824) (celC D)) (fop .quo .f32 P T)) (fop .sub .f32 (fop .mul .f32 (some 1073741824) (celC D)) (fop .quo .f32 P T))) (some 1118868603)) then ((fop .quo .f32 (fop .mul .f32 (fop .sub .f32 (fop .mul .f32 (some 1073741824) (celC D)) (fop .quo .f32 P T)) (fop .sub .f32 (fop .mul .f32 (some 1073741824) (celC D)) (fop .quo .f32 P T))) (some 1118868603)), (fop .quo .f32 (fop .mul .f32 (some 1073741824) (fop .add .f32 (celC D) (fop .quo .f32 P T))) (some 1077936128)), true) else (some 0, some 0, false)) else (some 0, some 0, false)
def bdepthO (D P T : Option Nat) : Option Nat × Bool := if posO D && fin32o P && posO T then onlyO (breakV D P T).1 else (some 0, false)
def bflowO (D P T : Option Nat) : Option Nat × Bool := if posO D && fin32o P && posO T then onlyO (fop .mul .f32 (breakV D P T).1 (breakV D P T).2) else (some 0, false)
def bflowI (D P T : Option Nat) : Option Nat × Bool := if (breakI D P T).2.2 then onlyO (fop .mul .f32 (breakI D P T).1 (breakI D P T).2.1) else (some 0, false)
theorem bdepth_eq {D P T : Option Nat} : ((breakI D P T).1, (breakI D P T).2.2) = bdepthO D P T := by
  unfold breakI bdepthO breakV
  cases h0 : posO D
  · rfl
  · have hf : fin32o D = true := by unfold posO at h0; rw [Bool.and_eq_true] at h0; exact h0.2
    cases h1 : fin32o P
    · rfl
    · cases h2 : posO T
      · rfl
      · simp only [Bool.and_self, if_true]
        split
        · simp [onlyO, hf]
        · split
          · rfl
          · unfold onlyO
            split <;> simp_all
theorem bflow_eq {D P T : Option Nat} : bflowI D P T = bflowO D P T := by
  unfold bflowI breakI bflowO breakV
  cases h0 : posO D
  · rfl
  · cases h1 : fin32o P
    · rfl
    · cases h2 : posO T
      · rfl
      · simp only [Bool.and_self, if_true]
        split
        · rfl
        · split
          · rfl
          · split
            · rfl
            · rename_i hn
              rw [Bool.not_eq_true] at hn
              simp [onlyO, mul_not_fin _ hn]

set_option maxHeartbeats 1000000 in
theorem validReach_i {A0 A1 : Option Nat} {a0 a1 : Nat} (w : World)  (ha0 : Is32 A0 a0) (ha1 : Is32 A1 a1) :
    Calls Try.prog 132 #[.agg #[.float .f32 a0, .float .f32 a1]] w (SayB (reachO A0 A1) w) := by
  go_enter Try.func132, Try.ntmps132
  go_wp2_with (first | ((with_reducible refine wpList_bin ?_); refine wpList_f32 rfl _ _ _ _ _ rfl rfl rfl (by decide) (by first | assumption | exact Is32.c (by decide)) (by first | assumption | exact Is32.c (by decide)) ?_; intro z n hz) | ((with_reducible refine wpList_bin ?_); refine wpList_c32 rfl _ _ _ _ _ rfl rfl rfl (by decide) (by first | assumption | exact Is32.c (by decide)) (by first | assumption | exact Is32.c (by decide)) ?_; intro bb hbb; cases bb) | (go_at_call 72; refine (isPositive_o _ (by first | assumption | exact Is32.c (by decide))).mono ?_; rintro e w' ⟨bb, hbb, rfl, rfl⟩; cases bb))
  all_goals go_ret
  all_goals (refine ⟨_, ?_, rfl, (by first | exact (bel1 _ _ ) | exact beld (bel1 _ _ ) _ | exact beld (beld (bel1 _ _ ) _) _ | exact Below.alloc (by first | exact (bel1 _ _ ) | exact beld (bel1 _ _ ) _) (by first | (simp; done) | (simp; omega) | omega) _ | exact beld (Below.alloc (by first | exact (bel1 _ _ ) | exact beld (bel1 _ _ ) _) (by first | (simp; done) | (simp; omega) | omega) _) _)⟩; simp [reachO, *])

set_option maxHeartbeats 4000000 in
theorem l05Reach_o {A0 A1 : Option Nat} {a0 a1 : Nat} (ba : Nat) (w : World) (hBa : Bx w ba [.float .f32 a0, .float .f32 a1]) (ha0 : Is32 A0 a0) (ha1 : Is32 A1 a1) :
    Calls Try.prog 129 #[.pointer (some ⟨ba, 0, none⟩)] w (SayQ (reachO A0 A1) w) := by
  have ca0 := hBa.c 0 rfl
  have ca1 := hBa.c 1 rfl
  go_enter Try.func129, Try.ntmps129
  go_wp2_with (first | ((with_reducible refine wpList_bin ?_); refine wpList_f32 rfl _ _ _ _ _ rfl rfl rfl (by decide) (by first | assumption | exact Is32.c (by decide)) (by first | assumption | exact Is32.c (by decide)) ?_; intro z n hz) | ((with_reducible refine wpList_bin ?_); refine wpList_c32 rfl _ _ _ _ _ rfl rfl rfl (by decide) (by first | assumption | exact Is32.c (by decide)) (by first | assumption | exact Is32.c (by decide)) ?_; intro bb hbb; cases bb) | (go_at_call 84; refine (l02Above_o _ (by first | assumption | exact Is32.c (by decide))).mono ?_; rintro e w' ⟨bb, hbb, rfl, q, rfl⟩; cases bb))
  all_goals go_ret
  all_goals (refine ⟨_, ?_, rfl, (by first | exact ⟨_, rfl⟩ | exact ⟨0, rfl⟩ | exact drewC _ _ _ ⟨_, rfl⟩ | exact drewC _ _ _ (drewC _ _ _ ⟨_, rfl⟩) | exact drewC _ _ _ (drewC _ _ _ (drewC _ _ _ ⟨_, rfl⟩)) | exact drewC _ _ _ (drewC _ _ _ (drewC _ _ _ (drewC _ _ _ ⟨_, rfl⟩))))⟩; simp [reachO, *])

set_option maxHeartbeats 4000000 in
theorem reachShares_i {A0 A1 : Option Nat} {a0 a1 : Nat} {T : Option Nat} {t : Nat} (w : World)  (ha0 : Is32 A0 a0) (ha1 : Is32 A1 a1) (ht : Is32 T t) :
    Calls Try.prog 154 #[.agg #[.float .f32 a0, .float .f32 a1], .float .f32 t] w (TriB (sharesO A0 A1 T) w) := by
  go_enter Try.func154, Try.ntmps154
  go_wp2_with (first | ((with_reducible refine wpList_bin ?_); refine wpList_f32 rfl _ _ _ _ _ rfl rfl rfl (by decide) (by first | assumption | exact Is32.c (by decide)) (by first | assumption | exact Is32.c (by decide)) ?_; intro z n hz) | ((with_reducible refine wpList_bin ?_); refine wpList_c32 rfl _ _ _ _ _ rfl rfl rfl (by decide) (by first | assumption | exact Is32.c (by decide)) (by first | assumption | exact Is32.c (by decide)) ?_; intro bb hbb; cases bb) | (go_at_call 132; refine (validReach_i _ (by first | assumption | exact Is32.c (by decide)) (by first | assumption | exact Is32.c (by decide))).mono ?_; rintro e w1 ⟨bb, hbb, rfl, hb⟩; have hb1 : Below w.heap.size w w1 := (by first | exact (bel1 _ _ ).trans (hb.mono (by first | (simp; done) | (simp; omega) | omega)) | exact (beld (bel1 _ _ ) _).trans (hb.mono (by first | (simp; done) | (simp; omega) | omega))); have hs1 : w.heap.size + 1 ≤ w1.heap.size := (by have := hb.size; (try simp at this); omega); have bxa1 : Bx w1 (w.heap.size) [.float .f32 a0, .float .f32 a1] := (by first | exact Bx.below (Bx.new w [.float .f32 a0, .float .f32 a1] _) hb (by first | (simp; done) | (simp; omega) | omega) | exact Bx.below (Bx.drewN (Bx.new w [.float .f32 a0, .float .f32 a1] _) _) hb (by first | (simp; done) | (simp; omega) | omega)); have ca0 := bxa1.c 0 rfl; have ca1 := bxa1.c 1 rfl; have Bxa1 := Lib.hid bxa1; clear bxa1; have Hb1 := Lib.hid hb1; clear hb hb1; cases bb) | (go_at_call 72; refine (isPositive_o _ (by first | assumption | exact Is32.c (by decide))).mono ?_; rintro e w' ⟨bb, hbb, rfl, rfl⟩; cases bb) | (go_at_call 87; refine (isFin_o _ (by first | assumption | exact Is32.c (by decide))).mono ?_; rintro e w' ⟨bb, hbb, rfl, rfl⟩; cases bb))
  any_goals apply wp_region_V (id := 4) (vmap [(3, V32k _), (7, V32k _), (8, V32k _)]) (by kernel_rfl) (by kernel_rfl)
  any_goals (refine wpV_go 1 rfl (fun K hK => ?_); go_simp; refine hK.out _ ?_; clear hK K)
  any_goals (refine wpV_go 2 rfl (fun K hK => ?_); go_simp; refine hK.out _ ?_; clear hK K)
  any_goals (refine wpV_go 3 rfl (fun K hK => ?_); go_simp; refine hK.out _ ?_; clear hK K)
  any_goals (first | (refine wpV_f32 4 rfl (drewC _) _ _ _ _ _ rfl rfl rfl rfl (by decide) (by first | assumption | exact Is32.c (by decide)) (by first | assumption | exact Is32.c (by decide)) rfl ?_; intro z hz) | (refine wpV_go 4 rfl (fun K hK => ?_); go_simp; refine hK.out _ ?_; clear hK K))
  any_goals (refine wpV_go 5 rfl (fun K hK => ?_); go_simp; refine hK.out _ ?_; clear hK K)
  any_goals (refine wpV_go 6 rfl (fun K hK => ?_); go_simp; refine hK.out _ ?_; clear hK K)
  any_goals (refine wpV_go 7 rfl (fun K hK => ?_); go_simp; refine hK.out _ ?_; clear hK K)
  any_goals (first | (refine wpV_f32 8 rfl (drewC _) _ _ _ _ _ rfl rfl rfl rfl (by decide) (by first | assumption | exact Is32.c (by decide)) (by first | assumption | exact Is32.c (by decide)) rfl ?_; intro z hz) | (refine wpV_go 8 rfl (fun K hK => ?_); go_simp; refine hK.out _ ?_; clear hK K))
  any_goals (first | (refine wpV_f32 9 rfl (drewC _) _ _ _ _ _ rfl rfl rfl rfl (by decide) (by first | assumption | exact Is32.c (by decide)) (by first | assumption | exact Is32.c (by decide)) rfl ?_; intro z hz) | (refine wpV_go 9 rfl (fun K hK => ?_); go_simp; refine hK.out _ ?_; clear hK K))
  any_goals (refine wpV_go 10 rfl (fun K hK => ?_); go_simp; refine hK.out _ ?_; clear hK K)
  any_goals (refine wpV_go 11 rfl (fun K hK => ?_); go_simp; refine hK.out _ ?_; clear hK K)
  any_goals (refine wpV_nil ?_; intro q)
  any_goals go_wp2_with (first | ((with_reducible refine wpList_bin ?_); refine wpList_f32 rfl _ _ _ _ _ rfl rfl rfl (by decide) (by first | assumption | exact Is32.c (by decide)) (by first | assumption | exact Is32.c (by decide)) ?_; intro z n hz) | ((with_reducible refine wpList_bin ?_); refine wpList_c32 rfl _ _ _ _ _ rfl rfl rfl (by decide) (by first | assumption | exact Is32.c (by decide)) (by first | assumption | exact Is32.c (by decide)) ?_; intro bb hbb; cases bb) | (go_at_call 132; refine (validReach_i _ (by first | assumption | exact Is32.c (by decide)) (by first | assumption | exact Is32.c (by decide))).mono ?_; rintro e w1 ⟨bb, hbb, rfl, hb⟩; have hb1 : Below w.heap.size w w1 := (by first | exact (bel1 _ _ ).trans (hb.mono (by first | (simp; done) | (simp; omega) | omega)) | exact (beld (bel1 _ _ ) _).trans (hb.mono (by first | (simp; done) | (simp; omega) | omega))); have hs1 : w.heap.size + 1 ≤ w1.heap.size := (by have := hb.size; (try simp at this); omega); have bxa1 : Bx w1 (w.heap.size) [.float .f32 a0, .float .f32 a1] := (by first | exact Bx.below (Bx.new w [.float .f32 a0, .float .f32 a1] _) hb (by first | (simp; done) | (simp; omega) | omega) | exact Bx.below (Bx.drewN (Bx.new w [.float .f32 a0, .float .f32 a1] _) _) hb (by first | (simp; done) | (simp; omega) | omega)); have ca0 := bxa1.c 0 rfl; have ca1 := bxa1.c 1 rfl; have Bxa1 := Lib.hid bxa1; clear bxa1; have Hb1 := Lib.hid hb1; clear hb hb1; cases bb) | (go_at_call 72; refine (isPositive_o _ (by first | assumption | exact Is32.c (by decide))).mono ?_; rintro e w' ⟨bb, hbb, rfl, rfl⟩; cases bb) | (go_at_call 87; refine (isFin_o _ (by first | assumption | exact Is32.c (by decide))).mono ?_; rintro e w' ⟨bb, hbb, rfl, rfl⟩; cases bb))
  all_goals ((try simp only [Exit.inBlock, Exit.then]); refine bodyPost_ret (results_tmp4 rfl _ _ _) rfl ?_)
  all_goals (refine ⟨_, _, _, _, rfl, ?_, ?_, ?_, ?_, (by first | exact (bel1 _ _ ) | exact beld (bel1 _ _ ) _ | exact beld (beld (bel1 _ _ ) _) _ | exact Hb1.out | exact beld Hb1.out _ | exact beld (beld Hb1.out _) _ | exact Below.alloc (by first | exact (bel1 _ _ ) | exact beld (bel1 _ _ ) _) (by first | (simp; done) | (simp; omega) | omega) _ | exact beld (Below.alloc (by first | exact (bel1 _ _ ) | exact beld (bel1 _ _ ) _) (by first | (simp; done) | (simp; omega) | omega) _) _ | exact Below.alloc (by first | exact Hb1.out | exact beld Hb1.out _) (by first | (simp; done) | (simp; omega) | omega) _ | exact beld (Below.alloc (by first | exact Hb1.out | exact beld Hb1.out _) (by first | (simp; done) | (simp; omega) | omega) _) _)⟩; (simp [sharesO, sharesU, shN, shB, shK, *]); all_goals (first | assumption | (simp [sharesO, sharesU, shN, shB, shK, *]; done) | (simp [sharesO, sharesU, shN, shB, shK, *]; exact Is32.c (by decide)) | (simp [sharesO, sharesU, shN, shB, shK, *]; assumption)))

set_option maxHeartbeats 4000000 in
theorem l05Shares_o {A0 A1 : Option Nat} {a0 a1 : Nat} (ba : Nat) {T : Option Nat} {t : Nat} (w : World) (hBa : Bx w ba [.float .f32 a0, .float .f32 a1]) (ha0 : Is32 A0 a0) (ha1 : Is32 A1 a1) (ht : Is32 T t) :
    Calls Try.prog 151 #[.pointer (some ⟨ba, 0, none⟩), .float .f32 t] w (TriQ (sharesU A0 A1 T) w) := by
  have ca0 := hBa.c 0 rfl
  have ca1 := hBa.c 1 rfl
  go_enter Try.func151, Try.ntmps151
  go_wp2_with (first | ((with_reducible refine wpList_bin ?_); refine wpList_f32 rfl _ _ _ _ _ rfl rfl rfl (by decide) (by first | assumption | exact Is32.c (by decide)) (by first | assumption | exact Is32.c (by decide)) ?_; intro z n hz) | ((with_reducible refine wpList_bin ?_); refine wpList_c32 rfl _ _ _ _ _ rfl rfl rfl (by decide) (by first | assumption | exact Is32.c (by decide)) (by first | assumption | exact Is32.c (by decide)) ?_; intro bb hbb; cases bb) | (go_at_call 83; refine (l01Fin_o _ (by first | assumption | exact Is32.c (by decide))).mono ?_; rintro e w' ⟨bb, hbb, rfl, q, rfl⟩; cases bb))
  any_goals apply wp_region_V (id := 1) (vmap [(4, V32k _), (9, V32k _)]) (by kernel_rfl) (by kernel_rfl)
  any_goals (refine wpV_go 1 rfl (fun K hK => ?_); go_simp; refine hK.out _ ?_; clear hK K)
  any_goals (refine wpV_go 2 rfl (fun K hK => ?_); go_simp; refine hK.out _ ?_; clear hK K)
  any_goals (refine wpV_go 3 rfl (fun K hK => ?_); go_simp; refine hK.out _ ?_; clear hK K)
  any_goals (refine wpV_go 4 rfl (fun K hK => ?_); go_simp; refine hK.out _ ?_; clear hK K)
  any_goals (first | (refine wpV_f32 5 rfl (drewC _) _ _ _ _ _ rfl rfl rfl rfl (by decide) (by first | assumption | exact Is32.c (by decide)) (by first | assumption | exact Is32.c (by decide)) rfl ?_; intro z hz) | (refine wpV_go 5 rfl (fun K hK => ?_); go_simp; refine hK.out _ ?_; clear hK K))
  any_goals (refine wpV_go 6 rfl (fun K hK => ?_); go_simp; refine hK.out _ ?_; clear hK K)
  any_goals (refine wpV_go 7 rfl (fun K hK => ?_); go_simp; refine hK.out _ ?_; clear hK K)
  any_goals (refine wpV_go 8 rfl (fun K hK => ?_); go_simp; refine hK.out _ ?_; clear hK K)
  any_goals (refine wpV_go 9 rfl (fun K hK => ?_); go_simp; refine hK.out _ ?_; clear hK K)
  any_goals (first | (refine wpV_f32 10 rfl (drewC _) _ _ _ _ _ rfl rfl rfl rfl (by decide) (by first | assumption | exact Is32.c (by decide)) (by first | assumption | exact Is32.c (by decide)) rfl ?_; intro z hz) | (refine wpV_go 10 rfl (fun K hK => ?_); go_simp; refine hK.out _ ?_; clear hK K))
  any_goals (refine wpV_go 11 rfl (fun K hK => ?_); go_simp; refine hK.out _ ?_; clear hK K)
  any_goals (refine wpV_nil ?_; intro q)
  any_goals go_wp2_with (first | ((with_reducible refine wpList_bin ?_); refine wpList_f32 rfl _ _ _ _ _ rfl rfl rfl (by decide) (by first | assumption | exact Is32.c (by decide)) (by first | assumption | exact Is32.c (by decide)) ?_; intro z n hz) | ((with_reducible refine wpList_bin ?_); refine wpList_c32 rfl _ _ _ _ _ rfl rfl rfl (by decide) (by first | assumption | exact Is32.c (by decide)) (by first | assumption | exact Is32.c (by decide)) ?_; intro bb hbb; cases bb) | (go_at_call 83; refine (l01Fin_o _ (by first | assumption | exact Is32.c (by decide))).mono ?_; rintro e w' ⟨bb, hbb, rfl, q, rfl⟩; cases bb))
  any_goals apply wp_region_V (id := 2) (vmap [(4, V32k _), (9, V32k _), (10, V32k _)]) (by kernel_rfl) (by kernel_rfl)
  any_goals (refine wpV_go 1 rfl (fun K hK => ?_); go_simp; refine hK.out _ ?_; clear hK K)
  any_goals (refine wpV_go 2 rfl (fun K hK => ?_); go_simp; refine hK.out _ ?_; clear hK K)
  any_goals (refine wpV_go 3 rfl (fun K hK => ?_); go_simp; refine hK.out _ ?_; clear hK K)
  any_goals (refine wpV_go 4 rfl (fun K hK => ?_); go_simp; refine hK.out _ ?_; clear hK K)
  any_goals (first | (refine wpV_f32 5 rfl (drewC _) _ _ _ _ _ rfl rfl rfl rfl (by decide) (by first | assumption | exact Is32.c (by decide)) (by first | assumption | exact Is32.c (by decide)) rfl ?_; intro z hz) | (refine wpV_go 5 rfl (fun K hK => ?_); go_simp; refine hK.out _ ?_; clear hK K))
  any_goals (refine wpV_go 6 rfl (fun K hK => ?_); go_simp; refine hK.out _ ?_; clear hK K)
  any_goals (refine wpV_go 7 rfl (fun K hK => ?_); go_simp; refine hK.out _ ?_; clear hK K)
  any_goals (refine wpV_go 8 rfl (fun K hK => ?_); go_simp; refine hK.out _ ?_; clear hK K)
  any_goals (refine wpV_go 9 rfl (fun K hK => ?_); go_simp; refine hK.out _ ?_; clear hK K)
  any_goals (first | (refine wpV_f32 10 rfl (drewC _) _ _ _ _ _ rfl rfl rfl rfl (by decide) (by first | assumption | exact Is32.c (by decide)) (by first | assumption | exact Is32.c (by decide)) rfl ?_; intro z hz) | (refine wpV_go 10 rfl (fun K hK => ?_); go_simp; refine hK.out _ ?_; clear hK K))
  any_goals (first | (refine wpV_f32 11 rfl (drewC _) _ _ _ _ _ rfl rfl rfl rfl (by decide) (by first | assumption | exact Is32.c (by decide)) (by first | assumption | exact Is32.c (by decide)) rfl ?_; intro z hz) | (refine wpV_go 11 rfl (fun K hK => ?_); go_simp; refine hK.out _ ?_; clear hK K))
  any_goals (refine wpV_go 12 rfl (fun K hK => ?_); go_simp; refine hK.out _ ?_; clear hK K)
  any_goals (refine wpV_nil ?_; intro q)
  any_goals go_wp2_with (first | ((with_reducible refine wpList_bin ?_); refine wpList_f32 rfl _ _ _ _ _ rfl rfl rfl (by decide) (by first | assumption | exact Is32.c (by decide)) (by first | assumption | exact Is32.c (by decide)) ?_; intro z n hz) | ((with_reducible refine wpList_bin ?_); refine wpList_c32 rfl _ _ _ _ _ rfl rfl rfl (by decide) (by first | assumption | exact Is32.c (by decide)) (by first | assumption | exact Is32.c (by decide)) ?_; intro bb hbb; cases bb) | (go_at_call 83; refine (l01Fin_o _ (by first | assumption | exact Is32.c (by decide))).mono ?_; rintro e w' ⟨bb, hbb, rfl, q, rfl⟩; cases bb))
  all_goals ((try simp only [Exit.inBlock, Exit.then]); refine bodyPost_ret (results_tmp4 rfl _ _ _) rfl ?_)
  all_goals (refine ⟨_, _, _, _, rfl, ?_, ?_, ?_, ?_, (by first | exact ⟨_, rfl⟩ | exact ⟨0, rfl⟩ | exact drewC _ _ _ ⟨_, rfl⟩ | exact drewC _ _ _ (drewC _ _ _ ⟨_, rfl⟩) | exact drewC _ _ _ (drewC _ _ _ (drewC _ _ _ ⟨_, rfl⟩)) | exact drewC _ _ _ (drewC _ _ _ (drewC _ _ _ (drewC _ _ _ ⟨_, rfl⟩))))⟩; (simp [sharesU, shN, shB, shK, *]); all_goals (first | assumption | (simp [sharesU, shN, shB, shK, *]; done) | (simp [sharesU, shN, shB, shK, *]; exact Is32.c (by decide)) | (simp [sharesU, shN, shB, shK, *]; assumption)))

set_option maxHeartbeats 4000000 in
theorem waveFlow_q {R : Option Nat} {r : Nat} {X : Option Nat} {x : Nat} (w : World)  (hr : Is32 R r) (hx : Is32 X x) :
    Calls Try.prog 73 #[.float .f32 r, .float .f32 x] w (OnlyQ (wflowO R X) w) := by
  go_enter Try.func73, Try.ntmps73
  go_wp2_with (first | ((with_reducible refine wpList_bin ?_); refine wpList_f32 rfl _ _ _ _ _ rfl rfl rfl (by decide) (by first | assumption | exact Is32.c (by decide)) (by first | assumption | exact Is32.c (by decide)) ?_; intro z n hz) | ((with_reducible refine wpList_bin ?_); refine wpList_c32 rfl _ _ _ _ _ rfl rfl rfl (by decide) (by first | assumption | exact Is32.c (by decide)) (by first | assumption | exact Is32.c (by decide)) ?_; intro bb hbb; cases bb) | (go_at_call 72; refine (isPositive_o _ (by first | assumption | exact Is32.c (by decide))).mono ?_; rintro e w' ⟨bb, hbb, rfl, rfl⟩; cases bb) | (go_at_call 71; refine (isAmount_o _ (by first | assumption | exact Is32.c (by decide))).mono ?_; rintro e w' ⟨bb, hbb, rfl, rfl⟩; cases bb) | (go_at_call 123; refine (rootNumber_o _ (by first | assumption | exact Is32.c (by decide))).mono ?_; rintro e w' ⟨z, rfl, hz, q, rfl⟩) | (go_at_call 113; refine (finiteOnly_o _ (by first | assumption | exact Is32.c (by decide))).mono ?_; rintro e w' ⟨z, bb, rfl, hbb, hz, rfl⟩; cases bb))
  all_goals go_ret2
  all_goals (refine ⟨_, _, rfl, ?_, ?_, (by first | exact ⟨_, rfl⟩ | exact ⟨0, rfl⟩ | exact drewC _ _ _ ⟨_, rfl⟩ | exact drewC _ _ _ (drewC _ _ _ ⟨_, rfl⟩) | exact drewC _ _ _ (drewC _ _ _ (drewC _ _ _ ⟨_, rfl⟩)) | exact drewC _ _ _ (drewC _ _ _ (drewC _ _ _ (drewC _ _ _ ⟨_, rfl⟩))))⟩; (simp [wflowO, wflowU, *]); first | (simp [wflowO, wflowU, *]; done) | (simp [wflowO, wflowU, *]; exact Is32.c (by decide)) | (simp [wflowO, wflowU, *]; assumption))

set_option maxHeartbeats 4000000 in
theorem l05Flow_o {R : Option Nat} {r : Nat} {X : Option Nat} {x : Nat} (w : World)  (hr : Is32 R r) (hx : Is32 X x) :
    Calls Try.prog 122 #[.float .f32 r, .float .f32 x] w (NumQ (wflowU R X) w) := by
  go_enter Try.func122, Try.ntmps122
  go_wp2_with (first | ((with_reducible refine wpList_bin ?_); refine wpList_f32 rfl _ _ _ _ _ rfl rfl rfl (by decide) (by first | assumption | exact Is32.c (by decide)) (by first | assumption | exact Is32.c (by decide)) ?_; intro z n hz) | ((with_reducible refine wpList_bin ?_); refine wpList_c32 rfl _ _ _ _ _ rfl rfl rfl (by decide) (by first | assumption | exact Is32.c (by decide)) (by first | assumption | exact Is32.c (by decide)) ?_; intro bb hbb; cases bb) | (go_at_call 121; refine (l01Sqrt_o _ (by first | assumption | exact Is32.c (by decide))).mono ?_; rintro e w' ⟨z, rfl, hz, q, rfl⟩))
  all_goals go_ret
  all_goals (refine ⟨_, rfl, ?_, (by first | exact ⟨_, rfl⟩ | exact ⟨0, rfl⟩ | exact drewC _ _ _ ⟨_, rfl⟩ | exact drewC _ _ _ (drewC _ _ _ ⟨_, rfl⟩) | exact drewC _ _ _ (drewC _ _ _ (drewC _ _ _ ⟨_, rfl⟩)) | exact drewC _ _ _ (drewC _ _ _ (drewC _ _ _ (drewC _ _ _ ⟨_, rfl⟩))))⟩; first | assumption  | (simp [wflowU, *]; done) | (simp [wflowU, *]; exact Is32.c (by decide)) | (simp [wflowU, *]; assumption))

set_option maxHeartbeats 4000000 in
theorem breakAt_o {D : Option Nat} {d : Nat} {P : Option Nat} {p : Nat} {T : Option Nat} {t : Nat} (w : World)  (hd : Is32 D d) (hp : Is32 P p) (ht : Is32 T t) :
    Calls Try.prog 112 #[.float .f32 d, .float .f32 p, .float .f32 t] w (DubQ (breakI D P T) w) := by
  go_enter Try.func112, Try.ntmps112
  go_wp2_with (first | ((with_reducible refine wpList_bin ?_); refine wpList_f32 rfl _ _ _ _ _ rfl rfl rfl (by decide) (by first | assumption | exact Is32.c (by decide) | exact Is32.neg (by assumption)) (by first | assumption | exact Is32.c (by decide) | exact Is32.neg (by assumption)) ?_; intro z n hz) | ((with_reducible refine wpList_bin ?_); refine wpList_c32 rfl _ _ _ _ _ rfl rfl rfl (by decide) (by first | assumption | exact Is32.c (by decide) | exact Is32.neg (by assumption)) (by first | assumption | exact Is32.c (by decide) | exact Is32.neg (by assumption)) ?_; intro bb hbb; cases bb) | (go_at_call 72; refine (isPositive_o _ (by first | assumption | exact Is32.c (by decide))).mono ?_; rintro e w' ⟨bb, hbb, rfl, rfl⟩; cases bb) | (go_at_call 87; refine (isFin_o _ (by first | assumption | exact Is32.c (by decide))).mono ?_; rintro e w' ⟨bb, hbb, rfl, rfl⟩; cases bb) | (go_at_call 123; refine (rootNumber_o _ (by first | assumption | exact Is32.c (by decide))).mono ?_; rintro e w' ⟨z, rfl, hz, q, rfl⟩))
  all_goals go_ret3
  all_goals (refine ⟨_, _, _, rfl, ?_, ?_, ?_, (by first | exact ⟨_, rfl⟩ | exact ⟨0, rfl⟩ | exact drewC _ _ _ ⟨_, rfl⟩ | exact drewC _ _ _ (drewC _ _ _ ⟨_, rfl⟩) | exact drewC _ _ _ (drewC _ _ _ (drewC _ _ _ ⟨_, rfl⟩)) | exact drewC _ _ _ (drewC _ _ _ (drewC _ _ _ (drewC _ _ _ ⟨_, rfl⟩))))⟩; (simp [breakI, celC, *]); all_goals (first | assumption | (simp [breakI, celC, *]; done) | (simp [breakI, celC, *]; exact Is32.c (by decide)) | (simp [breakI, celC, *]; assumption)))

set_option maxHeartbeats 4000000 in
theorem breakDepth_q0 {D : Option Nat} {d : Nat} {P : Option Nat} {p : Nat} {T : Option Nat} {t : Nat} (w : World)  (hd : Is32 D d) (hp : Is32 P p) (ht : Is32 T t) :
    Calls Try.prog 57 #[.float .f32 d, .float .f32 p, .float .f32 t] w (OnlyQ (((breakI D P T).1, (breakI D P T).2.2)) w) := by
  go_enter Try.func57, Try.ntmps57
  go_wp2_with (first | ((with_reducible refine wpList_bin ?_); refine wpList_f32 rfl _ _ _ _ _ rfl rfl rfl (by decide) (by first | assumption | exact Is32.c (by decide) | exact Is32.neg (by assumption)) (by first | assumption | exact Is32.c (by decide) | exact Is32.neg (by assumption)) ?_; intro z n hz) | ((with_reducible refine wpList_bin ?_); refine wpList_c32 rfl _ _ _ _ _ rfl rfl rfl (by decide) (by first | assumption | exact Is32.c (by decide) | exact Is32.neg (by assumption)) (by first | assumption | exact Is32.c (by decide) | exact Is32.neg (by assumption)) ?_; intro bb hbb; cases bb) | (go_at_call 112; refine (breakAt_o _ (by first | assumption | exact Is32.c (by decide)) (by first | assumption | exact Is32.c (by decide)) (by first | assumption | exact Is32.c (by decide))).mono ?_; rintro e w' ⟨z, z2, bb, rfl, hbb, hz, hz2, q, rfl⟩; cases bb))
  all_goals go_ret2
  all_goals (refine ⟨_, _, rfl, ?_, ?_, (by first | exact ⟨_, rfl⟩ | exact ⟨0, rfl⟩ | exact drewC _ _ _ ⟨_, rfl⟩ | exact drewC _ _ _ (drewC _ _ _ ⟨_, rfl⟩) | exact drewC _ _ _ (drewC _ _ _ (drewC _ _ _ ⟨_, rfl⟩)) | exact drewC _ _ _ (drewC _ _ _ (drewC _ _ _ (drewC _ _ _ ⟨_, rfl⟩))))⟩; (simp [*]); first | (simp [*]; done) | (simp [*]; exact Is32.c (by decide)) | (simp [*]; assumption))

set_option maxHeartbeats 4000000 in
theorem breakFlow_q0 {D : Option Nat} {d : Nat} {P : Option Nat} {p : Nat} {T : Option Nat} {t : Nat} (w : World)  (hd : Is32 D d) (hp : Is32 P p) (ht : Is32 T t) :
    Calls Try.prog 58 #[.float .f32 d, .float .f32 p, .float .f32 t] w (OnlyQ (bflowI D P T) w) := by
  go_enter Try.func58, Try.ntmps58
  go_wp2_with (first | ((with_reducible refine wpList_bin ?_); refine wpList_f32 rfl _ _ _ _ _ rfl rfl rfl (by decide) (by first | assumption | exact Is32.c (by decide) | exact Is32.neg (by assumption)) (by first | assumption | exact Is32.c (by decide) | exact Is32.neg (by assumption)) ?_; intro z n hz) | ((with_reducible refine wpList_bin ?_); refine wpList_c32 rfl _ _ _ _ _ rfl rfl rfl (by decide) (by first | assumption | exact Is32.c (by decide) | exact Is32.neg (by assumption)) (by first | assumption | exact Is32.c (by decide) | exact Is32.neg (by assumption)) ?_; intro bb hbb; cases bb) | (go_at_call 112; refine (breakAt_o _ (by first | assumption | exact Is32.c (by decide)) (by first | assumption | exact Is32.c (by decide)) (by first | assumption | exact Is32.c (by decide))).mono ?_; rintro e w' ⟨z, z2, bb, rfl, hbb, hz, hz2, q, rfl⟩; cases bb) | (go_at_call 113; refine (finiteOnly_o _ (by first | assumption | exact Is32.c (by decide))).mono ?_; rintro e w' ⟨z, bb, rfl, hbb, hz, rfl⟩; cases bb))
  all_goals go_ret2
  all_goals (refine ⟨_, _, rfl, ?_, ?_, (by first | exact ⟨_, rfl⟩ | exact ⟨0, rfl⟩ | exact drewC _ _ _ ⟨_, rfl⟩ | exact drewC _ _ _ (drewC _ _ _ ⟨_, rfl⟩) | exact drewC _ _ _ (drewC _ _ _ (drewC _ _ _ ⟨_, rfl⟩)) | exact drewC _ _ _ (drewC _ _ _ (drewC _ _ _ (drewC _ _ _ ⟨_, rfl⟩))))⟩; (simp [bflowI, *]); first | (simp [bflowI, *]; done) | (simp [bflowI, *]; exact Is32.c (by decide)) | (simp [bflowI, *]; assumption))

theorem OnlyQ.b {v : Option Nat × Bool} {w w' : World} {e : Ending} (h : OnlyQ v w e w') : OnlyB v w e w' := by
  obtain ⟨r, b, h1, h2, h3, n, rfl⟩ := h; exact ⟨r, b, h1, h2, h3, beld (Below.refl _ _) n⟩
theorem waveFlow_i {R : Option Nat} {r : Nat} {X : Option Nat} {x : Nat} (w : World) (hr : Is32 R r) (hx : Is32 X x) :
    Calls Try.prog 73 #[.float .f32 r, .float .f32 x] w (OnlyB (wflowO R X) w) := (waveFlow_q w hr hx).mono fun _ _ h => OnlyQ.b h
theorem breakDepth_i {D : Option Nat} {d : Nat} {P : Option Nat} {p : Nat} {T : Option Nat} {t : Nat} (w : World) (hd : Is32 D d) (hp : Is32 P p) (ht : Is32 T t) :
    Calls Try.prog 57 #[.float .f32 d, .float .f32 p, .float .f32 t] w (OnlyB (bdepthO D P T) w) := (breakDepth_q0 w hd hp ht).mono fun _ _ h => OnlyQ.b (bdepth_eq ▸ h)
theorem breakFlow_i {D : Option Nat} {d : Nat} {P : Option Nat} {p : Nat} {T : Option Nat} {t : Nat} (w : World) (hd : Is32 D d) (hp : Is32 P p) (ht : Is32 T t) :
    Calls Try.prog 58 #[.float .f32 d, .float .f32 p, .float .f32 t] w (OnlyB (bflowO D P T) w) := (breakFlow_q0 w hd hp ht).mono fun _ _ h => OnlyQ.b (bflow_eq ▸ h)
end Go.Proofs.Ytgnkpppbhibfoaa
