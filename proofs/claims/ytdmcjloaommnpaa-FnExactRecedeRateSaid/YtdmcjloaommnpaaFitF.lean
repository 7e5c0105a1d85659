/- Floods fitted to a gauge: the program and its model alike. -/
import Derived.Test.YtdmcjloaommnpaaGauL
import Derived.Test.YtdmcjloaommnpaaRootO
namespace Go.Proofs.Ytdmcjloaommnpaa
open Go.RowKit
set_option linter.unusedVariables false
set_option linter.unusedSimpArgs false
set_option maxRecDepth 100000
attribute [local irreducible] wpV wpList Code.wp

def subL (M : Option Nat) (zs : List Nat) : List (Option Nat) := mapL (fun z => fop .sub .f32 (some z) M) zs zs.length
def varO (M : Option Nat) (zs : List Nat) : Option Nat := sqO (subL M zs) zs.length
def fitM (zs : List Nat) : Option Nat := meanO (fsum zs) zs.length
def fitS (zs : List Nat) : Option Nat := fop .mul .f32 (some 1061657142) (rootO (fop .quo .f32 (varO (fitM zs) zs) (some (iF ((zs.length : Int) - 1)))))
def fitP (zs : List Nat) : Option Nat := fop .sub .f32 (fitM zs) (fop .mul .f32 (some 1058260072) (fitS zs))
def fitO (zs : List Nat) : Option Nat × Option Nat × Bool := if gauB zs && decide (2 ≤ zs.length) then pairO (fitP zs) (fitS zs) else (some 0, some 0, false)
theorem fit_no {zs : List Nat} (h : gauB zs = false) : fitO zs = (some 0, some 0, false) := by unfold fitO; rw [h]; rfl
theorem fit_few {zs : List Nat} (h : ¬ 2 ≤ zs.length) : fitO zs = (some 0, some 0, false) := by unfold fitO; rw [decide_eq_false h, Bool.and_false]; rfl
theorem fit_go {zs : List Nat} (h : gauB zs = true) (h2 : 2 ≤ zs.length) : fitO zs = pairO (fitP zs) (fitS zs) := by unfold fitO; rw [h, decide_eq_true h2]; rfl
theorem pairO_both {X Y : Option Nat} (h : fin32o X = true) (h2 : fin32o Y = true) : pairO X Y = (X, Y, true) := by unfold pairO; rw [h, h2]; rfl
theorem pairO_no1 {X Y : Option Nat} (h : fin32o X = false) : pairO X Y = (some 0, some 0, false) := by unfold pairO; rw [h]; rfl
theorem pairO_no2 {X Y : Option Nat} (h : fin32o Y = false) : pairO X Y = (some 0, some 0, false) := by unfold pairO; rw [h, Bool.and_false]; rfl
theorem sq_of {M : Option Nat} {zs ls : List Nat} {q : Nat} (h : Is32s (subL M zs) ls) (hq : Is32 (fdot ls ls ls.length) q) : Is32 (varO M zs) q := by
  have hl : ls.length = zs.length := by rw [← h.1]; exact mapL_len _ _ _
  rw [sq_dot h _ (Nat.le_refl _), hl] at hq; exact hq

set_option maxHeartbeats 8000000 in
theorem fitFloods_i (a : Option Addr) (cap : Nat) (zs : List Nat) (w : World) (h : RowF .f32 w a zs) (hl : zs.length ≤ 1048576) (hz : ∀ z ∈ zs, z < 4294967296) :
    Calls Try.prog 23 #[.slice a zs.length cap] w (DubB (fitO zs) w) := by
  have Hr := Lib.hid (isGauge_i a cap zs w h hl hz)
  have H := Lib.hid h
  have Hz := Lib.hid hz
  clear h hz
  have Hno := Lib.hid (@fit_no zs)
  have Hfew := Lib.hid (@fit_few zs)
  have Hgo := Lib.hid (@fit_go zs)
  have Hlen := Lib.hid (@gauB_len zs)
  generalize fitO zs = R at *
  have hf1 : Is32 (some (iF ((zs.length : Int) - 1))) (floatOfInt .f32 ((zs.length : Int) - 1)) := iF_is _
  have HF1 := Lib.hid hf1
  clear hf1
  go_enter Try.func23, Try.ntmps23
  go_wp2_with fail
  refine Hr.out.mono ?_
  rintro e w1 ⟨bb, hbb, rfl, hb⟩
  have HB := Lib.hid hb
  have H1 := Lib.hid (H.out.below hb (Nat.le_refl _))
  clear hb
  have Hbb := Lib.hid hbb
  clear hbb
  cases bb
  · go_wp2_with fail
    go_ret3
    rw [Hno.out Hbb.out]
    exact ⟨_, _, _, rfl, rfl, Is32.c (by decide), Is32.c (by decide), HB.out⟩
  have h128 := Hlen.out Hbb.out
  by_cases h2 : ((zs.length : Nat) : Int) < 2
  · go_wp2_with fail
    go_ret3
    rw [Hfew.out (by omega)]
    exact ⟨_, _, _, rfl, rfl, Is32.c (by decide), Is32.c (by decide), HB.out⟩
  have hR := Hgo.out Hbb.out (by omega)
  have HR := Lib.hid hR
  clear hR
  go_wp2_with fail
  refine (meanOf_any a cap zs _ H1.out (by omega)).mono ?_
  rintro e w2 ⟨m, rfl, hm, n2, rfl⟩
  have Hm := Lib.hid hm
  clear hm
  go_wp2_with fail
  refine (lessOf_any a cap zs _ (H1.out.drewN n2) (by omega) Hz.out Hm.out).mono ?_
  rintro e w3 ⟨b, nn, cp, ls, rfl, hnn, his, hrow, hge, hb⟩
  subst hnn
  have hll : ls.length ≤ 256 := by rw [← his.1, mapL_len]; omega
  have HB3 := Lib.hid ((beld HB.out n2).trans (hb.mono (beld HB.out n2).size))
  have His := Lib.hid his
  have Hrow := Lib.hid hrow
  clear his hrow hb hge HB
  go_wp2_with fail
  refine (squaresOf_any (some ⟨b, 0, none⟩) cp ls _ Hrow.out (by omega)).mono ?_
  rintro e w4 ⟨q, rfl, hq, n4, rfl⟩
  have hq2 := sq_of His.out hq
  clear hq
  have HB := HB3
  clear HB3
  have hf1 := HF1.out
  have hm9 := Hm.out
  go_wp2_with (first | ((with_reducible refine wpList_bin ?_); refine wpList_f32 rfl _ _ _ _ _ rfl rfl rfl (by decide) (by first | assumption | exact Is32.c (by decide)) (by first | assumption | exact Is32.c (by decide)) ?_; intro z n hz) | ((with_reducible refine wpList_bin ?_); refine wpList_c32 rfl _ _ _ _ _ rfl rfl rfl (by decide) (by first | assumption | exact Is32.c (by decide)) (by first | assumption | exact Is32.c (by decide)) ?_; intro bb hbb; cases bb) | (go_at_call 67; refine (rootNumber_o _ (by assumption)).mono ?_; rintro e w' ⟨z, rfl, hz, n, rfl⟩) | (go_at_call 70; refine (finitePair_o _ (by assumption) (by assumption)).mono ?_; rintro e w' ⟨z1, z2, bb, rfl, hbb, h1, h2, rfl⟩))
  go_ret3
  rw [HR.out]
  exact ⟨_, _, _, rfl, hbb, h1, h2, (by first | exact HB.out | exact beld HB.out _ | exact beld (beld HB.out _) _ | exact beld (beld (beld HB.out _) _) _ | exact beld (beld (beld (beld HB.out _) _) _) _ | exact beld (beld (beld (beld (beld HB.out _) _) _) _) _)⟩

set_option maxHeartbeats 8000000 in
theorem fitFloods_s (a : Option Addr) (cap : Nat) (zs : List Nat) (w : World) (h : RowF .f32 w a zs) (hl : zs.length ≤ 1048576) (hz : ∀ z ∈ zs, z < 4294967296) :
    Calls Try.prog 22 #[.slice a zs.length cap] w (DubB (fitO zs) w) := by
  have Hr := Lib.hid (l07Gauge_o a cap zs w h hl hz)
  have H := Lib.hid h
  have Hz := Lib.hid hz
  clear h hz
  have Hno := Lib.hid (@fit_no zs)
  have Hfew := Lib.hid (@fit_few zs)
  have Hgo := Lib.hid (@fit_go zs)
  have Hlen := Lib.hid (@gauB_len zs)
  generalize fitO zs = R at *
  have hf1 : Is32 (some (iF ((zs.length : Int) - 1))) (floatOfInt .f32 ((zs.length : Int) - 1)) := iF_is _
  have HF1 := Lib.hid hf1
  clear hf1
  go_enter Try.func22, Try.ntmps22
  go_wp2_with fail
  refine Hr.out.mono ?_
  rintro e w1 ⟨bb, hbb, rfl, n1, rfl⟩
  have HB : Hid (Below w.heap.size w (w.drewN n1)) := Lib.hid (beld (Below.refl _ _) _)
  have H1 := Lib.hid (H.out.below HB.out (Nat.le_refl _))
  generalize w.drewN n1 = w1 at *
  have Hbb := Lib.hid hbb
  clear hbb
  cases bb
  · go_wp2_with fail
    go_ret3
    rw [Hno.out Hbb.out]
    exact ⟨_, _, _, rfl, rfl, Is32.c (by decide), Is32.c (by decide), HB.out⟩
  have h128 := Hlen.out Hbb.out
  by_cases h2 : ((zs.length : Nat) : Int) < 2
  · go_wp2_with fail
    go_ret3
    rw [Hfew.out (by omega)]
    exact ⟨_, _, _, rfl, rfl, Is32.c (by decide), Is32.c (by decide), HB.out⟩
  have hR := Hgo.out Hbb.out (by omega)
  have HR := Lib.hid hR
  clear hR
  go_wp2_with fail
  refine (l07Mean_any a cap zs _ H1.out (by omega)).mono ?_
  rintro e w2 ⟨m, rfl, hm, n2, rfl⟩
  have Hm := Lib.hid hm
  clear hm
  go_wp2_with fail
  refine (l07Squares_any a cap zs _ (H1.out.drewN n2) (by omega) Hz.out Hm.out).mono ?_
  rintro e w4 ⟨q, rfl, hq2, n4, rfl⟩
  have hf1 := HF1.out
  have hm9 := Hm.out
  go_wp2_with (first | ((with_reducible refine wpList_bin ?_); refine wpList_f32 rfl _ _ _ _ _ rfl rfl rfl (by decide) (by first | assumption | exact Is32.c (by decide)) (by first | assumption | exact Is32.c (by decide)) ?_; intro z n hz) | ((with_reducible refine wpList_bin ?_); refine wpList_c32 rfl _ _ _ _ _ rfl rfl rfl (by decide) (by first | assumption | exact Is32.c (by decide)) (by first | assumption | exact Is32.c (by decide)) ?_; intro bb hbb; cases bb) | (go_at_call 64; refine (l01Sqrt_o _ (by assumption)).mono ?_; rintro e w' ⟨z, rfl, hz, n, rfl⟩) | (go_at_call 56; refine (l01Fin_o _ (by assumption)).mono ?_; rintro e w' ⟨bb, hbb, rfl, n, rfl⟩; cases bb))
  all_goals go_ret3
  all_goals rw [HR.out]
  all_goals first | (rw [pairO_no2 (by assumption)]; exact ⟨_, _, _, rfl, rfl, Is32.c (by decide), Is32.c (by decide), (by first | exact HB.out | exact beld HB.out _ | exact beld (beld HB.out _) _ | exact beld (beld (beld HB.out _) _) _ | exact beld (beld (beld (beld HB.out _) _) _) _ | exact beld (beld (beld (beld (beld HB.out _) _) _) _) _)⟩) | (rw [pairO_no1 (by assumption)]; exact ⟨_, _, _, rfl, rfl, Is32.c (by decide), Is32.c (by decide), (by first | exact HB.out | exact beld HB.out _ | exact beld (beld HB.out _) _ | exact beld (beld (beld HB.out _) _) _ | exact beld (beld (beld (beld HB.out _) _) _) _ | exact beld (beld (beld (beld (beld HB.out _) _) _) _) _)⟩) | (rw [pairO_both (by assumption) (by assumption)]; exact ⟨_, _, _, rfl, rfl, by assumption, by assumption, (by first | exact HB.out | exact beld HB.out _ | exact beld (beld HB.out _) _ | exact beld (beld (beld HB.out _) _) _ | exact beld (beld (beld (beld HB.out _) _) _) _ | exact beld (beld (beld (beld (beld HB.out _) _) _) _) _)⟩)

end Go.Proofs.Ytdmcjloaommnpaa
