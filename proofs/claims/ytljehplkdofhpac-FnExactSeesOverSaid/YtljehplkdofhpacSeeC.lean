/- How one sees over a line: values, the program's walk along a line. -/
import Derived.Test.YtljehplkdofhpacHillOf
import Derived.Test.YtljehplkdofhpacRainA
import Derived.Deep.Cut
namespace Go.Proofs.Ytljehplkdofhpac
open Go.RowKit
set_option linter.unusedVariables false
set_option linter.unusedSimpArgs false
set_option maxRecDepth 100000
attribute [local irreducible] wpV wpList Code.wp

def iF (n : Int) : Nat := floatOfInt .f32 n
theorem iF_lt (n : Int) : iF n < 4294967296 := by unfold iF floatOfInt FloatKind.nearest; exact write_lt32 _
theorem iF_is (n : Int) : Is32 (some (iF n)) (iF n) := Is32.c (iF_lt n)
def seeE (h0 : Nat) (X : Option Nat) : Option Nat := fop .add .f32 (some h0) X
def seeL (h0 hk : Nat) (X : Option Nat) (far n : Nat) : Option Nat := fop .add .f32 (seeE h0 X) (fop .mul .f32 (fop .quo .f32 (some (iF (n : Int))) (some (iF (far : Int)))) (fop .sub .f32 (some hk) (seeE h0 X)))
def linesTo (h0 hk : Nat) (X : Option Nat) (far : Nat) : Nat → Bool
  | 0 => true
  | m + 1 => linesTo h0 hk X far m && fin32o (seeL h0 hk X far (m + 1))
def clearTo (h0 hk : Nat) (hat : Nat → Nat) (X : Option Nat) (far : Nat) : Nat → Bool
  | 0 => true
  | m + 1 => clearTo h0 hk hat X far m && !(fcmp .gtr .f32 (some (hat (m + 1))) (seeL h0 hk X far (m + 1)))
def see (h0 hk : Nat) (hat : Nat → Nat) (far : Nat) (X : Option Nat) : Bool × Bool := if fin32o (seeE h0 X) && linesTo h0 hk X far (far - 1) then (clearTo h0 hk hat X far (far - 1), true) else (false, false)
theorem linesTo_not {h0 hk : Nat} {X : Option Nat} {far k : Nat} (h : fin32o (seeL h0 hk X far (k + 1)) = false) : ∀ m, k < m → linesTo h0 hk X far m = false
  | 0, hm => by omega
  | m + 1, hm => by
    unfold linesTo
    by_cases e : k = m
    · subst e; rw [h, Bool.and_false]
    · rw [linesTo_not h m (by omega), Bool.false_and]
theorem clearTo_congr {h0 hk : Nat} {f g : Nat → Nat} {X : Option Nat} {far : Nat} : ∀ {m : Nat}, (∀ n, 1 ≤ n → n ≤ m → f n = g n) → clearTo h0 hk f X far m = clearTo h0 hk g X far m
  | 0, _ => rfl
  | m + 1, h => by
    unfold clearTo
    rw [clearTo_congr (m := m) (fun n h1 h2 => h n h1 (by omega)), h (m + 1) (by omega) (Nat.le_refl _)]
theorem see_congr {h0 hk : Nat} {f g : Nat → Nat} {X : Option Nat} {far : Nat} (h : ∀ n, 1 ≤ n → n ≤ far - 1 → f n = g n) : see h0 hk f far X = see h0 hk g far X := by
  unfold see
  rw [clearTo_congr h]

set_option maxHeartbeats 4000000 in
theorem seesAlong_up (a : Option Addr) (cap fr to : Nat) (ln : List Nat) {X : Option Nat} {x : Nat} (w : World) (h : RowF .f32 w a ln) (hl : ln.length ≤ 16) (hf : fr < ln.length) (ht : to < ln.length) (hne : fr < to) (hx : Is32 X x) (hz9 : ∀ z ∈ ln, z < 4294967296) :
    Calls Try.prog 86 #[.slice a ln.length cap, .int .i64 (fr : Int), .int .i64 (to : Int), .float .f32 x] w fun e w' => e = .returned (.tuple #[.bool (see (ln.getD fr 0) (ln.getD to 0) (fun n => ln.getD (fr + n) 0) (to - fr) X).1, .bool (see (ln.getD fr 0) (ln.getD to 0) (fun n => ln.getD (fr + n) 0) (to - fr) X).2]) ∧ ∃ n, w' = w.drewN n := by
  have H := Lib.hid h
  have hzz : ∀ j, j < ln.length → ln.getD j 0 < 4294967296 := fun j hj => by rw [List.getD_eq_getElem?_getD, List.getElem?_eq_getElem hj]; exact hz9 _ (List.getElem_mem _)
  clear h hz9
  obtain ⟨far, hfar⟩ : ∃ far, to - fr = far := ⟨_, rfl⟩
  have hfr : ((to : Int) - (fr : Int) : Int) = (far : Int) := by omega
  have hf1 : 1 ≤ far := by omega
  have hfp : 0 < far := by omega
  have hf2 : far ≤ 16 := by omega
  have hw1 : IntKind.i64.wrap (far : Int) = (far : Int) := IntWalk.i64_in _ (by omega)
  have hnn : ¬ (far : Int) < 0 := by omega
  rw [hfar]
  obtain ⟨hat, hhat⟩ : ∃ f : Nat → Nat, (fun n => ln.getD (fr + n) 0) = f := ⟨_, rfl⟩
  rw [hhat]
  obtain ⟨V, hV⟩ : ∃ V, see (ln.getD fr 0) (ln.getD to 0) hat far X = V := ⟨_, rfl⟩
  have HHat := Lib.hid hhat
  rw [hV]
  obtain ⟨h0, hh0⟩ : ∃ h, ln.getD fr 0 = h := ⟨_, rfl⟩
  obtain ⟨hk, hhk⟩ : ∃ h, ln.getD to 0 = h := ⟨_, rfl⟩
  have hi0 : Is32 (some h0) h0 := Is32.c (by rw [← hh0]; exact hzz fr hf)
  have hik : Is32 (some hk) hk := Is32.c (by rw [← hhk]; exact hzz to ht)
  obtain ⟨b, off, rfl, hc0⟩ := H.out.cells fr hf
  have hck : w.cell? ⟨b, off + to, none⟩ = some (.float .f32 hk) := by obtain ⟨b', o', h1, h2⟩ := H.out.cells to ht; cases h1; rw [← hhk]; exact h2
  have HCn : Hid (∀ j, j < ln.length → w.cell? ⟨b, off + j, none⟩ = some (.float .f32 (ln.getD j 0))) := Lib.hid fun j hj => by obtain ⟨b', o', h1, h2⟩ := H.out.cells j hj; cases h1; exact h2
  rw [hh0] at hc0 hV
  rw [hhk] at hV
  have HV := Lib.hid hV
  have Hzz := Lib.hid hzz
  have hp0 : (0 : Int) ≤ (fr : Int) := by omega
  have hp1 : (fr : Int) < (ln.length : Int) := by omega
  have hp2 : (0 : Int) ≤ (to : Int) := by omega
  have hp3 : (to : Int) < (ln.length : Int) := by omega
  have hff : Is32 (some (iF (far : Int))) (floatOfInt .f32 (far : Int)) := iF_is _
  have Hfar := Lib.hid hfar
  have HCk := Lib.hid hck
  clear hV hh0 hhk hzz H hfar hck hhat
  go_enter Try.func86, Try.ntmps86
  go_wp2_with (first | ((with_reducible refine wpList_bin ?_); refine wpList_f32 rfl _ _ _ _ _ rfl rfl rfl (by decide) (by first | assumption | exact Is32.c (by decide)) (by first | assumption | exact Is32.c (by decide)) ?_; intro z n hz))
  have HE : Hid (Is32 (seeE h0 X) z) := Lib.hid hz
  refine (isFin_o _ (show Is32 (seeE h0 X) z from HE.out)).mono ?_
  rintro e w' ⟨bb, hbb, rfl, rfl⟩
  have HF := Lib.hid hbb
  clear hbb
  cases bb
  · have hv : V = (false, false) := by rw [← HV.out]; unfold see; rw [HF.out]; rfl
    have HVx := Lib.hid hv
    clear hv
    go_wp2_with fail
    refine bodyPost_ret (v := .tuple #[.bool false, .bool false]) (by simp [results, Try.results86, go_sem]) rfl ⟨by rw [HVx.out], _, rfl⟩
  go_wp2_with fail
  skip
  go_loopw [14, 13] (fun iv sv  wr => ∃ (kn qd : Nat) (cv : Bool), kn + 1 ≤ far ∧ iv = .int .i64 ((kn : Int) + 1) ∧ sv = .bool cv ∧ Hid (cv = clearTo h0 hk hat X far kn) ∧ Hid (linesTo h0 hk X far kn = true) ∧ Hid (wr = w.drewN qd)) (fun iv _ _ => far - (intOf iv).toNat)
  case atStart => exact ⟨0, _, true, by omega, rfl, rfl, Lib.hid rfl, Lib.hid rfl, Lib.hid rfl⟩
  case round =>
    obtain ⟨kn, qd, cv, hn, rfl, rfl, HCv, HLi, HW⟩ := hrel
    by_cases hlt : kn + 1 < far
    · obtain ⟨m, hm⟩ : ∃ m, kn + 1 = m := ⟨_, rfl⟩
      have hmi : (kn : Int) + 1 = (m : Int) := by omega
      rw [hmi]
      have hmf : (m : Int) < (far : Int) := by omega
      have hq : (fr + m) < ln.length := by have := Hfar.out; omega
      obtain ⟨c, hc⟩ : ∃ c, ln.getD (fr + m) 0 = c := ⟨_, rfl⟩
      have hcm : wr.cell? ⟨b, off + (fr + m), none⟩ = some (.float .f32 c) := by rw [HW.out, ← hc]; exact HCn.out _ hq
      have hck : wr.cell? ⟨b, off + to, none⟩ = some (.float .f32 hk) := by rw [HW.out]; exact HCk.out
      have hic : Is32 (some c) c := Is32.c (by rw [← hc]; exact Hzz.out _ hq)
      have hfm : Is32 (some (iF (m : Int))) (floatOfInt .f32 (m : Int)) := iF_is _
      have HCc := Lib.hid hc
      have Hm := Lib.hid hm
      clear hc
      have hst := HE.out
      have hw2 : IntKind.i64.wrap (m : Int) = (m : Int) := IntWalk.i64_in _ (by omega)
      obtain ⟨qq, hqq⟩ : ∃ q9, fr + m = q9 := ⟨_, rfl⟩
      rw [hqq] at hcm hq
      have hqi : (fr : Int) + (m : Int) = (qq : Int) := by omega
      have hw3 : IntKind.i64.wrap (qq : Int) = (qq : Int) := IntWalk.i64_in _ (by omega)
      have hq0 : (0 : Int) ≤ (qq : Int) := by omega
      have hq1 : (qq : Int) < (ln.length : Int) := by omega
      clear hqq
      go_wp2_with (first | ((with_reducible refine wpList_bin ?_); refine wpList_f32 rfl _ _ _ _ _ rfl rfl rfl (by decide) (by first | assumption | exact Is32.c (by decide)) (by first | assumption | exact Is32.c (by decide)) ?_; intro z n hz))
      skip
      refine (isFin_o _ (show Is32 (seeL h0 hk X far m) _ from by assumption)).mono ?_
      rintro e w' ⟨bb, hbb, rfl, rfl⟩
      have HG := Lib.hid hbb
      clear hbb
      cases bb
      · have hv : V = (false, false) := by rw [← HV.out]; unfold see; rw [linesTo_not (k := kn) (by rw [Hm.out]; exact HG.out) (far - 1) (by omega), Bool.and_false]; rfl
        have HVx := Lib.hid hv
        clear hv
        go_wp2_with fail
        refine bodyPost_ret (v := .tuple #[.bool false, .bool false]) (by simp [results, Try.results86, go_sem]) rfl ⟨by rw [HVx.out], _, by rw [HW.out, World.drewN_drewN]⟩
      go_wp2_with (first | ((with_reducible refine wpList_bin ?_); refine wpList_c32 rfl _ _ _ _ _ rfl rfl rfl (by decide) (by first | assumption | exact Is32.c (by decide)) (by first | assumption | exact Is32.c (by decide)) ?_; intro bb hbb; cases bb))
      all_goals have Hb := Lib.hid (show fcmp .gtr .f32 (some c) (seeL h0 hk X far m) = _ from hbb)
      all_goals clear hbb
      all_goals go_wp2_with fail
      · go_roundw
        case rel => exact ⟨m, _, cv, by omega, by go_num, rfl, Lib.hid (by rw [← Hm.out]; show _ = (clearTo h0 hk hat X far kn && !(fcmp .gtr .f32 (some (hat (kn + 1))) (seeL h0 hk X far (kn + 1)))); rw [Hm.out, ← HHat.out]; show _ = (_ && !(fcmp .gtr .f32 (some (ln.getD (fr + m) 0)) _)); rw [HCc.out, Hb.out, HHat.out, ← HCv.out]; simp), by rw [← Hm.out]; exact Lib.hid (show (linesTo _ _ _ _ _ && fin32o _) = true by rw [HLi.out, Bool.true_and, Hm.out]; exact HG.out), Lib.hid (by first | rw [HW.out, World.drewN_drewN] | (rw [World.drewN_drewN, HW.out, World.drewN_drewN]))⟩
        case measure => simp [intOf]; omega
      · go_roundw
        case rel => exact ⟨m, _, false, by omega, by go_num, rfl, Lib.hid (by rw [← Hm.out]; show _ = (clearTo h0 hk hat X far kn && !(fcmp .gtr .f32 (some (hat (kn + 1))) (seeL h0 hk X far (kn + 1)))); rw [Hm.out, ← HHat.out]; show _ = (_ && !(fcmp .gtr .f32 (some (ln.getD (fr + m) 0)) _)); rw [HCc.out, Hb.out, HHat.out, ← HCv.out]; simp), by rw [← Hm.out]; exact Lib.hid (show (linesTo _ _ _ _ _ && fin32o _) = true by rw [HLi.out, Bool.true_and, Hm.out]; exact HG.out), Lib.hid (by first | rw [HW.out, World.drewN_drewN] | (rw [World.drewN_drewN, HW.out, World.drewN_drewN]))⟩
        case measure => simp [intOf]; omega
    · have hkn : kn + 1 = far := by omega
      have hmi : (kn : Int) + 1 = (far : Int) := by omega
      rw [hmi]
      have hji : ¬ (far : Int) < (far : Int) := by omega
      have hv : V = (cv, true) := by rw [← HV.out]; unfold see; rw [HF.out, show far - 1 = kn by omega, HLi.out, HCv.out]; rfl
      have HVx := Lib.hid hv
      clear hv
      go_wp2_with fail
      refine bodyPost_ret (v := .tuple #[.bool cv, .bool true]) (by simp [results, Try.results86, go_sem]) rfl ⟨by rw [HVx.out], _, HW.out⟩

set_option maxHeartbeats 4000000 in
theorem seesAlong_down (a : Option Addr) (cap fr to : Nat) (ln : List Nat) {X : Option Nat} {x : Nat} (w : World) (h : RowF .f32 w a ln) (hl : ln.length ≤ 16) (hf : fr < ln.length) (ht : to < ln.length) (hne : to < fr) (hx : Is32 X x) (hz9 : ∀ z ∈ ln, z < 4294967296) :
    Calls Try.prog 86 #[.slice a ln.length cap, .int .i64 (fr : Int), .int .i64 (to : Int), .float .f32 x] w fun e w' => e = .returned (.tuple #[.bool (see (ln.getD fr 0) (ln.getD to 0) (fun n => ln.getD (fr - n) 0) (fr - to) X).1, .bool (see (ln.getD fr 0) (ln.getD to 0) (fun n => ln.getD (fr - n) 0) (fr - to) X).2]) ∧ ∃ n, w' = w.drewN n := by
  have H := Lib.hid h
  have hzz : ∀ j, j < ln.length → ln.getD j 0 < 4294967296 := fun j hj => by rw [List.getD_eq_getElem?_getD, List.getElem?_eq_getElem hj]; exact hz9 _ (List.getElem_mem _)
  clear h hz9
  obtain ⟨far, hfar⟩ : ∃ far, fr - to = far := ⟨_, rfl⟩
  have hfr : ((fr : Int) - (to : Int) : Int) = (far : Int) := by omega
  have hfr2 : (to : Int) - (fr : Int) = -(far : Int) := by omega
  have hfneg : -(far : Int) < 0 := by omega
  have hw6 : IntKind.i64.wrap (-(far : Int)) = -(far : Int) := IntWalk.i64_in _ (by omega)
  have hf1 : 1 ≤ far := by omega
  have hfp : 0 < far := by omega
  have hf2 : far ≤ 16 := by omega
  have hw1 : IntKind.i64.wrap (far : Int) = (far : Int) := IntWalk.i64_in _ (by omega)
  have hnn : ¬ (far : Int) < 0 := by omega
  rw [hfar]
  obtain ⟨hat, hhat⟩ : ∃ f : Nat → Nat, (fun n => ln.getD (fr - n) 0) = f := ⟨_, rfl⟩
  rw [hhat]
  obtain ⟨V, hV⟩ : ∃ V, see (ln.getD fr 0) (ln.getD to 0) hat far X = V := ⟨_, rfl⟩
  have HHat := Lib.hid hhat
  rw [hV]
  obtain ⟨h0, hh0⟩ : ∃ h, ln.getD fr 0 = h := ⟨_, rfl⟩
  obtain ⟨hk, hhk⟩ : ∃ h, ln.getD to 0 = h := ⟨_, rfl⟩
  have hi0 : Is32 (some h0) h0 := Is32.c (by rw [← hh0]; exact hzz fr hf)
  have hik : Is32 (some hk) hk := Is32.c (by rw [← hhk]; exact hzz to ht)
  obtain ⟨b, off, rfl, hc0⟩ := H.out.cells fr hf
  have hck : w.cell? ⟨b, off + to, none⟩ = some (.float .f32 hk) := by obtain ⟨b', o', h1, h2⟩ := H.out.cells to ht; cases h1; rw [← hhk]; exact h2
  have HCn : Hid (∀ j, j < ln.length → w.cell? ⟨b, off + j, none⟩ = some (.float .f32 (ln.getD j 0))) := Lib.hid fun j hj => by obtain ⟨b', o', h1, h2⟩ := H.out.cells j hj; cases h1; exact h2
  rw [hh0] at hc0 hV
  rw [hhk] at hV
  have HV := Lib.hid hV
  have Hzz := Lib.hid hzz
  have hp0 : (0 : Int) ≤ (fr : Int) := by omega
  have hp1 : (fr : Int) < (ln.length : Int) := by omega
  have hp2 : (0 : Int) ≤ (to : Int) := by omega
  have hp3 : (to : Int) < (ln.length : Int) := by omega
  have hff : Is32 (some (iF (far : Int))) (floatOfInt .f32 (far : Int)) := iF_is _
  have Hfar := Lib.hid hfar
  have HCk := Lib.hid hck
  clear hV hh0 hhk hzz H hfar hck hhat
  go_enter Try.func86, Try.ntmps86
  go_wp2_with (first | ((with_reducible refine wpList_bin ?_); refine wpList_f32 rfl _ _ _ _ _ rfl rfl rfl (by decide) (by first | assumption | exact Is32.c (by decide)) (by first | assumption | exact Is32.c (by decide)) ?_; intro z n hz))
  have HE : Hid (Is32 (seeE h0 X) z) := Lib.hid hz
  refine (isFin_o _ (show Is32 (seeE h0 X) z from HE.out)).mono ?_
  rintro e w' ⟨bb, hbb, rfl, rfl⟩
  have HF := Lib.hid hbb
  clear hbb
  cases bb
  · have hv : V = (false, false) := by rw [← HV.out]; unfold see; rw [HF.out]; rfl
    have HVx := Lib.hid hv
    clear hv
    go_wp2_with fail
    refine bodyPost_ret (v := .tuple #[.bool false, .bool false]) (by simp [results, Try.results86, go_sem]) rfl ⟨by rw [HVx.out], _, rfl⟩
  go_wp2_with fail
  skip
  go_loopw [14, 13] (fun iv sv  wr => ∃ (kn qd : Nat) (cv : Bool), kn + 1 ≤ far ∧ iv = .int .i64 ((kn : Int) + 1) ∧ sv = .bool cv ∧ Hid (cv = clearTo h0 hk hat X far kn) ∧ Hid (linesTo h0 hk X far kn = true) ∧ Hid (wr = w.drewN qd)) (fun iv _ _ => far - (intOf iv).toNat)
  case atStart => exact ⟨0, _, true, by omega, rfl, rfl, Lib.hid rfl, Lib.hid rfl, Lib.hid rfl⟩
  case round =>
    obtain ⟨kn, qd, cv, hn, rfl, rfl, HCv, HLi, HW⟩ := hrel
    by_cases hlt : kn + 1 < far
    · obtain ⟨m, hm⟩ : ∃ m, kn + 1 = m := ⟨_, rfl⟩
      have hmi : (kn : Int) + 1 = (m : Int) := by omega
      rw [hmi]
      have hmf : (m : Int) < (far : Int) := by omega
      have hq : (fr - m) < ln.length := by have := Hfar.out; omega
      obtain ⟨c, hc⟩ : ∃ c, ln.getD (fr - m) 0 = c := ⟨_, rfl⟩
      have hcm : wr.cell? ⟨b, off + (fr - m), none⟩ = some (.float .f32 c) := by rw [HW.out, ← hc]; exact HCn.out _ hq
      have hck : wr.cell? ⟨b, off + to, none⟩ = some (.float .f32 hk) := by rw [HW.out]; exact HCk.out
      have hic : Is32 (some c) c := Is32.c (by rw [← hc]; exact Hzz.out _ hq)
      have hfm : Is32 (some (iF (m : Int))) (floatOfInt .f32 (m : Int)) := iF_is _
      have HCc := Lib.hid hc
      have Hm := Lib.hid hm
      clear hc
      have hst := HE.out
      have hw2 : IntKind.i64.wrap (m : Int) = (m : Int) := IntWalk.i64_in _ (by omega)
      obtain ⟨qq, hqq⟩ : ∃ q9, fr - m = q9 := ⟨_, rfl⟩
      rw [hqq] at hcm hq
      have hmt : m ≤ fr := by have := Hfar.out; omega
      have hqi : (fr : Int) + -(m : Int) = (qq : Int) := by omega
      have hqi2 : (fr : Int) - (m : Int) = (qq : Int) := by omega
      have hw3 : IntKind.i64.wrap (qq : Int) = (qq : Int) := IntWalk.i64_in _ (by omega)
      have hw4 : IntKind.i64.wrap (-(m : Int)) = -(m : Int) := IntWalk.i64_in _ (by omega)
      have hw5 : (m : Int) * (-1) = -(m : Int) := by omega
      have hq0 : (0 : Int) ≤ (qq : Int) := by omega
      have hq1 : (qq : Int) < (ln.length : Int) := by omega
      clear hqq
      go_wp2_with (first | ((with_reducible refine wpList_bin ?_); refine wpList_f32 rfl _ _ _ _ _ rfl rfl rfl (by decide) (by first | assumption | exact Is32.c (by decide)) (by first | assumption | exact Is32.c (by decide)) ?_; intro z n hz))
      skip
      refine (isFin_o _ (show Is32 (seeL h0 hk X far m) _ from by assumption)).mono ?_
      rintro e w' ⟨bb, hbb, rfl, rfl⟩
      have HG := Lib.hid hbb
      clear hbb
      cases bb
      · have hv : V = (false, false) := by rw [← HV.out]; unfold see; rw [linesTo_not (k := kn) (by rw [Hm.out]; exact HG.out) (far - 1) (by omega), Bool.and_false]; rfl
        have HVx := Lib.hid hv
        clear hv
        go_wp2_with fail
        refine bodyPost_ret (v := .tuple #[.bool false, .bool false]) (by simp [results, Try.results86, go_sem]) rfl ⟨by rw [HVx.out], _, by rw [HW.out, World.drewN_drewN]⟩
      go_wp2_with (first | ((with_reducible refine wpList_bin ?_); refine wpList_c32 rfl _ _ _ _ _ rfl rfl rfl (by decide) (by first | assumption | exact Is32.c (by decide)) (by first | assumption | exact Is32.c (by decide)) ?_; intro bb hbb; cases bb))
      all_goals have Hb := Lib.hid (show fcmp .gtr .f32 (some c) (seeL h0 hk X far m) = _ from hbb)
      all_goals clear hbb
      all_goals go_wp2_with fail
      · go_roundw
        case rel => exact ⟨m, _, cv, by omega, by go_num, rfl, Lib.hid (by rw [← Hm.out]; show _ = (clearTo h0 hk hat X far kn && !(fcmp .gtr .f32 (some (hat (kn + 1))) (seeL h0 hk X far (kn + 1)))); rw [Hm.out, ← HHat.out]; show _ = (_ && !(fcmp .gtr .f32 (some (ln.getD (fr - m) 0)) _)); rw [HCc.out, Hb.out, HHat.out, ← HCv.out]; simp), by rw [← Hm.out]; exact Lib.hid (show (linesTo _ _ _ _ _ && fin32o _) = true by rw [HLi.out, Bool.true_and, Hm.out]; exact HG.out), Lib.hid (by first | rw [HW.out, World.drewN_drewN] | (rw [World.drewN_drewN, HW.out, World.drewN_drewN]))⟩
        case measure => simp [intOf]; omega
      · go_roundw
        case rel => exact ⟨m, _, false, by omega, by go_num, rfl, Lib.hid (by rw [← Hm.out]; show _ = (clearTo h0 hk hat X far kn && !(fcmp .gtr .f32 (some (hat (kn + 1))) (seeL h0 hk X far (kn + 1)))); rw [Hm.out, ← HHat.out]; show _ = (_ && !(fcmp .gtr .f32 (some (ln.getD (fr - m) 0)) _)); rw [HCc.out, Hb.out, HHat.out, ← HCv.out]; simp), by rw [← Hm.out]; exact Lib.hid (show (linesTo _ _ _ _ _ && fin32o _) = true by rw [HLi.out, Bool.true_and, Hm.out]; exact HG.out), Lib.hid (by first | rw [HW.out, World.drewN_drewN] | (rw [World.drewN_drewN, HW.out, World.drewN_drewN]))⟩
        case measure => simp [intOf]; omega
    · have hkn : kn + 1 = far := by omega
      have hmi : (kn : Int) + 1 = (far : Int) := by omega
      rw [hmi]
      have hji : ¬ (far : Int) < (far : Int) := by omega
      have hv : V = (cv, true) := by rw [← HV.out]; unfold see; rw [HF.out, show far - 1 = kn by omega, HLi.out, HCv.out]; rfl
      have HVx := Lib.hid hv
      clear hv
      go_wp2_with fail
      refine bodyPost_ret (v := .tuple #[.bool cv, .bool true]) (by simp [results, Try.results86, go_sem]) rfl ⟨by rw [HVx.out], _, HW.out⟩

end Go.Proofs.Ytljehplkdofhpac
