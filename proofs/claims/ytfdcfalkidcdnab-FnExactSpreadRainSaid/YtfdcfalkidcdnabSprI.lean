/- Rain that is spread: the program and its model alike. -/
import Derived.Test.YtfdcfalkidcdnabBktI
import Derived.Test.YtfdcfalkidcdnabRegionT
import Derived.Test.YtfdcfalkidcdnabIsRain
import Derived.Test.YtfdcfalkidcdnabRegionV
namespace Go.Proofs.Ytfdcfalkidcdnab
open Go.RowKit
set_option linter.unusedVariables false
set_option linter.unusedSimpArgs false
set_option maxRecDepth 100000
attribute [local irreducible] wpV wpList Code.wp

theorem add_inf_l {x : Nat} (hx : NN x) : floatBits .add .f32 2139095040 x = some 2139095040 := by
  by_cases h : FN x
  · obtain ⟨s, m, k, h1, _⟩ := fn_read h
    have hd : floatBits .add .f32 2139095040 x = ((FloatKind.f32.decode 2139095040).sum (FloatKind.f32.decode x)).map Ieee.single.write := rfl
    rw [hd, h1, decode_inf]
    show some (Ieee.single.write (.infinity false)) = _
    rw [inf_write]
  · obtain rfl := nn_inf hx h; decide +kernel
theorem addNN {x y : Nat} (hx : NN x) (hy : NN y) : ∃ z, floatBits .add .f32 x y = some z ∧ NN z := by
  by_cases h : FN x
  · obtain ⟨z, h1, h2, _⟩ := addN h hy; exact ⟨z, h1, h2⟩
  · obtain rfl := nn_inf hx h; exact ⟨_, add_inf_l hy, .inl (Nat.le_refl _)⟩
def cStep (X U : List Nat) (k : Nat) (acc : Option Nat) (i : Nat) : Option Nat := fop .add .f32 acc (fop .mul .f32 (some (X.getD i 0)) (some (U.getD (k - i) 0)))
/-- What has come to tick k from the first i falls. -/
def cIt (X U : List Nat) (k : Nat) : Nat → Option Nat
  | 0 => some 0
  | i + 1 => if k - i < U.length then cStep X U k (cIt X U k i) i else cIt X U k i
def cL (X U : List Nat) (n : Nat) : List (Option Nat) := (List.range n).map (fun k => cIt X U k (k + 1))
theorem cL_succ (X U : List Nat) (n : Nat) : cL X U (n + 1) = cL X U n ++ [cIt X U n (n + 1)] := by unfold cL; rw [List.range_succ, List.map_append]; rfl
theorem cIt_low {X U : List Nat} {k : Nat} : ∀ i, i ≤ k + 1 - U.length → cIt X U k i = some 0
  | 0, _ => rfl
  | i + 1, h => by unfold cIt; rw [if_neg (by omega)]; exact cIt_low i (by omega)
theorem cIt_yes {X U : List Nat} {k i : Nat} (h : k - i < U.length) : cIt X U k (i + 1) = cStep X U k (cIt X U k i) i := by rw [cIt, if_pos h]
theorem cIt_no {X U : List Nat} {k i : Nat} (h : ¬ k - i < U.length) : cIt X U k (i + 1) = cIt X U k i := by rw [cIt, if_neg h]
theorem cIt_nn {X U : List Nat} (hX : ∀ k, k < X.length → FN (X.getD k 0)) (hU : ∀ k, k < U.length → FN (U.getD k 0)) {k : Nat} : ∀ i, i ≤ X.length → ∃ z, cIt X U k i = some z ∧ NN z
  | 0, _ => ⟨0, rfl, .inl (by decide)⟩
  | i + 1, h => by
    obtain ⟨z, h1, h2⟩ := cIt_nn hX hU (k := k) i (by omega)
    by_cases hm : k - i < U.length
    · rw [cIt_yes hm]
      obtain ⟨p, hp, hpn, _⟩ := mul_fn (hX i (by omega)) (hU (k - i) hm)
      obtain ⟨s, hs, hsn⟩ := addNN h2 hpn
      unfold cStep
      rw [h1]
      have e1 : fop .mul .f32 (some (X.getD i 0)) (some (U.getD (k - i) 0)) = some p := hp
      rw [e1]
      exact ⟨s, hs, hsn⟩
    · rw [cIt_no hm]; exact ⟨z, h1, h2⟩
theorem cL_amt {X U zs : List Nat} (hX : ∀ k, k < X.length → FN (X.getD k 0)) (hU : ∀ k, k < U.length → FN (U.getD k 0)) {n : Nat} (hn : n ≤ X.length) (h : Is32s (cL X U n) zs) : zs.all amtB = (cL X U n).all fin32o :=
  all_same amtB fin32o 0 none zs (cL X U n) h.1.symm fun i hi => by
    have hx := h.2 i hi
    have hl : i < n := by have := h.1; unfold cL at this; simp at this; omega
    have e : (cL X U n).getD i none = cIt X U i (i + 1) := by
      unfold cL
      rw [List.getD_eq_getElem?_getD, List.getElem?_map, List.getElem?_range hl]; rfl
    rw [e] at hx ⊢
    obtain ⟨z, h1, h2⟩ := cIt_nn hX hU (k := i) (i + 1) (by omega)
    rw [h1] at hx ⊢
    rw [hx.eq]
    unfold amtB amtO
    have hg : fcmp .geq .f32 (some z) (some 0) = true := by
      show (FloatKind.f32.format.order z 0 == some .gt || FloatKind.f32.format.order z 0 == some .eq) = true
      rw [nn_gt h2 nn_zero, nn_eq h2 nn_zero]
      have : rg 0 = 0 := rfl
      rw [this]
      by_cases h0 : rg z = 0
      · rw [decide_eq_true h0, Bool.or_true]
      · rw [decide_eq_true (show 0 < rg z by omega)]; rfl
    rw [hg, Bool.true_and]
def spreadO (X U : List Nat) : List Nat × Bool :=
  if rainB X && rainB U then (if (cL X U X.length).all fin32o then ((cL X U X.length).map (fun Y => Y.getD 0), true) else ([], false)) else ([], false)
/-- The row while tick k is made. -/
def rowAt (ls : List Nat) (x N : Nat) : List Nat := ls ++ x :: List.replicate (N - ls.length - 1) 0
theorem rowAt_len {ls : List Nat} {x N : Nat} (h : ls.length < N) : (rowAt ls x N).length = N := by simp [rowAt]; omega
theorem rowAt_set {ls : List Nat} {x z N : Nat} : (rowAt ls x N).set ls.length z = rowAt ls z N := by
  unfold rowAt; rw [List.set_append_right _ _ (Nat.le_refl _), Nat.sub_self, List.set_cons_zero]
theorem rowAt_get {ls : List Nat} {x N : Nat} : (rowAt ls x N).getD ls.length 0 = x := by
  unfold rowAt; rw [List.getD_eq_getElem?_getD, List.getElem?_append_right (Nat.le_refl _), Nat.sub_self]; rfl
theorem rowAt_new {ls : List Nat} {N : Nat} (h : ls.length < N) : ls ++ List.replicate (N - ls.length) 0 = rowAt ls 0 N := by
  unfold rowAt; rw [show N - ls.length = (N - ls.length - 1) + 1 by omega, List.replicate_succ]; simp
theorem rowAt_old {ls : List Nat} {x N : Nat} : rowAt ls x N = (ls ++ [x]) ++ List.replicate (N - (ls ++ [x]).length) 0 := by
  unfold rowAt; simp [Nat.sub_sub]

set_option maxHeartbeats 1000000 in
theorem rainOnly_f (a : Option Addr) (cap : Nat) (zs : List Nat) (w : World) (h : RowF .f32 w a zs) (hl : zs.length ≤ 1048576) (hz : ∀ z ∈ zs, z < 4294967296) :
    Calls Try.prog 80 #[.slice a zs.length cap] w fun e w' => ∃ b, rainB zs = b ∧ e = .returned (.tuple #[if b then .slice a zs.length cap else .slice none 0 0, .bool b]) ∧ Below w.heap.size w w' := by
  have H := Lib.hid h
  have HZ := Lib.hid hz
  clear h hz
  go_enter Try.func80, Try.ntmps80
  go_wp2_with fail
  refine (isRain_i a cap zs _ H.out hl HZ.out).mono ?_
  rintro e w1 ⟨bb, hbb, rfl, hb⟩
  have HB := Lib.hid hb
  have Hbb := Lib.hid hbb
  clear hb hbb
  cases bb
  · go_wp2_with fail
    go_ret2
    exact ⟨false, Hbb.out, rfl, HB.out⟩
  · go_wp2_with fail
    go_ret2
    exact ⟨true, Hbb.out, rfl, HB.out⟩
set_option maxHeartbeats 8000000 in
theorem spreadRain_i (a0 : Option Addr) (cap0 : Nat) (X : List Nat) (a1 : Option Addr) (cap1 : Nat) (U : List Nat) (w : World) (h0 : RowF .f32 w a0 X) (hl0 : X.length ≤ 1048576) (hz0 : ∀ z ∈ X, z < 4294967296) (h1 : RowF .f32 w a1 U) (hl1 : U.length ≤ 1048576) (hz1 : ∀ z ∈ U, z < 4294967296) : Calls Try.prog 32 #[.slice a0 X.length cap0, .slice a1 U.length cap1] w (ListB (spreadO X U) w) := by
  obtain ⟨Q, hQ⟩ : ∃ Q, spreadO X U = Q := ⟨_, rfl⟩
  rw [hQ]
  have HQ := Lib.hid hQ
  have H0 := Lib.hid h0
  have H1 := Lib.hid h1
  have HZ0 := Lib.hid hz0
  have HZ1 := Lib.hid hz1
  clear hQ h0 h1 hz0 hz1
  go_enter Try.func32, Try.ntmps32
  go_wp2_with fail
  refine (isRain_i a0 cap0 X _ H0.out hl0 HZ0.out).mono ?_
  rintro e w1 ⟨bb, hbb, rfl, hb⟩
  have HB1 := Lib.hid hb
  have Hx := Lib.hid hbb
  clear hb hbb
  cases bb
  · have hv : Q = ([], false) := by rw [← HQ.out]; unfold spreadO; simp only [Hx.out, Bool.false_and, Bool.and_false]; rfl
    have HV := Lib.hid hv
    clear hv
    go_wp2_with fail
    go_ret2
    rw [HV.out]
    exact ListB.no HB1.out
  go_wp2_with fail
  refine (isRain_i a1 cap1 U _ (H1.out.below HB1.out (Nat.le_refl _)) hl1 HZ1.out).mono ?_
  rintro e w2 ⟨bb, hbb, rfl, hb⟩
  have HB2 := Lib.hid (HB1.out.trans (hb.mono HB1.out.size))
  have Hu := Lib.hid hbb
  clear hb hbb
  cases bb
  · have hv : Q = ([], false) := by rw [← HQ.out]; unfold spreadO; simp only [Hu.out, Bool.false_and, Bool.and_false]; rfl
    have HV := Lib.hid hv
    clear hv
    go_wp2_with fail
    go_ret2
    rw [HV.out]
    exact ListB.no HB2.out
  have hq := HQ.out
  unfold spreadO at hq
  rw [Hx.out, Hu.out] at hq
  have HQ2 : Hid ((if (cL X U X.length).all fin32o then ((cL X U X.length).map (fun Y => Y.getD 0), true) else ([], false)) = Q) := Lib.hid hq
  obtain ⟨hX128, hXf⟩ := rain_fn HZ0.out Hx.out
  obtain ⟨hU128, hUf⟩ := rain_fn HZ1.out Hu.out
  have HXf := Lib.hid hXf
  have HUf := Lib.hid hUf
  clear hq hXf hUf
  go_wp2_with (at_make; refine make_any rfl rfl _ _ rfl .i64 .i64 _ _ X.length rfl rfl rfl rfl (by omega) (lo := w.heap.size) HB2.out.size ?_)
  intro w3 hown hgrow
  have HB3 := Lib.hid (Below.made HB2.out hgrow HB2.out.size)
  have hs2 : w.heap.size ≤ w2.heap.size := HB2.out.size
  have HRow3 : Hid (RowO w3 w.heap.size (.slice (some ⟨w2.heap.size, 0, none⟩) X.length X.length) (([] : List Nat) ++ List.replicate (X.length - ([] : List Nat).length) 0)) := Lib.hid (by simpa using hown)
  have HG : Hid (w.heap.size ≤ (⟨w2.heap.size, 0, none⟩ : Addr).block) := Lib.hid hs2
  clear hown hgrow
  go_wp2_with fail
  go_loopw [22] (fun i wr => ∃ (k : Nat) (ls : List Nat), k ≤ X.length ∧ i = .int .i64 k ∧ Hid (ls.length = k) ∧ Hid (Is32s (cL X U k) ls) ∧ Hid (RowO wr w.heap.size (.slice (some ⟨w2.heap.size, 0, none⟩) X.length X.length) (ls ++ List.replicate (X.length - ls.length) 0)) ∧ Hid (Below w.heap.size w wr)) (fun i _ => X.length - (intOf i).toNat)
  case atStart => exact ⟨0, [], Nat.zero_le _, rfl, Lib.hid rfl, Lib.hid Is32s.nil, HRow3, HB3⟩
  case round =>
    obtain ⟨k, ls, hk, rfl, HLk, HIl, HRow, HBk⟩ := hrel
    by_cases hlt : k < X.length
    · have HR0 : Hid (RowO wr w.heap.size (.slice (some ⟨w2.heap.size, 0, none⟩) X.length X.length) (rowAt ls 0 X.length)) := Lib.hid (by rw [← rowAt_new (by rw [HLk.out]; exact hlt)]; exact HRow.out)
      obtain ⟨m, hm⟩ : ∃ m, U.length = m := ⟨_, rfl⟩
      have Hm := Lib.hid hm
      have hm128 : m ≤ 128 := by omega
      have hmx : max ((k : Int) - (U.length : Int) + 1) 0 = ((k + 1 - m : Nat) : Int) := by omega
      have HMx := Lib.hid hmx
      clear hm hmx
      go_wp2_with fail
      all_goals
        go_loopw [8] (fun iv wr => ∃ (i : Nat) (x : Nat), k + 1 - m ≤ i ∧ i ≤ k + 1 ∧ iv = .int .i64 i ∧ Hid (Is32 (cIt X U k i) x) ∧ Hid (RowO wr w.heap.size (.slice (some ⟨w2.heap.size, 0, none⟩) X.length X.length) (rowAt ls x X.length)) ∧ Hid (Below w.heap.size w wr)) (fun iv _ => k + 1 - (intOf iv).toNat)
        case atStart => exact ⟨k + 1 - m, 0, Nat.le_refl _, by omega, by have hm9 := Hm.out; congr 1; omega, Lib.hid (by rw [cIt_low _ (by rw [Hm.out]; exact Nat.le_refl _)]; exact Is32.c (by decide)), HR0, HBk⟩
        case round =>
          obtain ⟨i, x, hi0, hi1, rfl, HX, HR, HBi⟩ := hrel
          by_cases hik : i ≤ k
          · have hix : i < X.length := by omega
            obtain ⟨j, hj⟩ : ∃ j, k - i = j := ⟨_, rfl⟩
            have hju : j < U.length := by rw [Hm.out]; omega
            obtain ⟨bp, op, rfl, hcp⟩ := ((H0.out.below HBi.out (Nat.le_refl _)).cells) i hix
            obtain ⟨xp, hxp⟩ : ∃ x, X.getD i 0 = x := ⟨_, rfl⟩
            have hip : Is32 (some xp) xp := Is32.c (by rw [← hxp]; exact getD_lt HZ0.out _)
            rw [hxp] at hcp
            have Hxp := Lib.hid hxp
            clear hxp
            obtain ⟨bq, oq, rfl, hcq⟩ := ((H1.out.below HBi.out (Nat.le_refl _)).cells) j hju
            obtain ⟨xq, hxq⟩ : ∃ x, U.getD j 0 = x := ⟨_, rfl⟩
            have hiq : Is32 (some xq) xq := Is32.c (by rw [← hxq]; exact getD_lt HZ1.out _)
            rw [hxq] at hcq
            have Hxq := Lib.hid hxq
            clear hxq
            obtain ⟨hcell, hfz⟩ := HR.out.at (rowAt_len (by rw [HLk.out]; exact hlt)).symm k (by rw [rowAt_len (by rw [HLk.out]; exact hlt)]; exact hlt)
            rw [show (rowAt ls x X.length).getD k 0 = x by rw [← HLk.out]; exact rowAt_get] at hcell
            have hx9 := HX.out
            have hiw : IntKind.i64.wrap ((k : Int) - (i : Int)) = (j : Int) := by rw [IntWalk.i64_in _ (by omega)]; omega
            have Hj := Lib.hid hj
            have hki : (i : Int) ≤ (k : Int) := by omega
            clear hj
            go_wp2_with fail
            refine wp_region_tail (id := 10) 17 (C := fun w' => ∃ n, w' = wr.drewN n) (vmap [(14, V32k (fop .mul .f32 (some xp) (some xq))), (15, V32k (fop .add .f32 (cIt X U k i) (fop .mul .f32 (some xp) (some xq))))]) ⟨1, rfl⟩ (by kernel_rfl) (by kernel_rfl) ?_
            (refine wpV_go 1 rfl (fun K hK => ?_); go_simp; refine hK.out _ ?_; clear hK K)
            (refine wpV_go 2 rfl (fun K hK => ?_); go_simp; refine hK.out _ ?_; clear hK K)
            (refine wpV_go 3 rfl (fun K hK => ?_); go_simp; refine hK.out _ ?_; clear hK K)
            (refine wpV_go 4 rfl (fun K hK => ?_); go_simp; refine hK.out _ ?_; clear hK K)
            (refine wpV_go 5 rfl (fun K hK => ?_); go_simp; refine hK.out _ ?_; clear hK K)
            (refine wpV_go 6 rfl (fun K hK => ?_); go_simp; refine hK.out _ ?_; clear hK K)
            (refine wpV_go 7 rfl (fun K hK => ?_); go_simp; refine hK.out _ ?_; clear hK K)
            (refine wpV_go 8 rfl (fun K hK => ?_); go_simp; refine hK.out _ ?_; clear hK K)
            (refine wpV_go 9 rfl (fun K hK => ?_); go_simp; refine hK.out _ ?_; clear hK K)
            (refine wpV_go 10 rfl (fun K hK => ?_); go_simp; refine hK.out _ ?_; clear hK K)
            (refine wpV_go 11 rfl (fun K hK => ?_); go_simp; refine hK.out _ ?_; clear hK K)
            (refine wpV_go 12 rfl (fun K hK => ?_); go_simp; refine hK.out _ ?_; clear hK K)
            (refine wpV_go 13 rfl (fun K hK => ?_); go_simp; refine hK.out _ ?_; clear hK K)
            (refine wpV_go 14 rfl (fun K hK => ?_); go_simp; refine hK.out _ ?_; clear hK K)
            (refine wpV_f32 15 rfl (drewC _) _ _ _ _ _ rfl rfl rfl rfl (by decide) hip hiq rfl ?_; intro z1 hz1)
            (refine wpV_f32 16 rfl (drewC _) _ _ _ _ _ rfl rfl rfl rfl (by decide) hx9 hz1 rfl ?_; intro z2 hz2)
            (refine wpV_go 17 rfl (fun K hK => ?_); go_simp; refine hK.out _ ?_; clear hK K)
            refine wpV_nil ?_
            rintro w9 ⟨q9, rfl⟩
            try simp only [List.drop]
            go_wp2_with fail
            go_roundw
            case rel => exact ⟨i + 1, z2, by omega, by omega, by go_num, Lib.hid (by rw [cIt_yes (by rw [Hj.out]; exact hju)]; unfold cStep; rw [Hxp.out, Hj.out, Hxq.out]; exact hz2), Lib.hid (by have h9 := (HR.out.drewN q9).store (rowAt_len (by rw [HLk.out]; exact hlt)).symm k z2; rw [← HLk.out, rowAt_set, HLk.out] at h9; exact h9), Lib.hid ((beld HBi.out q9).setCell HG.out _)⟩
            case measure => simp [intOf]; omega
          · have hie : i = k + 1 := by omega
            subst hie
            have hnle : ¬ ((k : Int) + 1 ≤ (k : Int)) := by omega
            have hx9 := HX.out
            have HX9 := Lib.hid hx9
            clear hx9
            go_wp2_with fail
            go_roundw
            case rel => exact ⟨k + 1, ls ++ [x], by omega, by go_num, Lib.hid (by rw [List.length_append, List.length_singleton, HLk.out]), Lib.hid (by rw [cL_succ]; exact HIl.out.snoc HX9.out), Lib.hid (by rw [← rowAt_old]; exact HR.out), HBi⟩
            case measure => simp [intOf]; omega
    · have hkX : k = X.length := by omega
      subst hkX
      have hamt := cL_amt HXf.out HUf.out (Nat.le_refl _) HIl.out
      have HAm := Lib.hid hamt
      have hr9 := HRow.out
      rw [fill_all ls X.length HLk.out] at hr9
      have HR9 := Lib.hid hr9
      have hzw : ∀ z ∈ ls, z < 4294967296 := fun z hz => by obtain ⟨i, hi, rfl⟩ := List.getElem_of_mem hz; have := (HIl.out.2 i hi).2; rwa [List.getD_eq_getElem?_getD, List.getElem?_eq_getElem hi] at this
      have HZw := Lib.hid hzw
      have hro : RowF .f32 wr (some ⟨w2.heap.size, 0, none⟩) ls := by have h9 := HR9.out; rw [← HLk.out] at h9; exact (FRow.mk h9).row
      have HRo := Lib.hid hro
      have hl9 : ls.length ≤ 1048576 := by rw [HLk.out]; exact hl0
      have Hl9 := Lib.hid hl9
      have hrb : rainB ls = ls.all amtB := by unfold rainB; rw [decide_eq_true (by rw [HLk.out]; exact hX128), Bool.true_and]
      have HRb := Lib.hid hrb
      clear hamt hr9 hzw hro hl9 hrb
      go_wp2_with fail
      refine ((HLk.out ▸ rainOnly_f (some ⟨w2.heap.size, 0, none⟩) X.length ls _ HRo.out Hl9.out HZw.out : Calls Try.prog 80 #[.slice (some ⟨w2.heap.size, 0, none⟩) X.length X.length] _ (fun e w' => ∃ b, rainB ls = b ∧ e = .returned (.tuple #[if b then .slice (some ⟨w2.heap.size, 0, none⟩) X.length X.length else .slice none 0 0, .bool b]) ∧ Below _ _ w'))).mono ?_
      rintro e w9 ⟨bb, hbb, rfl, hb⟩
      have HB9 := Lib.hid (HBk.out.trans (hb.mono HBk.out.size))
      have HRl := Lib.hid (HR9.out.below hb (Nat.le_refl _))
      rw [HRb.out, HAm.out] at hbb
      have Hbb := Lib.hid hbb
      clear hb hbb
      cases bb
      · have hv : Q = ([], false) := by rw [← HQ2.out, if_neg]; rw [Hbb.out]; decide
        have HV := Lib.hid hv
        clear hv
        simp only [Bool.false_eq_true, if_false]
        go_wp2_with fail
        go_ret2
        rw [HV.out]
        exact ListB.no HB9.out
      · have hv : Q = (ls, true) := by rw [← HQ2.out, if_pos Hbb.out, ← HIl.out.exact Hbb.out]
        have HV := Lib.hid hv
        clear hv
        simp only [if_true]
        go_wp2_with fail
        go_ret2
        rw [HV.out]
        exact ListB.yes HRl.out (Nat.le_refl _) Hl9.out HB9.out

end Go.Proofs.Ytfdcfalkidcdnab
