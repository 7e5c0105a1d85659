/- Rough hills: the model. -/
import Derived.Test.YtgnkpppbhibfoabRoughC
import Derived.Test.YtgnkpppbhibfoabConeS
import Derived.Test.YtgnkpppbhibfoabOwn2
import Derived.Test.YtgnkpppbhibfoabIn
import Derived.Test.YtgnkpppbhibfoabRegionT
import Derived.Deep.Cut
namespace Go.Proofs.Ytgnkpppbhibfoab
open Go.RowKit
set_option linter.unusedVariables false
set_option linter.unusedSimpArgs false
set_option maxRecDepth 100000
attribute [local irreducible] wpV wpList Code.wp

def UptoR (f : Nat → Option Nat) (k : Nat) (O Z : List Nat) : Prop := Z.length = O.length ∧ (∀ j, j < k → Is32 (f j) (Z.getD j 0)) ∧ ∀ j, k ≤ j → Z.getD j 0 = O.getD j 0
theorem UptoR.zero (f : Nat → Option Nat) (O : List Nat) : UptoR f 0 O O := ⟨rfl, fun j h => by omega, fun _ _ => rfl⟩
theorem UptoR.next {f : Nat → Option Nat} {k z : Nat} {O Z : List Nat} (h : UptoR f k O Z) (hk : k < O.length) (hz : Is32 (f k) z) : UptoR f (k + 1) O (Z.set k z) := by
  obtain ⟨h1, h2, h3⟩ := h
  refine ⟨by rw [List.length_set]; exact h1, fun j hj => ?_, fun j hj => ?_⟩
  · by_cases e : j = k
    · subst e
      have e9 : (Z.set j z).getD j 0 = z := by rw [List.getD_eq_getElem?_getD, List.getElem?_set_self (by omega)]; rfl
      rw [e9]; exact hz
    · have e9 : (Z.set k z).getD j 0 = Z.getD j 0 := by rw [List.getD_eq_getElem?_getD, List.getElem?_set_ne (fun h => e h.symm), ← List.getD_eq_getElem?_getD]
      rw [e9]; exact h2 j (by omega)
  · have e9 : (Z.set k z).getD j 0 = Z.getD j 0 := by rw [List.getD_eq_getElem?_getD, List.getElem?_set_ne (by omega), ← List.getD_eq_getElem?_getD]
    rw [e9]; exact h3 j (by omega)
theorem UptoR.told {f : Nat → Option Nat} {O Z : List Nat} (h : UptoR f O.length O Z) : Told ((List.range O.length).map f) Z := by
  refine ⟨by simpa using h.1, fun i hi => ?_⟩
  have hi2 : i < O.length := by simpa using hi
  have h9 := (h.2.1 i hi2).1
  have e : ((List.range O.length).map f).getD i none = f i := by
    rw [List.getD_eq_getElem?_getD, List.getElem?_map, List.getElem?_range hi2]
    rfl
  rw [e]
  exact h9

set_option maxHeartbeats 8000000 in
theorem roughHill_spec (wide high : Int) (a : Option Addr) (cap : Nat) (zs : List Nat) (x : Nat) (s0 : Int) (w : World) (h : RowF .f32 w a zs) (hl : zs.length ≤ 1048576) (hz : ∀ z ∈ zs, z < 4294967296) (hx : x < 4294967296) (hsl : -9223372036854775808 ≤ s0) (hsm : s0 ≤ 9223372036854775807) :
    Calls Try.prog 23 #[.agg #[.int .i64 wide, .int .i64 high, .slice a zs.length cap], .float .f32 x, .int .i64 s0] w (RetHNB (resRoughHill wide high zs x s0).wide (resRoughHill wide high zs x s0).high (resRoughHill wide high zs x s0).zs (resRoughHill wide high zs x s0).n (resRoughHill wide high zs x s0).ok w) := by
  obtain ⟨Q, hQ⟩ : ∃ Q, resRoughHill wide high zs x s0 = Q := ⟨_, rfl⟩
  rw [hQ]
  have HQ := Lib.hid hQ
  clear hQ
  have H := Lib.hid h
  have HZ := Lib.hid hz
  have HXx : Hid (Is32 (some x) x) := Lib.hid (Is32.c hx)
  clear h hz hx
  obtain ⟨W1, hW1⟩ : ∃ W, ((w.alloc (.cells #[.int .i64 wide, .int .i64 high, .slice a zs.length cap] 25)).alloc (.cells #[.int .i64 0, .int .i64 0, .slice none 0 0] 25)) = W := ⟨_, rfl⟩
  have hh : BoxH W1 w.heap.size wide high (.slice a zs.length cap) := by rw [← hW1]; exact (BoxH.new w wide high (.slice a zs.length cap) 25).alloc _
  have hbr : BoxW W1 (w.heap.size + 1) 0 0 (.slice none 0 0) := by rw [← hW1]; exact BoxW.at _ _ (by simp) 0 0 (.slice none 0 0) 25
  have hsz : W1.heap.size = w.heap.size + 1 + 1 := by rw [← hW1]; simp
  have hb : Below w.heap.size w W1 := by rw [← hW1]; exact below2 _ _ _
  have HB := Lib.hid hb
  have HBR := Lib.hid hbr
  have HH := Lib.hid hh
  obtain ⟨⟨r0, r1, r2, _⟩, rf⟩ := hbr
  have HW1 := Lib.hid hW1
  have HSZ := Lib.hid hsz
  clear hb hW1 hsz hh
  go_enter Try.func23, Try.ntmps23
  go_upto_region 1 with fail
  rw [HW1.out]
  clear HW1
  go_wp2_with fail
  refine (l02Is_any _ wide high a cap zs _ HH.out.1 HH.out.2.1 HH.out.2.2.1 (H.out.below HB.out (Nat.le_refl _)) hl).mono ?_
  rintro e w1 ⟨rfl, q0, rfl⟩
  cases hv9 : validB wide high zs
  · have hv : Q = failHN := by rw [← HQ.out]; unfold resRoughHill; rw [hv9]; simp only [Bool.false_and, Bool.and_false, Bool.true_and, Bool.and_true]; rfl
    have HV := Lib.hid hv
    clear hv
    go_wp2_with fail
    rw [HV.out]
    refine bodyPost_ret (v := .tuple #[.agg #[.int .i64 0, .int .i64 0, .slice none 0 0], .int .i64 0, .bool false]) (by simp [results, Try.results23, go_sem, r0, r1, r2]) rfl ⟨none, 0, rfl, belowSetBox (by repeat (first | with_reducible exact HB.out | with_reducible refine below_drewN ?_ _ | (with_reducible refine Below.alloc ?_ ?_ _; rotate_left; exact (by first | exact HBk.out.size | (simp; done) | (simp; omega) | omega)))) (by omega) _ _ _, (show FRow _ _ _ (.slice none 0 0) [] from FRow.nil _ _)⟩
  have HV9 := Lib.hid hv9
  clear hv9
  go_wp2_with fail
  refine (l01Fin_o _ HXx.out).mono ?_
  rintro e w' ⟨bb, hbb, rfl, q1, rfl⟩
  have HF := Lib.hid (show fin32 x = bb from hbb)
  clear hbb
  cases bb
  · have hv : Q = failHN := by rw [← HQ.out]; unfold resRoughHill; rw [HV9.out, HF.out]; simp only [Bool.false_and, Bool.and_false, Bool.true_and, Bool.and_true]; rfl
    have HV := Lib.hid hv
    clear hv
    go_wp2_with fail
    rw [HV.out]
    refine bodyPost_ret (v := .tuple #[.agg #[.int .i64 0, .int .i64 0, .slice none 0 0], .int .i64 0, .bool false]) (by simp [results, Try.results23, go_sem, r0, r1, r2]) rfl ⟨none, 0, rfl, belowSetBox (by repeat (first | with_reducible exact HB.out | with_reducible refine below_drewN ?_ _ | (with_reducible refine Below.alloc ?_ ?_ _; rotate_left; exact (by first | exact HBk.out.size | (simp; done) | (simp; omega) | omega)))) (by omega) _ _ _, (show FRow _ _ _ (.slice none 0 0) [] from FRow.nil _ _)⟩
  go_wp2_with fail
  refine (l00In_any s0 0 2147483647 _).mono ?_
  rintro e w' ⟨bb, hbb, rfl, rfl⟩
  have HSD := Lib.hid (show seedB s0 = bb from hbb)
  clear hbb
  cases bb
  · have hv : Q = failHN := by rw [← HQ.out]; unfold resRoughHill; rw [HV9.out, HF.out, HSD.out]; simp only [Bool.false_and, Bool.and_false, Bool.true_and, Bool.and_true]; rfl
    have HV := Lib.hid hv
    clear hv
    go_wp2_with fail
    rw [HV.out]
    refine bodyPost_ret (v := .tuple #[.agg #[.int .i64 0, .int .i64 0, .slice none 0 0], .int .i64 0, .bool false]) (by simp [results, Try.results23, go_sem, r0, r1, r2]) rfl ⟨none, 0, rfl, belowSetBox (by repeat (first | with_reducible exact HB.out | with_reducible refine below_drewN ?_ _ | (with_reducible refine Below.alloc ?_ ?_ _; rotate_left; exact (by first | exact HBk.out.size | (simp; done) | (simp; omega) | omega)))) (by omega) _ _ _, (show FRow _ _ _ (.slice none 0 0) [] from FRow.nil _ _)⟩
  have hsr : 0 ≤ s0 ∧ s0 < 2147483648 := by have h9 := HSD.out; unfold seedB at h9; rw [Bool.and_eq_true, decide_eq_true_eq, decide_eq_true_eq] at h9; omega
  have HSR := Lib.hid hsr
  clear hsr
  obtain ⟨hsi, hnl, hp1, hp2⟩ := valid_len9 HV9.out
  have HSi := Lib.hid hsi
  have HNl := Lib.hid hnl
  clear hsi hnl r0 r1 r2 rf
  obtain ⟨bz, oz, rfl, hbz⟩ : ∃ b off, a = some ⟨b, off, none⟩ ∧ b < w.heap.size := by rcases H.out with rfl | ⟨b, off, h1, h2, _⟩; (simp at hp1); exact ⟨b, off, h1, h2⟩
  have HCz : Hid (∀ i, i < zs.length → w.cell? ⟨bz, oz + i, none⟩ = some (.float .f32 (zs.getD i 0))) := Lib.hid fun i hi => by obtain ⟨b', o', h1, h2⟩ := H.out.cells i hi; cases h1; exact h2
  obtain ⟨w2, hw2⟩ : ∃ W, W1.drewN (q0 + q1) = W := ⟨_, rfl⟩
  have hb2 : Below w.heap.size w w2 := by rw [← hw2]; exact below_drewN HB.out _
  have hr2 : BoxW w2 (w.heap.size + 1) 0 0 (.slice none 0 0) := by rw [← hw2]; exact HBR.out.drewN _
  have hh2 : BoxH w2 w.heap.size wide high (.slice (some ⟨bz, oz, none⟩) zs.length cap) := by rw [← hw2]; exact HH.out
  have hz2 : w2.heap.size = w.heap.size + 1 + 1 := by rw [← hw2]; exact HSZ.out
  have HB2 := Lib.hid hb2
  have HR2 := Lib.hid hr2
  have HH2 := Lib.hid hh2
  have HZ2 := Lib.hid hz2
  have HW2 := Lib.hid hw2
  clear hb2 hr2 hh2 hz2 hw2 HB HBR HH HSZ
  go_upto_region 3 with fail
  first | rw [HW2.out] | (rw [World.drewN_drewN]; rw [HW2.out])
  clear HW2
  go_wp2_with fail
  refine (l02Own_row _ wide high bz oz cap zs _ HH2.out.1 HH2.out.2.1 HH2.out.2.2.1 (by omega) hl (by have := HZ2.out; omega) (fun i hi => by rw [HB2.out.cell (p := ⟨bz, oz + i, none⟩) hbz]; exact HCz.out i hi)).mono ?_
  rintro e w3 ⟨a2, cap2, rfl, hb3, hf3⟩
  have HB3 : Hid (Below w.heap.size w w3) := Lib.hid (HB2.out.trans (hb3.mono HB2.out.size))
  have HR3 := Lib.hid (HR2.out.below hb3 (by have := HZ2.out; omega))
  have hz3 : w2.heap.size ≤ w3.heap.size := hb3.size
  obtain ⟨rfl, h0⟩ | ⟨gz, rfl, hg1, hg2⟩ : (a2 = none ∧ zs = []) ∨ ∃ gz, a2 = some ⟨gz, 0, none⟩ ∧ w2.heap.size ≤ gz ∧ gz < w3.heap.size := by
    rcases hf3.cases with ⟨h1, h2⟩ | ⟨gn, cn, h1, h2, h3⟩
    · injection h1 with h1 _ _; exact .inl ⟨h1, h2⟩
    · injection h1 with h1 _ _; exact .inr ⟨gn, h1, h2, h3⟩
  · rw [h0] at hp1; simp at hp1
  have HRow3 : Hid (RowO w3 w2.heap.size (.slice (some ⟨gz, 0, none⟩) zs.length cap2) zs) := Lib.hid hf3.1
  clear hb3 hf3
  obtain ⟨w4, hw4⟩ : ∃ W, w3.alloc (.cells #[.int .i64 wide, .int .i64 high, .slice (some ⟨gz, 0, none⟩) zs.length cap2] 25) = W := ⟨_, rfl⟩
  have hbx : BoxH w4 w3.heap.size wide high (.slice (some ⟨gz, 0, none⟩) zs.length cap2) := by rw [← hw4]; exact BoxH.new w3 wide high _ 25
  have hr4 : BoxW w4 (w.heap.size + 1) 0 0 (.slice none 0 0) := by rw [← hw4]; exact HR3.out.alloc _
  have hb4 : Below w.heap.size w w4 := by rw [← hw4]; exact HB3.out.alloc HB3.out.size _
  have hrow4 : RowO w4 w2.heap.size (.slice (some ⟨gz, 0, none⟩) zs.length cap2) zs := by rw [← hw4]; exact HRow3.out.alloc _
  have HBX4 := Lib.hid hbx
  have HR4 := Lib.hid hr4
  have HB4 := Lib.hid hb4
  have HRow4 := Lib.hid hrow4
  have HW4 := Lib.hid hw4
  have hz2' := HZ2.out
  clear hbx hr4 hb4 hrow4 hw4 HB3 HR3 HRow3 HB2 HR2 HH2 HZ2
  go_upto_region 4 with fail
  rw [HW4.out]
  clear HW4
  go_wp2_with fail
  obtain ⟨BX, hBX⟩ : ∃ B, w3.heap.size = B := ⟨_, rfl⟩
  have Hf1 : Hid (gz < BX ∧ w.heap.size + 1 < gz ∧ w.heap.size + 1 < BX) := Lib.hid (by omega)
  rw [hBX] at HBX4
  try rw [hBX]
  obtain ⟨L2, hL2⟩ : ∃ B, w2.heap.size = B := ⟨_, rfl⟩
  rw [hL2] at HRow4
  clear hz3 hz2' hg1 hg2 hBX hL2
  go_loopw [10, 2] (fun iv sv wr => ∃ (k : Nat) (s : Int) (Ys : List Nat), k ≤ zs.length ∧ iv = .int .i64 k ∧ sv = .int .i64 s ∧ Hid (s = seedIt s0 k) ∧ Hid (UptoR (roughO zs (some x) s0) k zs Ys) ∧ Hid (RowO wr L2 (.slice (some ⟨gz, 0, none⟩) zs.length cap2) Ys) ∧ Hid (BoxH wr BX wide high (.slice (some ⟨gz, 0, none⟩) zs.length cap2)) ∧ Hid (BoxW wr (w.heap.size + 1) 0 0 (.slice none 0 0)) ∧ Hid (Below w.heap.size w wr)) (fun iv _ _ => zs.length - (intOf iv).toNat)
  case atStart => exact ⟨0, s0, zs, Nat.zero_le _, rfl, rfl, Lib.hid rfl, Lib.hid (UptoR.zero _ _), HRow4, HBX4, HR4, HB4⟩
  case round =>
    clear HRow4 HBX4 HR4 HB4
    obtain ⟨k, s, Ys, hk, rfl, rfl, HSe, HU, HRow, HBX, HRR, HBk⟩ := hrel
    obtain ⟨p0, p1, p2, _⟩ := HBX.out
    by_cases hlt : k < zs.length
    · have hk0 : (0 : Int) ≤ (k : Int) := by omega
      have hki : (k : Int) < (zs.length : Int) := by omega
      have hsr : 0 ≤ s ∧ s < 2147483648 := by rw [HSe.out]; exact seedIt_rng HSR.out k
      obtain ⟨hs1, hs2⟩ := hsr
      have hw1 : IntKind.i64.wrap (1103515245 * s) = 1103515245 * s := IntWalk.i64_in _ (by omega)
      have hw2 : IntKind.i64.wrap (1103515245 * s + 12345) = 1103515245 * s + 12345 := IntWalk.i64_in _ (by omega)
      have hw3 : 0 ≤ 1103515245 * s + 12345 := by omega
      have hw4 : IntKind.i64.wrap ((1103515245 * s + 12345) % 2147483648) = (1103515245 * s + 12345) % 2147483648 := IntWalk.i64_in _ (by omega)
      have hyl : Ys.length = zs.length := HU.out.1
      obtain ⟨hcy, hfy⟩ := HRow.out.at hyl.symm k (by omega)
      rw [HU.out.2.2 k (Nat.le_refl _)] at hcy
      obtain ⟨zk, hzk⟩ : ∃ z, zs.getD k 0 = z := ⟨_, rfl⟩
      rw [hzk] at hcy
      have hik : Is32 (some zk) zk := Is32.c (by rw [← hzk, List.getD_eq_getElem?_getD, List.getElem?_eq_getElem hlt]; exact HZ.out _ (List.getElem_mem _))
      have HZK := Lib.hid hzk
      have Hyl := Lib.hid hyl
      clear hzk hyl
      go_upto_region 8 with fail
      have htm : Int.tmod (1103515245 * s + 12345) 2147483648 = (1103515245 * s + 12345) % 2147483648 := Int.tmod_eq_emod_of_nonneg hw3
      try rw [htm]
      have hrr := nxSeed_rng s
      have hnx : nxSeed s = (1103515245 * s + 12345) % 2147483648 := rfl
      obtain ⟨r, hr⟩ : ∃ r, (1103515245 * s + 12345) % 2147483648 = r := ⟨_, rfl⟩
      rw [hr] at hnx hw4 ⊢
      rw [hnx] at hrr
      obtain ⟨hr1, hr2⟩ := hrr
      have HNX := Lib.hid hnx
      clear hnx hr htm hw1 hw2 hw3 hw4
      have hi1 : IntKind.i64.wrap (r / 65536) = r / 65536 := IntWalk.i64_in _ (by omega)
      have hi2 : IntKind.i64.wrap (r / 65536 - 16384) = r / 65536 - 16384 := IntWalk.i64_in _ (by omega)
      have hfi : Is32 (some (iF (r / 65536 - 16384))) (floatOfInt .f32 (r / 65536 - 16384)) := iF_is _
      have hxx := HXx.out
      go_wp2_with (first | ((with_reducible refine wpList_bin ?_); refine wpList_f32 rfl _ _ _ _ _ rfl rfl rfl (by decide) (by first | assumption | exact Is32.c (by decide)) (by first | assumption | exact Is32.c (by decide)) ?_; intro z n hz))
      apply wp_region_tail (id := 9) 13 (C := fun w' => ∃ q2, w' = (wr.drewN n).drewN q2) (vmap [(10, V32k _), (11, V32k _)]) ⟨1, rfl⟩ (by kernel_rfl) (by kernel_rfl)
      (refine wpV_go 1 rfl (fun K hK => ?_); go_simp; refine hK.out _ ?_; clear hK K)
      (refine wpV_go 2 rfl (fun K hK => ?_); go_simp; refine hK.out _ ?_; clear hK K)
      (refine wpV_go 3 rfl (fun K hK => ?_); go_simp; refine hK.out _ ?_; clear hK K)
      (refine wpV_go 4 rfl (fun K hK => ?_); go_simp; refine hK.out _ ?_; clear hK K)
      (refine wpV_go 5 rfl (fun K hK => ?_); go_simp; refine hK.out _ ?_; clear hK K)
      (refine wpV_go 6 rfl (fun K hK => ?_); go_simp; refine hK.out _ ?_; clear hK K)
      (refine wpV_go 7 rfl (fun K hK => ?_); go_simp; refine hK.out _ ?_; clear hK K)
      (refine wpV_go 8 rfl (fun K hK => ?_); go_simp; refine hK.out _ ?_; clear hK K)
      (refine wpV_go 9 rfl (fun K hK => ?_); go_simp; refine hK.out _ ?_; clear hK K)
      (refine wpV_go 10 rfl (fun K hK => ?_); go_simp; refine hK.out _ ?_; clear hK K)
      (refine wpV_f32 11 rfl (drewC _) _ _ _ _ _ rfl rfl rfl rfl (by decide) (by first | assumption | exact Is32.c (by decide)) (by first | assumption | exact Is32.c (by decide)) rfl ?_; intro z10 hz10)
      (refine wpV_f32 12 rfl (drewC _) _ _ _ _ _ rfl rfl rfl rfl (by decide) (by first | assumption | exact Is32.c (by decide)) (by first | assumption | exact Is32.c (by decide)) rfl ?_; intro z11 hz11)
      (refine wpV_go 13 rfl (fun K hK => ?_); go_simp; refine hK.out _ ?_; clear hK K)
      refine wpV_nil ?_
      rintro w9 ⟨q9, rfl⟩
      try simp only [List.drop]
      go_wp2_with fail
      have hf9 := Hf1.out
      go_roundw
      case rel => exact ⟨k + 1, r, Ys.set k z11, by omega, by go_num, rfl, Lib.hid (by show r = nxSeed (seedIt s0 k); rw [← HSe.out]; exact HNX.out.symm), Lib.hid (HU.out.next hlt (by unfold roughO; rw [HZK.out]; show Is32 (fop .add .f32 (some zk) (fop .mul .f32 (some x) (drawnO (nxSeed (seedIt s0 k))))) z11; rw [← HSe.out, HNX.out]; exact hz11)), Lib.hid ((HRow.out.drewN _).store Hyl.out.symm _ z11), Lib.hid (by obtain ⟨b0, b1, b2, b3⟩ := HBX.out; have hb : ∀ (q : Nat) (u : Value), ((wr.drewN q).setCell ⟨gz, k, none⟩ u).heap[BX]? = wr.heap[BX]? := fun q u => Below.heap_setCell _ _ _ _ (by show BX ≠ gz; omega); exact ⟨by rw [World.cell?_of_block (w := wr) (a := ⟨BX, 0, none⟩) (hb _ _), b0], by rw [World.cell?_of_block (w := wr) (a := ⟨BX, 1, none⟩) (hb _ _), b1], by rw [World.cell?_of_block (w := wr) (a := ⟨BX, 2, none⟩) (hb _ _), b2], by simpa using b3⟩), Lib.hid ((HRR.out.drewN _).setOther (by show gz ≠ _; omega) _), Lib.hid ((below_drewN HBk.out _).setCell (by show w.heap.size ≤ gz; omega) _)⟩
      case measure => simp [intOf]; omega
    · have hkn : k = zs.length := by omega
      subst hkn
      have hki : ¬ (zs.length : Int) < (zs.length : Int) := by omega
      have hyl : Ys.length = zs.length := HU.out.1
      have hto := HU.out.told
      have hval : validB wide high Ys = okT (roughT zs (some x) s0) := give_valid HSi.out (by rw [hyl]; exact HNl.out) hto
      have hrf : RowF .f32 wr (some ⟨gz, 0, none⟩) Ys := by have h9 := HRow.out; rw [← hyl] at h9; exact (FRow.mk h9).row
      have hcall := l02Is_any BX wide high (some ⟨gz, 0, none⟩) cap2 Ys wr p0 p1 (by rw [hyl]; exact p2) hrf (by rw [hyl]; exact hl)
      rw [hval] at hcall
      have HCall := Lib.hid hcall
      have HTo := Lib.hid (show Told (roughT zs (some x) s0) Ys from hto)
      have Hyl := Lib.hid hyl
      clear hcall hval hrf hyl hto
      obtain ⟨⟨r0, r1, r2, _⟩, rf⟩ := HRR.out
      go_wp2_with fail
      refine HCall.out.mono ?_
      rintro e w5 ⟨rfl, q5, rfl⟩
      cases hok : okT (roughT zs (some x) s0)
      · have hv : Q = failHN := by rw [← HQ.out]; unfold resRoughHill; rw [HV9.out, HF.out, HSD.out, hok]; rfl
        have HV := Lib.hid hv
        clear hv
        go_wp2_with fail
        rw [HV.out]
        refine bodyPost_ret (v := .tuple #[.agg #[.int .i64 0, .int .i64 0, .slice none 0 0], .int .i64 0, .bool false]) (by simp [results, Try.results23, go_sem, r0, r1, r2]) rfl ⟨none, 0, rfl, belowSetBox (below_drewN HBk.out _) (by omega) _ _ _, (show FRow _ _ _ (.slice none 0 0) [] from FRow.nil _ _)⟩
      have hvals := HTo.out.vals hok
      have hv : Q = ⟨wide, high, Ys, s, true⟩ := by rw [← HQ.out, hvals, HSe.out]; unfold resRoughHill; rw [HV9.out, HF.out, HSD.out, hok]; rfl
      have HV := Lib.hid hv
      clear hv hvals
      go_wp2_with fail
      rw [HV.out]
      have hf9 := Hf1.out
      have hfr : FRow (wr.drewN q5) L2 wr.heap.size (.slice (some ⟨gz, 0, none⟩) Ys.length cap2) Ys := by rw [Hyl.out]; exact HRow.out.frow.drewN q5
      have hgl := (HRow.out.lo gz rfl)
      refine bodyPost_ret (v := .tuple #[.agg #[.int .i64 wide, .int .i64 high, .slice (some ⟨gz, 0, none⟩) zs.length cap2], .int .i64 s, .bool true]) (by simp [results, Try.results23, go_sem, r0, r1, r2]) rfl ⟨some ⟨gz, 0, none⟩, cap2, by rw [Hyl.out], belowSetBox (below_drewN HBk.out _) (by omega) _ _ _, ?_⟩
      have hfr2 : FRow (wr.drewN q5) gz (gz + 1) (.slice (some ⟨gz, 0, none⟩) Ys.length cap2) Ys := by
        obtain ⟨l, h', fr, hb9, hd9⟩ := HRow.out.one (B := 0) (Nat.zero_le _) (Nat.zero_le _)
        rcases hd9 with ⟨h9, _, _⟩ | ⟨h9, h8, h7⟩
        · cases h9
        · simp only [Value.ownBlock, Option.some.injEq] at h9; subst h9; subst h8; rw [Hyl.out]; exact fr.drewN q5
      exact (hfr2.setBox (lo := gz) (hi := gz + 1) (b := w.heap.size + 1) (.inl (by omega)) _ _ _).mono (by omega) (Nat.le_refl _) (Nat.le_refl _)

end Go.Proofs.Ytgnkpppbhibfoab
