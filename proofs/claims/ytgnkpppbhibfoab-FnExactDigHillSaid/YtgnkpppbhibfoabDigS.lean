/- Dug hills: the model. -/
import Derived.Test.YtgnkpppbhibfoabDigC
import Derived.Test.YtgnkpppbhibfoabGive
import Derived.Test.YtgnkpppbhibfoabOwn2
import Derived.Test.YtgnkpppbhibfoabGrow
import Derived.Test.YtgnkpppbhibfoabRegionT
import Derived.Deep.Cut
namespace Go.Proofs.Ytgnkpppbhibfoab
open Go.RowKit
set_option linter.unusedVariables false
set_option linter.unusedSimpArgs false
set_option maxRecDepth 100000
attribute [local irreducible] wpV wpList Code.wp

set_option maxHeartbeats 16000000 in
theorem digHill_spec (wide high : Int) (a : Option Addr) (cap : Nat) (zs : List Nat) (aL : Option Addr) (capL : Nat) (L : List Int) (x : Nat) (w : World) (h : RowF .f32 w a zs) (hl : zs.length ≤ 1048576) (hz : ∀ z ∈ zs, z < 4294967296) (hL : RowI w aL L) (hLl : L.length ≤ 1048576) (hx : x < 4294967296) :
    Calls Try.prog 26 #[.agg #[.int .i64 wide, .int .i64 high, .slice a zs.length cap], .slice aL L.length capL, .float .f32 x] w (RetHB (resDigHill wide high zs L x).wide (resDigHill wide high zs L x).high (resDigHill wide high zs L x).zs (resDigHill wide high zs L x).ok w) := by
  obtain ⟨Q, hQ⟩ : ∃ Q, resDigHill wide high zs L x = Q := ⟨_, rfl⟩
  rw [hQ]
  have HQ := Lib.hid hQ
  clear hQ
  have H := Lib.hid h
  have HZ := Lib.hid hz
  have HL := Lib.hid hL
  have HXx : Hid (Is32 (some x) x) := Lib.hid (Is32.c hx)
  clear h hz hx hL
  have HC : Hid (∀ j, j < L.length → ∃ b off, aL = some ⟨b, off, none⟩ ∧ b < w.heap.size ∧ w.cell? ⟨b, off + j, none⟩ = some (.int .i64 (L.getD j 0))) := Lib.hid fun j hj => by rcases HL.out with rfl | ⟨b, off, h1, h2, h3⟩; (cases hj); exact ⟨b, off, h1, h2, h3 j hj⟩
  obtain ⟨W1, hW1⟩ : ∃ W, ((w.alloc (.cells #[.int .i64 wide, .int .i64 high, .slice a zs.length cap] 25)).alloc (.cells #[.int .i64 0, .int .i64 0, .slice none 0 0] 25)) = W := ⟨_, rfl⟩
  have hh : BoxH W1 w.heap.size wide high (.slice a zs.length cap) := by rw [← hW1]; exact (BoxH.new w wide high (.slice a zs.length cap) 25).alloc _
  have hbr : BoxW W1 (w.heap.size + 1) 0 0 (.slice none 0 0) := by rw [← hW1]; exact BoxW.at _ _ (by simp) 0 0 (.slice none 0 0) 25
  have hsz : W1.heap.size = w.heap.size + 1 + 1 := by rw [← hW1]; simp
  have hb : Below w.heap.size w W1 := by rw [← hW1]; exact below2 _ _ _
  have HB := Lib.hid hb
  have HBR := Lib.hid hbr
  have HH := Lib.hid hh
  obtain ⟨⟨r0, r1, r2, _⟩, rf⟩ := hbr
  obtain ⟨s0, s1, s2, _⟩ := hh
  have HW1 := Lib.hid hW1
  have HSZ := Lib.hid hsz
  clear hb hW1 hsz
  go_enter Try.func26, Try.ntmps26
  go_upto_region 1 with fail
  rw [HW1.out]
  clear HW1
  go_wp2_with fail
  refine (l02Is_any _ wide high a cap zs _ HH.out.1 HH.out.2.1 HH.out.2.2.1 (H.out.below HB.out (Nat.le_refl _)) hl).mono ?_
  rintro e w1 ⟨rfl, q0, rfl⟩
  cases hv9 : validB wide high zs
  · have hv : Q = failH := by rw [← HQ.out]; unfold resDigHill; rw [hv9]; simp only [Bool.false_and, Bool.and_false, Bool.true_and, Bool.and_true]; rfl
    have HVx := Lib.hid hv
    clear hv
    go_wp2_with fail
    rw [HVx.out]
    refine bodyPost_ret (v := .tuple #[.agg #[.int .i64 0, .int .i64 0, .slice none 0 0], .bool false]) (by simp [results, Try.results26, go_sem, r0, r1, r2]) rfl ⟨none, 0, rfl, belowSetBox (by repeat (first | with_reducible exact HB.out | with_reducible refine below_drewN ?_ _ | (with_reducible refine Below.alloc ?_ ?_ _; rotate_left; exact (by first | exact HBk.out.size | (simp; done) | (simp; omega) | omega)))) (by omega) _ _ _, (show FRow _ _ _ (.slice none 0 0) [] from FRow.nil _ _)⟩
  have HV9 := Lib.hid hv9
  clear hv9
  go_wp2_with fail
  refine (l01Fin_o _ HXx.out).mono ?_
  rintro e w' ⟨bb, hbb, rfl, q1, rfl⟩
  have HF := Lib.hid (show fin32 x = bb from hbb)
  clear hbb
  cases bb
  · have hv : Q = failH := by rw [← HQ.out]; unfold resDigHill; rw [HV9.out, HF.out]; simp only [Bool.false_and, Bool.and_false, Bool.true_and, Bool.and_true]; rfl
    have HVx := Lib.hid hv
    clear hv
    go_wp2_with fail
    rw [HVx.out]
    refine bodyPost_ret (v := .tuple #[.agg #[.int .i64 0, .int .i64 0, .slice none 0 0], .bool false]) (by simp [results, Try.results26, go_sem, r0, r1, r2]) rfl ⟨none, 0, rfl, belowSetBox (by repeat (first | with_reducible exact HB.out | with_reducible refine below_drewN ?_ _ | (with_reducible refine Below.alloc ?_ ?_ _; rotate_left; exact (by first | exact HBk.out.size | (simp; done) | (simp; omega) | omega)))) (by omega) _ _ _, (show FRow _ _ _ (.slice none 0 0) [] from FRow.nil _ _)⟩
  obtain ⟨hsi, hnl, hp1, hp2⟩ := valid_len8 HV9.out
  have HSi := Lib.hid hsi
  have HNl := Lib.hid hnl
  clear hsi hnl r0 r1 r2 rf s0 s1 s2
  obtain ⟨bz, oz, rfl, hbz⟩ : ∃ b off, a = some ⟨b, off, none⟩ ∧ b < w.heap.size := by rcases H.out with rfl | ⟨b, off, h1, h2, _⟩; (simp at hp1); exact ⟨b, off, h1, h2⟩
  have HCz : Hid (∀ i, i < zs.length → w.cell? ⟨bz, oz + i, none⟩ = some (.float .f32 (zs.getD i 0))) := Lib.hid fun i hi => by obtain ⟨b', o', h1, h2⟩ := H.out.cells i hi; cases h1; exact h2
  obtain ⟨w2, hw2⟩ : ∃ W, W1.drewN (q0 + q1) = W := ⟨_, rfl⟩
  have hb2 : Below w.heap.size w w2 := by rw [← hw2]; exact below_drewN HB.out _
  have hr2 : BoxW w2 (w.heap.size + 1) 0 0 (.slice none 0 0) := by rw [← hw2]; exact HBR.out
  have hh2 : BoxH w2 w.heap.size wide high (.slice (some ⟨bz, oz, none⟩) zs.length cap) := by rw [← hw2]; exact HH.out
  have hz2 : w2.heap.size = w.heap.size + 1 + 1 := by rw [← hw2]; exact HSZ.out
  have HB2 := Lib.hid hb2
  have HR2 := Lib.hid hr2
  have HH2 := Lib.hid hh2
  have HZ2 := Lib.hid hz2
  have HW2 := Lib.hid hw2
  clear hb2 hr2 hh2 hz2 hw2 HB HBR HH HSZ
  go_upto_region 3 with fail
  first | rw [HW2.out] | (rw [World.drewN_drewN]; rw [HW2.out])
  clear HW2
  go_wp2_with fail
  refine (l02Own_row _ wide high bz oz cap zs _ HH2.out.1 HH2.out.2.1 HH2.out.2.2.1 (by omega) hl (by have := HZ2.out; omega) (fun i hi => by rw [HB2.out.cell (p := ⟨bz, oz + i, none⟩) hbz]; exact HCz.out i hi)).mono ?_
  rintro e w3 ⟨a2, cz, rfl, hb3, hf3⟩
  have HB3 : Hid (Below w.heap.size w w3) := Lib.hid (HB2.out.trans (hb3.mono HB2.out.size))
  have HR3 := Lib.hid (HR2.out.below hb3 (by have := HZ2.out; omega))
  have HH3 := Lib.hid (HH2.out.below hb3 (by have := HZ2.out; omega))
  have hz3 : w2.heap.size ≤ w3.heap.size := hb3.size
  obtain ⟨rfl, h0⟩ | ⟨gz, rfl, hg1, hg2⟩ : (a2 = none ∧ zs = []) ∨ ∃ gz, a2 = some ⟨gz, 0, none⟩ ∧ w2.heap.size ≤ gz ∧ gz < w3.heap.size := by
    rcases hf3.cases with ⟨h1, h2⟩ | ⟨gn, cn, h1, h2, h3⟩
    · injection h1 with h1 _ _; exact .inl ⟨h1, h2⟩
    · injection h1 with h1 _ _; exact .inr ⟨gn, h1, h2, h3⟩
  · rw [h0] at hp1; simp at hp1
  have HRow3 : Hid (RowO w3 w2.heap.size (.slice (some ⟨gz, 0, none⟩) zs.length cz) zs) := Lib.hid hf3.1
  clear hb3 hf3
  obtain ⟨w4, hw4⟩ : ∃ W, w3.alloc (.cells #[.int .i64 wide, .int .i64 high, .slice (some ⟨gz, 0, none⟩) zs.length cz] 25) = W := ⟨_, rfl⟩
  have hbx : BoxH w4 w3.heap.size wide high (.slice (some ⟨gz, 0, none⟩) zs.length cz) := by rw [← hw4]; exact BoxH.new w3 wide high _ 25
  have hr4 : BoxW w4 (w.heap.size + 1) 0 0 (.slice none 0 0) := by rw [← hw4]; exact HR3.out.alloc _
  have hh4 : BoxH w4 w.heap.size wide high (.slice (some ⟨bz, oz, none⟩) zs.length cap) := by rw [← hw4]; exact HH3.out.alloc _
  have hb4 : Below w.heap.size w w4 := by rw [← hw4]; exact HB3.out.alloc HB3.out.size _
  have hrow4 : RowO w4 w2.heap.size (.slice (some ⟨gz, 0, none⟩) zs.length cz) zs := by rw [← hw4]; exact HRow3.out.alloc _
  have HBX4 := Lib.hid hbx
  have HR4 := Lib.hid hr4
  have HH4 := Lib.hid hh4
  have HB4 := Lib.hid hb4
  have HRow4 := Lib.hid hrow4
  have HW4 := Lib.hid hw4
  have hz2' := HZ2.out
  clear hbx hr4 hb4 hrow4 hw4 hh4 HB3 HR3 HRow3 HB2 HR2 HH2 HZ2 HH3
  go_upto_region 4 with fail
  rw [HW4.out]
  clear HW4
  go_wp2_with fail
  obtain ⟨BX, hBX⟩ : ∃ B, w3.heap.size = B := ⟨_, rfl⟩
  have Hf1 : Hid (gz < BX ∧ w.heap.size + 1 < gz ∧ w.heap.size + 1 < BX) := Lib.hid (by omega)
  rw [hBX] at HBX4
  try rw [hBX]
  obtain ⟨L2, hL2⟩ : ∃ B, w2.heap.size = B := ⟨_, rfl⟩
  rw [hL2] at HRow4
  have Hf2 : Hid (w.heap.size + 1 < L2) := Lib.hid (by omega)
  clear hz3 hz2' hg1 hg2 hBX hL2
  go_loopw [9] (fun iv wr => ∃ (k : Nat) (Ys : List Nat), k ≤ L.length ∧ iv = .int .i64 k ∧ Hid (cellsTo (wide * high) L k = true) ∧ Hid (DigTo (some x) L k zs Ys) ∧ Hid (RowO wr L2 (.slice (some ⟨gz, 0, none⟩) zs.length cz) Ys) ∧ Hid (BoxH wr BX wide high (.slice (some ⟨gz, 0, none⟩) zs.length cz)) ∧ Hid (BoxH wr w.heap.size wide high (.slice (some ⟨bz, oz, none⟩) zs.length cap)) ∧ Hid (BoxW wr (w.heap.size + 1) 0 0 (.slice none 0 0)) ∧ Hid (Below w.heap.size w wr)) (fun iv _ => L.length - (intOf iv).toNat)
  case atStart => exact ⟨0, zs, Nat.zero_le _, rfl, Lib.hid rfl, Lib.hid (DigTo.zero _ _ _ HZ.out), HRow4, HBX4, HH4, HR4, HB4⟩
  case round =>
    clear HRow4 HBX4 HR4 HB4 HH4
    obtain ⟨k, Ys, hk, rfl, HTo, HU, HRow, HBX, HHX, HRR, HBk⟩ := hrel
    by_cases hlt : k < L.length
    · by_cases h0 : k = 0
      · obtain rfl : k = 0 := h0
        obtain ⟨bL, oL, rfl, hbL, hc1⟩ := HC.out 0 hlt
        have hc1' : wr.cell? ⟨bL, oL + 0, none⟩ = some (.int .i64 (L.getD 0 0)) := by rw [HBk.out.cell (p := ⟨bL, oL + 0, none⟩) hbL]; exact hc1
        obtain ⟨z1, hz1⟩ : ∃ z, L.getD 0 0 = z := ⟨_, rfl⟩
        rw [hz1] at hc1'
        have HZ1 := Lib.hid hz1
        rw [Nat.add_zero] at hc1'
        have hk9 : (0 : Int) < (L.length : Int) := by omega
        clear hc1 hz1
        have hk0 : (0 : Int) ≤ ((0 : Nat) : Int) := by omega
        have hk1 : ((0 : Nat) : Int) < (L.length : Int) := by omega
        have HCall : Hid (∀ b n, cellB (wide * high) z1 = b → Calls Try.prog 75 #[.pointer (some ⟨w.heap.size, 0, none⟩), .int .i64 z1] (wr.drewN n) fun e w' => e = .returned (.bool b) ∧ ∃ m, w' = (wr.drewN n).drewN m) := Lib.hid fun b n hb => l02Has_any w.heap.size wide high z1 (some ⟨bz, oz, none⟩) cap zs (wr.drewN n) HHX.out.1 HHX.out.2.1 HHX.out.2.2.1 (H.out.below (below_drewN HBk.out n) (Nat.le_refl _)) hl HV9.out b hb
        go_wp2_with fail
        cases hcb : cellB (wide * high) z1
        · have HCb := Lib.hid hcb
          clear hcb
          go_quiet (first | (go_at_call 75; exact Calls.quiet_of (HCall.out _ _ HCb.out)))
          generalize hW6 : World.drewN wr _ = W6
          have hB6 : Below w.heap.size w W6 := by rw [← hW6]; exact below_drewN HBk.out _
          have hr6 : RowO W6 L2 (.slice (some ⟨gz, 0, none⟩) zs.length cz) Ys := by rw [← hW6]; exact HRow.out.drewN _
          have hx6 : BoxH W6 BX wide high (.slice (some ⟨gz, 0, none⟩) zs.length cz) := by rw [← hW6]; exact HBX.out
          have hh6 : BoxH W6 w.heap.size wide high (.slice (some ⟨bz, oz, none⟩) zs.length cap) := by rw [← hW6]; exact HHX.out
          have ho6 : BoxW W6 (w.heap.size + 1) 0 0 (.slice none 0 0) := by rw [← hW6]; exact HRR.out
          obtain ⟨⟨r0, r1, r2, _⟩, rf⟩ := ho6
          have hcl : cellsB (wide * high) L = false := by unfold cellsB; exact cellsTo_not (k := 0) (by unfold okAt; rw [HZ1.out, HCb.out, Bool.false_and]) L.length hlt
          have hv : Q = failH := by rw [← HQ.out]; unfold resDigHill; rw [HV9.out, hcl]; simp only [Bool.false_and, Bool.and_false, Bool.true_and, Bool.and_true]; rfl
          have HB6 := Lib.hid hB6
          clear hB6 hcl hr6 hx6 hh6
          have HVx := Lib.hid hv
          clear hv
          go_wp2_with fail
          rw [HVx.out]
          refine bodyPost_ret (v := .tuple #[.agg #[.int .i64 0, .int .i64 0, .slice none 0 0], .bool false]) (by simp [results, Try.results26, go_sem, r0, r1, r2]) rfl ⟨none, 0, rfl, belowSetBox HB6.out (by omega) _ _ _, (show FRow _ _ _ (.slice none 0 0) [] from FRow.nil _ _)⟩
        have HCb := Lib.hid hcb
        clear hcb
        go_quiet (first | (go_at_call 75; exact Calls.quiet_of (HCall.out _ _ HCb.out)))
        generalize hW6 : World.drewN wr _ = W6
        have hB6 : Below w.heap.size w W6 := by rw [← hW6]; exact below_drewN HBk.out _
        have hr6 : RowO W6 L2 (.slice (some ⟨gz, 0, none⟩) zs.length cz) Ys := by rw [← hW6]; exact HRow.out.drewN _
        have hx6 : BoxH W6 BX wide high (.slice (some ⟨gz, 0, none⟩) zs.length cz) := by rw [← hW6]; exact HBX.out
        have hh6 : BoxH W6 w.heap.size wide high (.slice (some ⟨bz, oz, none⟩) zs.length cap) := by rw [← hW6]; exact HHX.out
        have ho6 : BoxW W6 (w.heap.size + 1) 0 0 (.slice none 0 0) := by rw [← hW6]; exact HRR.out
        have hat : okAt (wide * high) L 0 = true := by unfold okAt; rw [HZ1.out, HCb.out]; rfl
        have hct : cellsTo (wide * high) L (0 + 1) = true := by show (cellsTo _ _ _ && okAt _ _ _) = true; rw [HTo.out, hat]; rfl
        obtain ⟨hn1, hn2⟩ := cellB_true HCb.out
        obtain ⟨q, rfl⟩ : ∃ q : Nat, z1 = (q : Int) := ⟨z1.toNat, by omega⟩
        have hqo : q < zs.length := by have := HNl.out; omega
        have hd1 : W6.cell? ⟨bL, oL, none⟩ = some (.int .i64 (q : Int)) := by rw [← hW6]; exact hc1'
        have hyl : Ys.length = zs.length := HU.out.1
        have hyq := HU.out.old hct hlt HZ1.out hqo
        obtain ⟨hcy, hfy⟩ := hr6.at hyl.symm q (by omega)
        rw [hyq] at hcy
        obtain ⟨zk, hzk⟩ : ∃ z, zs.getD q 0 = z := ⟨_, rfl⟩
        rw [hzk] at hcy
        have hik : Is32 (some zk) zk := Is32.c (by rw [← hzk, List.getD_eq_getElem?_getD, List.getElem?_eq_getElem hqo]; exact HZ.out _ (List.getElem_mem _))
        have HZK := Lib.hid hzk
        have Hyl := Lib.hid hyl
        have HCt := Lib.hid hct
        have hq0 : (0 : Int) ≤ (q : Int) := by omega
        have hq1 : (q : Int) < (zs.length : Int) := by omega
        have hxx := HXx.out
        have HB6 := Lib.hid hB6
        have HR6 := Lib.hid hr6
        have HX6 := Lib.hid hx6
        have HH6 := Lib.hid hh6
        have HO6 := Lib.hid ho6
        obtain ⟨p0, p1, p2, _⟩ := hx6
        clear hzk hyl hyq hct hat hn1 hn2 hB6 hr6 hh6 ho6 hW6 hc1'
        go_wp2_with fail
        apply wp_region_tail (id := 9) 17 (C := fun w' => ∃ q2, w' = W6.drewN q2) (vmap [(15, V32k _)]) ⟨1, rfl⟩ (by kernel_rfl) (by kernel_rfl)
        (refine wpV_go 1 rfl (fun K hK => ?_); go_simp; refine hK.out _ ?_; clear hK K)
        (refine wpV_go 2 rfl (fun K hK => ?_); go_simp; refine hK.out _ ?_; clear hK K)
        (refine wpV_go 3 rfl (fun K hK => ?_); go_simp; refine hK.out _ ?_; clear hK K)
        (refine wpV_go 4 rfl (fun K hK => ?_); go_simp; refine hK.out _ ?_; clear hK K)
        (refine wpV_go 5 rfl (fun K hK => ?_); go_simp; refine hK.out _ ?_; clear hK K)
        (refine wpV_go 6 rfl (fun K hK => ?_); go_simp; refine hK.out _ ?_; clear hK K)
        (refine wpV_go 7 rfl (fun K hK => ?_); go_simp; refine hK.out _ ?_; clear hK K)
        (refine wpV_go 8 rfl (fun K hK => ?_); go_simp; refine hK.out _ ?_; clear hK K)
        (refine wpV_go 9 rfl (fun K hK => ?_); go_simp; refine hK.out _ ?_; clear hK K)
        (refine wpV_go 10 rfl (fun K hK => ?_); go_simp; refine hK.out _ ?_; clear hK K)
        (refine wpV_go 11 rfl (fun K hK => ?_); go_simp; refine hK.out _ ?_; clear hK K)
        (refine wpV_go 12 rfl (fun K hK => ?_); go_simp; refine hK.out _ ?_; clear hK K)
        (refine wpV_go 13 rfl (fun K hK => ?_); go_simp; refine hK.out _ ?_; clear hK K)
        (refine wpV_go 14 rfl (fun K hK => ?_); go_simp; refine hK.out _ ?_; clear hK K)
        (refine wpV_go 15 rfl (fun K hK => ?_); go_simp; refine hK.out _ ?_; clear hK K)
        (refine wpV_f32 16 rfl (drewC _) _ _ _ _ _ rfl rfl rfl rfl (by decide) (by first | assumption | exact Is32.c (by decide)) (by first | assumption | exact Is32.c (by decide)) rfl ?_; intro z15 hz15)
        (refine wpV_go 17 rfl (fun K hK => ?_); go_simp; refine hK.out _ ?_; clear hK K)
        refine wpV_nil ?_
        rintro w9 ⟨q9, rfl⟩
        try simp only [List.drop]
        go_wp2_with fail
        have hf9 := Hf1.out
        go_roundw
        case rel => exact ⟨0 + 1, Ys.set q z15, by omega, by go_num, HCt, Lib.hid (HU.out.next hlt HZ1.out hqo (by rw [HZK.out]; exact hz15)), Lib.hid ((HR6.out.drewN _).store Hyl.out.symm _ z15), Lib.hid (by obtain ⟨b0, b1, b2, b3⟩ := HX6.out; have hb : ∀ (q9 : Nat) (u : Value), ((W6.drewN q9).setCell ⟨gz, q, none⟩ u).heap[BX]? = W6.heap[BX]? := fun q9 u => Below.heap_setCell _ _ _ _ (by show BX ≠ gz; omega); exact ⟨by rw [World.cell?_of_block (w := W6) (a := ⟨BX, 0, none⟩) (hb _ _), b0], by rw [World.cell?_of_block (w := W6) (a := ⟨BX, 1, none⟩) (hb _ _), b1], by rw [World.cell?_of_block (w := W6) (a := ⟨BX, 2, none⟩) (hb _ _), b2], by simpa using b3⟩), Lib.hid (by obtain ⟨b0, b1, b2, b3⟩ := HH6.out; have hb : ∀ (q9 : Nat) (u : Value), ((W6.drewN q9).setCell ⟨gz, q, none⟩ u).heap[w.heap.size]? = W6.heap[w.heap.size]? := fun q9 u => Below.heap_setCell _ _ _ _ (by show w.heap.size ≠ gz; omega); exact ⟨by rw [World.cell?_of_block (w := W6) (a := ⟨w.heap.size, 0, none⟩) (hb _ _), b0], by rw [World.cell?_of_block (w := W6) (a := ⟨w.heap.size, 1, none⟩) (hb _ _), b1], by rw [World.cell?_of_block (w := W6) (a := ⟨w.heap.size, 2, none⟩) (hb _ _), b2], by simpa using b3⟩), Lib.hid (HO6.out.put _ (by show gz ≠ _; omega) _), Lib.hid ((below_drewN HB6.out _).setCell (by show w.heap.size ≤ gz; omega) _)⟩
        case measure => simp [intOf]; omega
      · obtain ⟨m, rfl⟩ : ∃ m, k = m + 1 := ⟨k - 1, by omega⟩
        obtain ⟨bL, oL, rfl, hbL, hc1⟩ := HC.out (m + 1) hlt
        have hc1' : wr.cell? ⟨bL, oL + (m + 1), none⟩ = some (.int .i64 (L.getD (m + 1) 0)) := by rw [HBk.out.cell (p := ⟨bL, oL + (m + 1), none⟩) hbL]; exact hc1
        obtain ⟨bL', oL', hq, hbL', hc2⟩ := HC.out m (by omega)
        cases hq
        have hc2' : wr.cell? ⟨bL, oL + m, none⟩ = some (.int .i64 (L.getD m 0)) := by rw [HBk.out.cell (p := ⟨bL, oL + m, none⟩) hbL]; exact hc2
        obtain ⟨z1, hz1⟩ : ∃ z, L.getD (m + 1) 0 = z := ⟨_, rfl⟩
        rw [hz1] at hc1'
        have HZ1 := Lib.hid hz1
        obtain ⟨z0, hz0⟩ : ∃ z, L.getD m 0 = z := ⟨_, rfl⟩
        rw [hz0] at hc2'
        have HZ0 := Lib.hid hz0
        have hcast : ((m + 1 : Nat) : Int) = (m : Int) + 1 := by omega
        have hcast1 : ((m : Int) + 1 - 1) = (m : Int) := by omega
        have hi1 : IntKind.i64.wrap (m : Int) = (m : Int) := IntWalk.i64_in _ (by omega)
        have hgt : (0 : Int) < (m : Int) + 1 := by omega
        have hge : (0 : Int) ≤ (m : Int) + 1 := by omega
        clear hc1 hz1 hc2 hz0
        have hk0 : (0 : Int) ≤ (((m + 1) : Nat) : Int) := by omega
        have hk1 : (((m + 1) : Nat) : Int) < (L.length : Int) := by omega
        have HCall : Hid (∀ b n, cellB (wide * high) z1 = b → Calls Try.prog 75 #[.pointer (some ⟨w.heap.size, 0, none⟩), .int .i64 z1] (wr.drewN n) fun e w' => e = .returned (.bool b) ∧ ∃ m, w' = (wr.drewN n).drewN m) := Lib.hid fun b n hb => l02Has_any w.heap.size wide high z1 (some ⟨bz, oz, none⟩) cap zs (wr.drewN n) HHX.out.1 HHX.out.2.1 HHX.out.2.2.1 (H.out.below (below_drewN HBk.out n) (Nat.le_refl _)) hl HV9.out b hb
        go_wp2_with fail
        cases hcb : cellB (wide * high) z1
        · have HCb := Lib.hid hcb
          clear hcb
          go_quiet (first | (go_at_call 75; exact Calls.quiet_of (HCall.out _ _ HCb.out)))
          generalize hW6 : World.drewN wr _ = W6
          have hB6 : Below w.heap.size w W6 := by rw [← hW6]; exact below_drewN HBk.out _
          have hr6 : RowO W6 L2 (.slice (some ⟨gz, 0, none⟩) zs.length cz) Ys := by rw [← hW6]; exact HRow.out.drewN _
          have hx6 : BoxH W6 BX wide high (.slice (some ⟨gz, 0, none⟩) zs.length cz) := by rw [← hW6]; exact HBX.out
          have hh6 : BoxH W6 w.heap.size wide high (.slice (some ⟨bz, oz, none⟩) zs.length cap) := by rw [← hW6]; exact HHX.out
          have ho6 : BoxW W6 (w.heap.size + 1) 0 0 (.slice none 0 0) := by rw [← hW6]; exact HRR.out
          obtain ⟨⟨r0, r1, r2, _⟩, rf⟩ := ho6
          have hcl : cellsB (wide * high) L = false := by unfold cellsB; exact cellsTo_not (k := (m + 1)) (by unfold okAt; rw [HZ1.out, HCb.out, Bool.false_and]) L.length hlt
          have hv : Q = failH := by rw [← HQ.out]; unfold resDigHill; rw [HV9.out, hcl]; simp only [Bool.false_and, Bool.and_false, Bool.true_and, Bool.and_true]; rfl
          have HB6 := Lib.hid hB6
          clear hB6 hcl hr6 hx6 hh6
          have HVx := Lib.hid hv
          clear hv
          go_wp2_with fail
          rw [HVx.out]
          refine bodyPost_ret (v := .tuple #[.agg #[.int .i64 0, .int .i64 0, .slice none 0 0], .bool false]) (by simp [results, Try.results26, go_sem, r0, r1, r2]) rfl ⟨none, 0, rfl, belowSetBox HB6.out (by omega) _ _ _, (show FRow _ _ _ (.slice none 0 0) [] from FRow.nil _ _)⟩
        by_cases hle : z1 ≤ z0
        · have HCb := Lib.hid hcb
          clear hcb
          go_quiet (first | (go_at_call 75; exact Calls.quiet_of (HCall.out _ _ HCb.out)))
          generalize hW6 : World.drewN wr _ = W6
          have hB6 : Below w.heap.size w W6 := by rw [← hW6]; exact below_drewN HBk.out _
          have hr6 : RowO W6 L2 (.slice (some ⟨gz, 0, none⟩) zs.length cz) Ys := by rw [← hW6]; exact HRow.out.drewN _
          have hx6 : BoxH W6 BX wide high (.slice (some ⟨gz, 0, none⟩) zs.length cz) := by rw [← hW6]; exact HBX.out
          have hh6 : BoxH W6 w.heap.size wide high (.slice (some ⟨bz, oz, none⟩) zs.length cap) := by rw [← hW6]; exact HHX.out
          have ho6 : BoxW W6 (w.heap.size + 1) 0 0 (.slice none 0 0) := by rw [← hW6]; exact HRR.out
          obtain ⟨⟨r0, r1, r2, _⟩, rf⟩ := ho6
          have hcl : cellsB (wide * high) L = false := by unfold cellsB; exact cellsTo_not (k := (m + 1)) (by unfold okAt; rw [HZ1.out, HCb.out, show m + 1 - 1 = m from rfl, HZ0.out, decide_eq_false (by omega : ¬ m + 1 = 0), decide_eq_false (by omega : ¬ z0 < z1)]; rfl) L.length hlt
          have hv : Q = failH := by rw [← HQ.out]; unfold resDigHill; rw [HV9.out, hcl]; simp only [Bool.false_and, Bool.and_false, Bool.true_and, Bool.and_true]; rfl
          have HB6 := Lib.hid hB6
          clear hB6 hcl hr6 hx6 hh6
          have HVx := Lib.hid hv
          clear hv
          go_wp2_with fail
          rw [HVx.out]
          refine bodyPost_ret (v := .tuple #[.agg #[.int .i64 0, .int .i64 0, .slice none 0 0], .bool false]) (by simp [results, Try.results26, go_sem, r0, r1, r2]) rfl ⟨none, 0, rfl, belowSetBox HB6.out (by omega) _ _ _, (show FRow _ _ _ (.slice none 0 0) [] from FRow.nil _ _)⟩
        have HCb := Lib.hid hcb
        clear hcb
        go_quiet (first | (go_at_call 75; exact Calls.quiet_of (HCall.out _ _ HCb.out)))
        generalize hW6 : World.drewN wr _ = W6
        have hB6 : Below w.heap.size w W6 := by rw [← hW6]; exact below_drewN HBk.out _
        have hr6 : RowO W6 L2 (.slice (some ⟨gz, 0, none⟩) zs.length cz) Ys := by rw [← hW6]; exact HRow.out.drewN _
        have hx6 : BoxH W6 BX wide high (.slice (some ⟨gz, 0, none⟩) zs.length cz) := by rw [← hW6]; exact HBX.out
        have hh6 : BoxH W6 w.heap.size wide high (.slice (some ⟨bz, oz, none⟩) zs.length cap) := by rw [← hW6]; exact HHX.out
        have ho6 : BoxW W6 (w.heap.size + 1) 0 0 (.slice none 0 0) := by rw [← hW6]; exact HRR.out
        have hat : okAt (wide * high) L (m + 1) = true := by unfold okAt; rw [HZ1.out, HCb.out, show m + 1 - 1 = m from rfl, HZ0.out, decide_eq_true (by omega : z0 < _), Bool.or_true]; rfl
        have hct : cellsTo (wide * high) L ((m + 1) + 1) = true := by show (cellsTo _ _ _ && okAt _ _ _) = true; rw [HTo.out, hat]; rfl
        obtain ⟨hn1, hn2⟩ := cellB_true HCb.out
        obtain ⟨q, rfl⟩ : ∃ q : Nat, z1 = (q : Int) := ⟨z1.toNat, by omega⟩
        have hqo : q < zs.length := by have := HNl.out; omega
        have hd1 : W6.cell? ⟨bL, oL + (m + 1), none⟩ = some (.int .i64 (q : Int)) := by rw [← hW6]; exact hc1'
        have hyl : Ys.length = zs.length := HU.out.1
        have hyq := HU.out.old hct hlt HZ1.out hqo
        obtain ⟨hcy, hfy⟩ := hr6.at hyl.symm q (by omega)
        rw [hyq] at hcy
        obtain ⟨zk, hzk⟩ : ∃ z, zs.getD q 0 = z := ⟨_, rfl⟩
        rw [hzk] at hcy
        have hik : Is32 (some zk) zk := Is32.c (by rw [← hzk, List.getD_eq_getElem?_getD, List.getElem?_eq_getElem hqo]; exact HZ.out _ (List.getElem_mem _))
        have HZK := Lib.hid hzk
        have Hyl := Lib.hid hyl
        have HCt := Lib.hid hct
        have hq0 : (0 : Int) ≤ (q : Int) := by omega
        have hq1 : (q : Int) < (zs.length : Int) := by omega
        have hxx := HXx.out
        have HB6 := Lib.hid hB6
        have HR6 := Lib.hid hr6
        have HX6 := Lib.hid hx6
        have HH6 := Lib.hid hh6
        have HO6 := Lib.hid ho6
        obtain ⟨p0, p1, p2, _⟩ := hx6
        clear hzk hyl hyq hct hat hn1 hn2 hB6 hr6 hh6 ho6 hW6 hc1' hc2'
        go_wp2_with fail
        apply wp_region_tail (id := 9) 17 (C := fun w' => ∃ q2, w' = W6.drewN q2) (vmap [(15, V32k _)]) ⟨1, rfl⟩ (by kernel_rfl) (by kernel_rfl)
        (refine wpV_go 1 rfl (fun K hK => ?_); go_simp; refine hK.out _ ?_; clear hK K)
        (refine wpV_go 2 rfl (fun K hK => ?_); go_simp; refine hK.out _ ?_; clear hK K)
        (refine wpV_go 3 rfl (fun K hK => ?_); go_simp; refine hK.out _ ?_; clear hK K)
        (refine wpV_go 4 rfl (fun K hK => ?_); go_simp; refine hK.out _ ?_; clear hK K)
        (refine wpV_go 5 rfl (fun K hK => ?_); go_simp; refine hK.out _ ?_; clear hK K)
        (refine wpV_go 6 rfl (fun K hK => ?_); go_simp; refine hK.out _ ?_; clear hK K)
        (refine wpV_go 7 rfl (fun K hK => ?_); go_simp; refine hK.out _ ?_; clear hK K)
        (refine wpV_go 8 rfl (fun K hK => ?_); go_simp; refine hK.out _ ?_; clear hK K)
        (refine wpV_go 9 rfl (fun K hK => ?_); go_simp; refine hK.out _ ?_; clear hK K)
        (refine wpV_go 10 rfl (fun K hK => ?_); go_simp; refine hK.out _ ?_; clear hK K)
        (refine wpV_go 11 rfl (fun K hK => ?_); go_simp; refine hK.out _ ?_; clear hK K)
        (refine wpV_go 12 rfl (fun K hK => ?_); go_simp; refine hK.out _ ?_; clear hK K)
        (refine wpV_go 13 rfl (fun K hK => ?_); go_simp; refine hK.out _ ?_; clear hK K)
        (refine wpV_go 14 rfl (fun K hK => ?_); go_simp; refine hK.out _ ?_; clear hK K)
        (refine wpV_go 15 rfl (fun K hK => ?_); go_simp; refine hK.out _ ?_; clear hK K)
        (refine wpV_f32 16 rfl (drewC _) _ _ _ _ _ rfl rfl rfl rfl (by decide) (by first | assumption | exact Is32.c (by decide)) (by first | assumption | exact Is32.c (by decide)) rfl ?_; intro z15 hz15)
        (refine wpV_go 17 rfl (fun K hK => ?_); go_simp; refine hK.out _ ?_; clear hK K)
        refine wpV_nil ?_
        rintro w9 ⟨q9, rfl⟩
        try simp only [List.drop]
        go_wp2_with fail
        have hf9 := Hf1.out
        go_roundw
        case rel => exact ⟨(m + 1) + 1, Ys.set q z15, by omega, by go_num, HCt, Lib.hid (HU.out.next hlt HZ1.out hqo (by rw [HZK.out]; exact hz15)), Lib.hid ((HR6.out.drewN _).store Hyl.out.symm _ z15), Lib.hid (by obtain ⟨b0, b1, b2, b3⟩ := HX6.out; have hb : ∀ (q9 : Nat) (u : Value), ((W6.drewN q9).setCell ⟨gz, q, none⟩ u).heap[BX]? = W6.heap[BX]? := fun q9 u => Below.heap_setCell _ _ _ _ (by show BX ≠ gz; omega); exact ⟨by rw [World.cell?_of_block (w := W6) (a := ⟨BX, 0, none⟩) (hb _ _), b0], by rw [World.cell?_of_block (w := W6) (a := ⟨BX, 1, none⟩) (hb _ _), b1], by rw [World.cell?_of_block (w := W6) (a := ⟨BX, 2, none⟩) (hb _ _), b2], by simpa using b3⟩), Lib.hid (by obtain ⟨b0, b1, b2, b3⟩ := HH6.out; have hb : ∀ (q9 : Nat) (u : Value), ((W6.drewN q9).setCell ⟨gz, q, none⟩ u).heap[w.heap.size]? = W6.heap[w.heap.size]? := fun q9 u => Below.heap_setCell _ _ _ _ (by show w.heap.size ≠ gz; omega); exact ⟨by rw [World.cell?_of_block (w := W6) (a := ⟨w.heap.size, 0, none⟩) (hb _ _), b0], by rw [World.cell?_of_block (w := W6) (a := ⟨w.heap.size, 1, none⟩) (hb _ _), b1], by rw [World.cell?_of_block (w := W6) (a := ⟨w.heap.size, 2, none⟩) (hb _ _), b2], by simpa using b3⟩), Lib.hid (HO6.out.put _ (by show gz ≠ _; omega) _), Lib.hid ((below_drewN HB6.out _).setCell (by show w.heap.size ≤ gz; omega) _)⟩
        case measure => simp [intOf]; omega
    · have hkn : k = L.length := by omega
      subst hkn
      have hki : ¬ (L.length : Int) < (L.length : Int) := by omega
      have HCl : Hid (cellsB (wide * high) L = true) := HTo
      have hyl : Ys.length = zs.length := HU.out.1
      obtain ⟨R, hR⟩ : ∃ R, giveH wide high (digT zs L (some x)) = R := ⟨_, rfl⟩
      have hmade := l02Give_any wide high (some ⟨gz, 0, none⟩) cz Ys (digT zs L (some x)) L2 wr.heap.size wr HSi.out (by rw [hyl]; exact HNl.out) HU.out.told (by rw [hyl]; exact HRow.out.frow)
      rw [hR, hyl] at hmade
      have HMade := Lib.hid hmade
      have HRe := Lib.hid hR
      clear hmade hR hyl
      obtain ⟨⟨r0, r1, r2, _⟩, rf⟩ := HRR.out
      obtain ⟨s0, s1, s2, _⟩ := HBX.out
      have hf2 := Hf2.out
      obtain ⟨RW, RH, RZ, ok⟩ := R
      have hv : Q = ⟨RW, RH, RZ, ok⟩ := by rw [← HQ.out, ← HRe.out]; unfold resDigHill; rw [HV9.out, HCl.out, HF.out]; rfl
      have HVx := Lib.hid hv
      clear hv
      have hf9 := Hf1.out
      go_wp2_with fail
      refine HMade.out.mono ?_
      rintro e w4 ⟨a4, c4, rfl, hb, hf⟩
      have HB4 : Hid (Below w.heap.size w w4) := Lib.hid (HBk.out.trans (hb.mono HBk.out.size))
      have HR4 := Lib.hid (HRR.out.below hb HRR.out.1.2.2.2)
      have HF4 := Lib.hid hf
      clear hb hf r0 r1 r2 rf
      obtain ⟨⟨r0, r1, r2, _⟩, rf⟩ := HR4.out
      go_wp2_with fail
      rw [HVx.out]
      exact bodyPost_ret (v := .tuple #[.agg #[.int .i64 RW, .int .i64 RH, .slice a4 RZ.length c4], .bool ok]) (by simp [results, Try.results26, go_sem, r0, r1, r2]) rfl ⟨a4, c4, rfl, belowSetBox HB4.out (by omega) _ _ _, (HF4.out.setBox (b := w.heap.size + 1) (.inl (by omega)) _ _ _).mono (by omega) (Nat.le_refl _) (Nat.le_refl _)⟩

end Go.Proofs.Ytgnkpppbhibfoab
