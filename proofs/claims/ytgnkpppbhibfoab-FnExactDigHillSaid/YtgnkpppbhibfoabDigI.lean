/- Dug hills: the program. -/
import Derived.Test.YtgnkpppbhibfoabDigC
import Derived.Test.YtgnkpppbhibfoabGive
import Derived.Test.YtgnkpppbhibfoabClone5
import Derived.Deep.Cut
namespace Go.Proofs.Ytgnkpppbhibfoab
open Go.RowKit
set_option linter.unusedVariables false
set_option linter.unusedSimpArgs false
set_option maxRecDepth 100000
attribute [local irreducible] wpV wpList Code.wp

set_option maxHeartbeats 8000000 in
theorem digHill_impl (wide high : Int) (a : Option Addr) (cap : Nat) (zs : List Nat) (aL : Option Addr) (capL : Nat) (L : List Int) (x : Nat) (w : World) (h : RowF .f32 w a zs) (hl : zs.length ≤ 1048576) (hz : ∀ z ∈ zs, z < 4294967296) (hL : RowI w aL L) (hLl : L.length ≤ 1048576) (hx : x < 4294967296) :
    Calls Try.prog 28 #[.agg #[.int .i64 wide, .int .i64 high, .slice a zs.length cap], .slice aL L.length capL, .float .f32 x] w (RetHB (resDigHill wide high zs L x).wide (resDigHill wide high zs L x).high (resDigHill wide high zs L x).zs (resDigHill wide high zs L x).ok w) := by
  obtain ⟨Q, hQ⟩ : ∃ Q, resDigHill wide high zs L x = Q := ⟨_, rfl⟩
  rw [hQ]
  have HQ := Lib.hid hQ
  clear hQ
  have H := Lib.hid h
  have HZ := Lib.hid hz
  have HL := Lib.hid hL
  have HXx : Hid (Is32 (some x) x) := Lib.hid (Is32.c hx)
  clear h hz hx hL
  have HC : Hid (∀ j, j < L.length → ∃ b off, aL = some ⟨b, off, none⟩ ∧ b < w.heap.size ∧ w.cell? ⟨b, off + j, none⟩ = some (.int .i64 (L.getD j 0))) := Lib.hid fun j hj => by rcases HL.out with rfl | ⟨b, off, h1, h2, h3⟩; (cases hj); exact ⟨b, off, h1, h2, h3 j hj⟩
  obtain ⟨W1, hW1⟩ : ∃ W, ((w.alloc (.cells #[.int .i64 wide, .int .i64 high, .slice a zs.length cap] 25)).alloc (.cells #[.int .i64 0, .int .i64 0, .slice none 0 0] 25)) = W := ⟨_, rfl⟩
  have hh : BoxH W1 w.heap.size wide high (.slice a zs.length cap) := by rw [← hW1]; exact (BoxH.new w wide high (.slice a zs.length cap) 25).alloc _
  have hbr : BoxW W1 (w.heap.size + 1) 0 0 (.slice none 0 0) := by rw [← hW1]; exact BoxW.at _ _ (by simp) 0 0 (.slice none 0 0) 25
  have hsz : W1.heap.size = w.heap.size + 1 + 1 := by rw [← hW1]; simp
  have hb : Below w.heap.size w W1 := by rw [← hW1]; exact below2 _ _ _
  have HB := Lib.hid hb
  have HBR := Lib.hid hbr
  have HH := Lib.hid hh
  obtain ⟨⟨r0, r1, r2, _⟩, rf⟩ := hbr
  obtain ⟨s0, s1, s2, _⟩ := hh
  have HW1 := Lib.hid hW1
  have HSZ := Lib.hid hsz
  clear hb hW1 hsz
  go_enter Try.func28, Try.ntmps28
  go_upto_region 1 with fail
  rw [HW1.out]
  clear HW1
  go_wp2_with fail
  cases hv9 : validB wide high zs
  · refine ((hv9 ▸ validHill_any wide high a cap zs _ (H.out.below HB.out (Nat.le_refl _)) hl HZ.out : Calls _ _ _ _ (Says false _))).mono ?_
    rintro e w1 ⟨rfl, hb⟩
    have HB1 : Hid (Below w.heap.size w w1) := Lib.hid (HB.out.trans (hb.mono HB.out.size))
    have HBR1 := Lib.hid (HBR.out.below hb (by have := HSZ.out; omega))
    have HH1 := Lib.hid (HH.out.below hb (by have := HSZ.out; omega))
    have hz1 : W1.heap.size ≤ w1.heap.size := hb.size
    have HS1 : Hid (w.heap.size + 1 + 1 ≤ w1.heap.size) := Lib.hid (by have := HSZ.out; omega)
    clear hb r0 r1 r2 rf s0 s1 s2
    obtain ⟨⟨r0, r1, r2, _⟩, rf⟩ := HBR1.out
    obtain ⟨s0, s1, s2, _⟩ := HH1.out
    have hv : Q = failH := by rw [← HQ.out]; unfold resDigHill; rw [hv9]; simp only [Bool.false_and, Bool.and_false, Bool.true_and, Bool.and_true]; rfl
    have HVx := Lib.hid hv
    clear hv
    go_wp2_with fail
    rw [HVx.out]
    refine bodyPost_ret (v := .tuple #[.agg #[.int .i64 0, .int .i64 0, .slice none 0 0], .bool false]) (by simp [results, Try.results28, go_sem, r0, r1, r2]) rfl ⟨none, 0, rfl, belowSetBox HB1.out (by omega) _ _ _, (show FRow _ _ _ (.slice none 0 0) [] from FRow.nil _ _)⟩
  refine ((hv9 ▸ validHill_any wide high a cap zs _ (H.out.below HB.out (Nat.le_refl _)) hl HZ.out : Calls _ _ _ _ (Says true _))).mono ?_
  rintro e w1 ⟨rfl, hb⟩
  have HB1 : Hid (Below w.heap.size w w1) := Lib.hid (HB.out.trans (hb.mono HB.out.size))
  have HBR1 := Lib.hid (HBR.out.below hb (by have := HSZ.out; omega))
  have HH1 := Lib.hid (HH.out.below hb (by have := HSZ.out; omega))
  have hz1 : W1.heap.size ≤ w1.heap.size := hb.size
  have HS1 : Hid (w.heap.size + 1 + 1 ≤ w1.heap.size) := Lib.hid (by have := HSZ.out; omega)
  clear hb r0 r1 r2 rf s0 s1 s2
  obtain ⟨⟨r0, r1, r2, _⟩, rf⟩ := HBR1.out
  obtain ⟨s0, s1, s2, _⟩ := HH1.out
  have HV9 := Lib.hid hv9
  clear hv9
  go_wp2_with fail
  cases hcl : cellsB (wide * high) L
  · refine ((hcl ▸ areCells_any wide high (.slice a zs.length cap) aL capL L w1 (valid_len8 HV9.out).1 ⟨_, _, _, rfl⟩ (by rcases HL.out with h9 | ⟨b, off, h1, h2, h3⟩; (exact .inl h9); exact .inr ⟨b, off, h1, Nat.lt_of_lt_of_le h2 HB1.out.size, fun i hi => by rw [HB1.out.cell (p := ⟨b, off + i, none⟩) h2]; exact h3 i hi⟩) hLl : Calls _ _ _ _ (fun e w' => e = .returned (.bool false) ∧ Below w1.heap.size w1 w'))).mono ?_
    rintro e w2 ⟨rfl, hb⟩
    have HB2 : Hid (Below w.heap.size w w2) := Lib.hid (HB1.out.trans (hb.mono HB1.out.size))
    have HBR2 := Lib.hid (HBR1.out.below hb (by have := HSZ.out; have := HS1.out; omega))
    have HH2 := Lib.hid (HH1.out.below hb (by have := HSZ.out; have := HS1.out; omega))
    have hz2 : w1.heap.size ≤ w2.heap.size := hb.size
    clear hb r0 r1 r2 rf s0 s1 s2
    obtain ⟨⟨r0, r1, r2, _⟩, rf⟩ := HBR2.out
    obtain ⟨s0, s1, s2, _⟩ := HH2.out
    have hv : Q = failH := by rw [← HQ.out]; unfold resDigHill; rw [HV9.out, hcl]; simp only [Bool.false_and, Bool.and_false, Bool.true_and, Bool.and_true]; rfl
    have HVx := Lib.hid hv
    clear hv
    go_wp2_with fail
    rw [HVx.out]
    refine bodyPost_ret (v := .tuple #[.agg #[.int .i64 0, .int .i64 0, .slice none 0 0], .bool false]) (by simp [results, Try.results28, go_sem, r0, r1, r2]) rfl ⟨none, 0, rfl, belowSetBox HB2.out (by omega) _ _ _, (show FRow _ _ _ (.slice none 0 0) [] from FRow.nil _ _)⟩
  refine ((hcl ▸ areCells_any wide high (.slice a zs.length cap) aL capL L w1 (valid_len8 HV9.out).1 ⟨_, _, _, rfl⟩ (by rcases HL.out with h9 | ⟨b, off, h1, h2, h3⟩; (exact .inl h9); exact .inr ⟨b, off, h1, Nat.lt_of_lt_of_le h2 HB1.out.size, fun i hi => by rw [HB1.out.cell (p := ⟨b, off + i, none⟩) h2]; exact h3 i hi⟩) hLl : Calls _ _ _ _ (fun e w' => e = .returned (.bool true) ∧ Below w1.heap.size w1 w'))).mono ?_
  rintro e w2 ⟨rfl, hb⟩
  have HB2 : Hid (Below w.heap.size w w2) := Lib.hid (HB1.out.trans (hb.mono HB1.out.size))
  have HBR2 := Lib.hid (HBR1.out.below hb (by have := HSZ.out; have := HS1.out; omega))
  have HH2 := Lib.hid (HH1.out.below hb (by have := HSZ.out; have := HS1.out; omega))
  have hz2 : w1.heap.size ≤ w2.heap.size := hb.size
  clear hb r0 r1 r2 rf s0 s1 s2
  obtain ⟨⟨r0, r1, r2, _⟩, rf⟩ := HBR2.out
  obtain ⟨s0, s1, s2, _⟩ := HH2.out
  have HCl := Lib.hid hcl
  clear hcl
  go_wp2_with fail
  refine (isFin_o _ HXx.out).mono ?_
  rintro e w' ⟨bb, hbb, rfl, rfl⟩
  have HF := Lib.hid (show fin32 x = bb from hbb)
  clear hbb
  cases bb
  · have hv : Q = failH := by rw [← HQ.out]; unfold resDigHill; rw [HV9.out, HCl.out, HF.out]; simp only [Bool.false_and, Bool.and_false, Bool.true_and, Bool.and_true]; rfl
    have HVx := Lib.hid hv
    clear hv
    go_wp2_with fail
    rw [HVx.out]
    refine bodyPost_ret (v := .tuple #[.agg #[.int .i64 0, .int .i64 0, .slice none 0 0], .bool false]) (by simp [results, Try.results28, go_sem, r0, r1, r2]) rfl ⟨none, 0, rfl, belowSetBox HB2.out (by omega) _ _ _, (show FRow _ _ _ (.slice none 0 0) [] from FRow.nil _ _)⟩
  obtain ⟨hsi, hnl, hp1, hp2⟩ := valid_len8 HV9.out
  have HSi := Lib.hid hsi
  have HNl := Lib.hid hnl
  clear hsi hnl
  go_wp2_with fail
  refine (clone_f a cap zs _ (H.out.below HB2.out (Nat.le_refl _)) hl (by omega)).mono ?_
  rintro e w3 ⟨gz, cz, rfl, hro, hb⟩
  have HRow3 := Lib.hid hro
  clear hro
  have hgl := HRow3.out.lo gz rfl
  have HB3 : Hid (Below w.heap.size w w3) := Lib.hid (HB2.out.trans (hb.mono HB2.out.size))
  have HBR3 := Lib.hid (HBR2.out.below hb (by have := HSZ.out; have := HS1.out; omega))
  have HH3 := Lib.hid (HH2.out.below hb (by have := HSZ.out; have := HS1.out; omega))
  have hz3 : w2.heap.size ≤ w3.heap.size := hb.size
  clear hb r0 r1 r2 rf s0 s1 s2
  obtain ⟨⟨r0, r1, r2, _⟩, rf⟩ := HBR3.out
  obtain ⟨s0, s1, s2, _⟩ := HH3.out
  have Hf1 : Hid (w.heap.size + 1 < gz ∧ w.heap.size + 1 + 1 ≤ w2.heap.size) := Lib.hid (by have := HS1.out; omega)
  obtain ⟨L2, hL2⟩ : ∃ B, w2.heap.size = B := ⟨_, rfl⟩
  rw [hL2] at HRow3 Hf1
  clear hL2 hgl hz1 hz2 hz3 r0 r1 r2 rf s0 s1 s2
  go_wp2_with fail
  go_loopw [31] (fun iv wr => ∃ (k : Nat) (Ys : List Nat), k ≤ L.length ∧ iv = .int .i64 k ∧ Hid (DigTo (some x) L k zs Ys) ∧ Hid (RowO wr L2 (.slice (some ⟨gz, 0, none⟩) zs.length cz) Ys) ∧ Hid (BoxH wr w.heap.size wide high (.slice a zs.length cap)) ∧ Hid (BoxW wr (w.heap.size + 1) 0 0 (.slice none 0 0)) ∧ Hid (Below w.heap.size w wr)) (fun iv _ => L.length - (intOf iv).toNat)
  case atStart => exact ⟨0, zs, Nat.zero_le _, rfl, Lib.hid (DigTo.zero _ _ _ HZ.out), HRow3, HH3, HBR3, HB3⟩
  case round =>
    clear HRow3 HH3 HBR3 HB3 HB2 HH2 HBR2 HB1 HH1 HBR1 HB HH HBR
    obtain ⟨k, Ys, hk, rfl, HU, HRow, HBX, HRR, HBk⟩ := hrel
    by_cases hlt : k < L.length
    · have hk0 : (0 : Int) ≤ (k : Int) := by omega
      have hki : (k : Int) < (L.length : Int) := by omega
      obtain ⟨bL, oL, rfl, hbL, hc1⟩ := HC.out k hlt
      have hct := cellsTo_mono (k := k + 1) HCl.out (by omega)
      have hat := cellsTo_le HCl.out hlt
      have hin : cellB (wide * high) (L.getD k 0) = true := by unfold okAt at hat; rw [Bool.and_eq_true] at hat; exact hat.1
      obtain ⟨hn1, hn2⟩ := cellB_true hin
      obtain ⟨q, hq⟩ : ∃ q : Nat, L.getD k 0 = (q : Int) := ⟨(L.getD k 0).toNat, by omega⟩
      have hqo : q < zs.length := by have := HNl.out; omega
      have hc1' : wr.cell? ⟨bL, oL + k, none⟩ = some (.int .i64 (q : Int)) := by rw [HBk.out.cell (p := ⟨bL, oL + k, none⟩) hbL, hc1, hq]
      have hyl : Ys.length = zs.length := HU.out.1
      have hyq := HU.out.old hct hlt hq hqo
      obtain ⟨hcy, hfy⟩ := HRow.out.at hyl.symm q (by omega)
      rw [hyq] at hcy
      obtain ⟨zk, hzk⟩ : ∃ z, zs.getD q 0 = z := ⟨_, rfl⟩
      rw [hzk] at hcy
      have hik : Is32 (some zk) zk := Is32.c (by rw [← hzk, List.getD_eq_getElem?_getD, List.getElem?_eq_getElem hqo]; exact HZ.out _ (List.getElem_mem _))
      have HZK := Lib.hid hzk
      have Hyl := Lib.hid hyl
      have HQe := Lib.hid hq
      have hq0 : (0 : Int) ≤ (q : Int) := by omega
      have hq1 : (q : Int) < (zs.length : Int) := by omega
      have hxx := HXx.out
      clear hzk hyl hyq hc1 hct hat hin hn1 hn2 hq
      go_wp2_with (first | ((with_reducible refine wpList_bin ?_); refine wpList_f32 rfl _ _ _ _ _ rfl rfl rfl (by decide) (by first | assumption | exact Is32.c (by decide)) (by first | assumption | exact Is32.c (by decide)) ?_; intro z n hz))
      have hf9 := Hf1.out
      go_roundw
      case rel => exact ⟨k + 1, Ys.set q z, by omega, by go_num, Lib.hid (HU.out.next hlt HQe.out hqo (by rw [HZK.out]; exact hz)), Lib.hid ((HRow.out.drewN _).store Hyl.out.symm _ z), Lib.hid (by obtain ⟨b0, b1, b2, b3⟩ := HBX.out; have hb : ∀ (q9 : Nat) (u : Value), ((wr.drewN q9).setCell ⟨gz, q, none⟩ u).heap[w.heap.size]? = wr.heap[w.heap.size]? := fun q9 u => Below.heap_setCell _ _ _ _ (by show w.heap.size ≠ gz; omega); exact ⟨by rw [World.cell?_of_block (w := wr) (a := ⟨w.heap.size, 0, none⟩) (hb _ _), b0], by rw [World.cell?_of_block (w := wr) (a := ⟨w.heap.size, 1, none⟩) (hb _ _), b1], by rw [World.cell?_of_block (w := wr) (a := ⟨w.heap.size, 2, none⟩) (hb _ _), b2], by simpa using b3⟩), Lib.hid (HRR.out.put _ (by show gz ≠ _; omega) _), Lib.hid ((below_drewN HBk.out _).setCell (by show w.heap.size ≤ gz; omega) _)⟩
      case measure => simp [intOf]; omega
    · have hkn : k = L.length := by omega
      subst hkn
      have hki : ¬ (L.length : Int) < (L.length : Int) := by omega
      have hyl : Ys.length = zs.length := HU.out.1
      obtain ⟨R, hR⟩ : ∃ R, giveH wide high (digT zs L (some x)) = R := ⟨_, rfl⟩
      have hmade := madeHill_any wide high (some ⟨gz, 0, none⟩) cz Ys (digT zs L (some x)) L2 wr.heap.size wr HSi.out (by rw [hyl]; exact HNl.out) HU.out.told HU.out.lt (by rw [hyl]; exact HRow.out.frow)
      rw [hR, hyl] at hmade
      have HMade := Lib.hid hmade
      have HRe := Lib.hid hR
      clear hmade hR hyl
      obtain ⟨⟨r0, r1, r2, _⟩, rf⟩ := HRR.out
      obtain ⟨s0, s1, s2, _⟩ := HBX.out
      obtain ⟨RW, RH, RZ, ok⟩ := R
      have hv : Q = ⟨RW, RH, RZ, ok⟩ := by rw [← HQ.out, ← HRe.out]; unfold resDigHill; rw [HV9.out, HCl.out, HF.out]; rfl
      have HVx := Lib.hid hv
      clear hv
      have hf9 := Hf1.out
      go_wp2_with fail
      refine HMade.out.mono ?_
      rintro e w4 ⟨a4, c4, rfl, hb, hf⟩
      have HB4 : Hid (Below w.heap.size w w4) := Lib.hid (HBk.out.trans (hb.mono HBk.out.size))
      have HR4 := Lib.hid (HRR.out.below hb HRR.out.1.2.2.2)
      have HF4 := Lib.hid hf
      clear hb hf r0 r1 r2 rf
      obtain ⟨⟨r0, r1, r2, _⟩, rf⟩ := HR4.out
      go_wp2_with fail
      rw [HVx.out]
      exact bodyPost_ret (v := .tuple #[.agg #[.int .i64 RW, .int .i64 RH, .slice a4 RZ.length c4], .bool ok]) (by simp [results, Try.results28, go_sem, r0, r1, r2]) rfl ⟨a4, c4, rfl, belowSetBox HB4.out (by omega) _ _ _, (HF4.out.setBox (b := w.heap.size + 1) (.inl (by omega)) _ _ _).mono (by omega) (Nat.le_refl _) (Nat.le_refl _)⟩

end Go.Proofs.Ytgnkpppbhibfoab
