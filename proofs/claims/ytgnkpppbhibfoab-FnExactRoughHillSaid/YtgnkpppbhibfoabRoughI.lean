/- Rough hills: the program. -/
import Derived.Test.YtgnkpppbhibfoabRoughC
import Derived.Deep.Cut
import Derived.Test.YtgnkpppbhibfoabRegionI
namespace Go.Proofs.Ytgnkpppbhibfoab
open Go.RowKit
set_option linter.unusedVariables false
set_option linter.unusedSimpArgs false
set_option maxRecDepth 100000
attribute [local irreducible] wpV wpList Code.wp

set_option maxHeartbeats 1000000 in
theorem isSeed_b (s : Int) (b : Bool) (h : seedB s = b) (w : World) : Calls Try.prog 72 #[.int .i64 s] w fun e w' => e = .returned (.bool b) ∧ w = w' := by
  subst h
  unfold seedB
  by_cases h1 : 0 ≤ s <;> by_cases h2 : s ≤ 2147483647
  · go_enter Try.func72, Try.ntmps72
    have h3 : s < 2147483648 := by omega
    go_wp2_with fail
    go_ret
    exact ⟨by simp [h1, h2], rfl⟩
  · go_enter Try.func72, Try.ntmps72
    have h3 : ¬ s < 2147483648 := by omega
    go_wp2_with fail
    go_ret
    exact ⟨by simp [h1, h2], rfl⟩
  · go_enter Try.func72, Try.ntmps72
    have h3 : s < 2147483648 := by omega
    go_wp2_with fail
    go_ret
    exact ⟨by simp [h1, h2], rfl⟩
  · go_enter Try.func72, Try.ntmps72
    have h3 : ¬ s < 2147483648 := by omega
    go_wp2_with fail
    go_ret
    exact ⟨by simp [h1, h2], rfl⟩

set_option maxHeartbeats 8000000 in
theorem roughHill_impl (wide high : Int) (a : Option Addr) (cap : Nat) (zs : List Nat) (x : Nat) (s0 : Int) (w : World) (h : RowF .f32 w a zs) (hl : zs.length ≤ 1048576) (hz : ∀ z ∈ zs, z < 4294967296) (hx : x < 4294967296) (hsl : -9223372036854775808 ≤ s0) (hsm : s0 ≤ 9223372036854775807) :
    Calls Try.prog 25 #[.agg #[.int .i64 wide, .int .i64 high, .slice a zs.length cap], .float .f32 x, .int .i64 s0] w (RetHNB (resRoughHill wide high zs x s0).wide (resRoughHill wide high zs x s0).high (resRoughHill wide high zs x s0).zs (resRoughHill wide high zs x s0).n (resRoughHill wide high zs x s0).ok w) := by
  obtain ⟨Q, hQ⟩ : ∃ Q, resRoughHill wide high zs x s0 = Q := ⟨_, rfl⟩
  rw [hQ]
  have HQ := Lib.hid hQ
  clear hQ
  have H := Lib.hid h
  have HZ := Lib.hid hz
  have HXx : Hid (Is32 (some x) x) := Lib.hid (Is32.c hx)
  clear h hz hx
  obtain ⟨W4, hW4⟩ : ∃ W, ((((w.alloc (.cells #[.int .i64 wide, .int .i64 high, .slice a zs.length cap] 25)).alloc (.cells #[.float .f32 x] 22)).alloc (.cells #[.int .i64 s0] 2)).alloc (.cells #[.int .i64 0, .int .i64 0, .slice none 0 0] 25)) = W := ⟨_, rfl⟩
  have hb : Below w.heap.size w W4 := by rw [← hW4]; exact ((((Below.refl _ _).alloc (by omega) _).alloc (by simp) _).alloc (by simp; omega) _).alloc (by simp; omega) _
  have hsz : W4.heap.size = w.heap.size + 1 + 1 + 1 + 1 := by rw [← hW4]; simp
  have hh : BoxH W4 w.heap.size wide high (.slice a zs.length cap) := by rw [← hW4]; exact (((BoxH.new w wide high (.slice a zs.length cap) 25).alloc _).alloc _).alloc _
  have c2 : W4.cell? ⟨w.heap.size + 1, 0, none⟩ = some (.float .f32 x) := by rw [← hW4]; simp [go_sem]
  have c3 : W4.cell? ⟨w.heap.size + 1 + 1, 0, none⟩ = some (.int .i64 s0) := by rw [← hW4]; simp [go_sem]
  have f3 : W4.frozen? ⟨w.heap.size + 1 + 1, 0, none⟩ = false := by rw [← hW4]; simp [go_sem]
  have hbr : BoxW W4 (w.heap.size + 1 + 1 + 1) 0 0 (.slice none 0 0) := by rw [← hW4]; exact BoxW.at _ _ (by simp) 0 0 (.slice none 0 0) 25
  have HB := Lib.hid hb
  have HH := Lib.hid hh
  have HBR := Lib.hid hbr
  have HC2 := Lib.hid c2
  have HC3 := Lib.hid c3
  have HF3 := Lib.hid f3
  have HSZ := Lib.hid hsz
  obtain ⟨r0, r1, r2, _⟩ := hh
  have HW4 := Lib.hid hW4
  clear hb hbr hW4 c2 c3 f3
  go_enter Try.func25, Try.ntmps25
  go_upto_region 1 with fail
  rw [HW4.out]
  clear HW4
  go_wp2_with fail
  cases hv9 : validB wide high zs
  · refine ((hv9 ▸ validHill_any wide high a cap zs _ (H.out.below HB.out (Nat.le_refl _)) hl HZ.out : Calls _ _ _ _ (Says false _))).mono ?_
    rintro e w1 ⟨rfl, hb⟩
    have HB1 : Hid (Below w.heap.size w w1) := Lib.hid (HB.out.trans (hb.mono (by omega)))
    have HBR1 := Lib.hid (HBR.out.below hb (by omega))
    have HH1 := Lib.hid (HH.out.below hb (by omega))
    have c2 : w1.cell? ⟨w.heap.size + 1, 0, none⟩ = some (.float .f32 x) := by rw [hb.cell (p := ⟨w.heap.size + 1, 0, none⟩) (by show w.heap.size + 1 < W4.heap.size; omega)]; exact HC2.out
    have c3 : w1.cell? ⟨w.heap.size + 1 + 1, 0, none⟩ = some (.int .i64 s0) := by rw [hb.cell (p := ⟨w.heap.size + 1 + 1, 0, none⟩) (by show w.heap.size + 1 + 1 < W4.heap.size; omega)]; exact HC3.out
    have f3 : w1.frozen? ⟨w.heap.size + 1 + 1, 0, none⟩ = false := by rw [hb.frozen (p := ⟨w.heap.size + 1 + 1, 0, none⟩) (by show w.heap.size + 1 + 1 < W4.heap.size; omega)]; exact HF3.out
    have hz1 : W4.heap.size ≤ w1.heap.size := hb.size
    clear hb r0 r1 r2
    obtain ⟨⟨r0, r1, r2, _⟩, rf⟩ := HBR1.out
    have hv : Q = failHN := by rw [← HQ.out]; unfold resRoughHill; rw [hv9]; simp only [Bool.false_and, Bool.and_false, Bool.true_and, Bool.and_true]; rfl
    have HV := Lib.hid hv
    clear hv
    go_wp2_with fail
    rw [HV.out]
    refine bodyPost_ret (v := .tuple #[.agg #[.int .i64 0, .int .i64 0, .slice none 0 0], .int .i64 0, .bool false]) (by simp [results, Try.results25, go_sem, r0, r1, r2]) rfl ⟨none, 0, rfl, belowSetBox HB1.out (by omega) _ _ _, (show FRow _ _ _ (.slice none 0 0) [] from FRow.nil _ _)⟩
  refine ((hv9 ▸ validHill_any wide high a cap zs _ (H.out.below HB.out (Nat.le_refl _)) hl HZ.out : Calls _ _ _ _ (Says true _))).mono ?_
  rintro e w1 ⟨rfl, hb⟩
  have HB1 : Hid (Below w.heap.size w w1) := Lib.hid (HB.out.trans (hb.mono (by omega)))
  have HBR1 := Lib.hid (HBR.out.below hb (by omega))
  have HH1 := Lib.hid (HH.out.below hb (by omega))
  have c2 : w1.cell? ⟨w.heap.size + 1, 0, none⟩ = some (.float .f32 x) := by rw [hb.cell (p := ⟨w.heap.size + 1, 0, none⟩) (by show w.heap.size + 1 < W4.heap.size; omega)]; exact HC2.out
  have c3 : w1.cell? ⟨w.heap.size + 1 + 1, 0, none⟩ = some (.int .i64 s0) := by rw [hb.cell (p := ⟨w.heap.size + 1 + 1, 0, none⟩) (by show w.heap.size + 1 + 1 < W4.heap.size; omega)]; exact HC3.out
  have f3 : w1.frozen? ⟨w.heap.size + 1 + 1, 0, none⟩ = false := by rw [hb.frozen (p := ⟨w.heap.size + 1 + 1, 0, none⟩) (by show w.heap.size + 1 + 1 < W4.heap.size; omega)]; exact HF3.out
  have hz1 : W4.heap.size ≤ w1.heap.size := hb.size
  clear hb r0 r1 r2
  obtain ⟨⟨r0, r1, r2, _⟩, rf⟩ := HBR1.out
  have HV9 := Lib.hid hv9
  clear hv9
  go_wp2_with fail
  refine (isFin_o _ HXx.out).mono ?_
  rintro e w' ⟨bb, hbb, rfl, rfl⟩
  have HF := Lib.hid (show fin32 x = bb from hbb)
  clear hbb
  cases bb
  · have hv : Q = failHN := by rw [← HQ.out]; unfold resRoughHill; rw [HV9.out, HF.out]; simp only [Bool.false_and, Bool.and_false, Bool.true_and, Bool.and_true]; rfl
    have HV := Lib.hid hv
    clear hv
    go_wp2_with fail
    rw [HV.out]
    refine bodyPost_ret (v := .tuple #[.agg #[.int .i64 0, .int .i64 0, .slice none 0 0], .int .i64 0, .bool false]) (by simp [results, Try.results25, go_sem, r0, r1, r2]) rfl ⟨none, 0, rfl, belowSetBox HB1.out (by omega) _ _ _, (show FRow _ _ _ (.slice none 0 0) [] from FRow.nil _ _)⟩
  go_wp2_with fail
  cases hsd : seedB s0
  · refine (isSeed_b s0 false hsd _).mono ?_
    rintro e w' ⟨rfl, rfl⟩
    have hv : Q = failHN := by rw [← HQ.out]; unfold resRoughHill; rw [HV9.out, HF.out, hsd]; simp only [Bool.false_and, Bool.and_false, Bool.true_and, Bool.and_true]; rfl
    have HV := Lib.hid hv
    clear hv
    go_wp2_with fail
    rw [HV.out]
    refine bodyPost_ret (v := .tuple #[.agg #[.int .i64 0, .int .i64 0, .slice none 0 0], .int .i64 0, .bool false]) (by simp [results, Try.results25, go_sem, r0, r1, r2]) rfl ⟨none, 0, rfl, belowSetBox HB1.out (by omega) _ _ _, (show FRow _ _ _ (.slice none 0 0) [] from FRow.nil _ _)⟩
  refine (isSeed_b s0 true hsd _).mono ?_
  rintro e w' ⟨rfl, rfl⟩
  have HSD := Lib.hid hsd
  have hsr : 0 ≤ s0 ∧ s0 < 2147483648 := by unfold seedB at hsd; rw [Bool.and_eq_true, decide_eq_true_eq, decide_eq_true_eq] at hsd; omega
  have HSR := Lib.hid hsr
  clear hsd hsr
  obtain ⟨hsi, hnl, hp1, hp2⟩ := valid_len9 HV9.out
  have HSi := Lib.hid hsi
  have HNl := Lib.hid hnl
  clear hsi hnl
  obtain ⟨bz, oz, rfl, hbz⟩ : ∃ b off, a = some ⟨b, off, none⟩ ∧ b < w.heap.size := by rcases H.out with rfl | ⟨b, off, h1, h2, _⟩; (simp at hp1); exact ⟨b, off, h1, h2⟩
  have HCz : Hid (∀ i, i < zs.length → w.cell? ⟨bz, oz + i, none⟩ = some (.float .f32 (zs.getD i 0))) := Lib.hid fun i hi => by obtain ⟨b', o', h1, h2⟩ := H.out.cells i hi; cases h1; exact h2
  have hmf : ∀ (fn : Fn) (first cap : Array Value) (w : World), (Instr.makeFunc fn first cap).run Try.prog w = .ok (.func fn first cap) w := fun _ _ _ _ => rfl
  have Htells : Hid (Tells 73 #[.pointer (some ⟨w.heap.size + 1 + 1, 0, none⟩), .pointer (some ⟨w.heap.size, 0, none⟩), .pointer (some ⟨w.heap.size + 1, 0, none⟩)] zs.length w1.heap.size (roughO zs (some x) s0) (fun k W => W.cell? ⟨w.heap.size + 1 + 1, 0, none⟩ = some (.int .i64 (seedIt s0 k)) ∧ W.frozen? ⟨w.heap.size + 1 + 1, 0, none⟩ = false ∧ BoxH W w.heap.size wide high (.slice (some ⟨bz, oz, none⟩) zs.length cap) ∧ W.cell? ⟨w.heap.size + 1, 0, none⟩ = some (.float .f32 x) ∧ Below w.heap.size w W ∧ BoxW W (w.heap.size + 1 + 1 + 1) 0 0 (.slice none 0 0) ∧ w1.heap.size ≤ W.heap.size)) := by
    refine ⟨fun k W hk hI => ?_, fun k W W' h1 h2 => ?_⟩
    · obtain ⟨i1, i2, i3, i4, i5, i6, i7⟩ := hI
      refine (roughClo_any (X := some x) (seedIt s0 k) k zs.length (w.heap.size + 1 + 1) w.heap.size (w.heap.size + 1) bz oz cap (zs.getD k 0) W (seedIt_rng HSR.out k) hk HXx.out (Is32.c (by rw [List.getD_eq_getElem?_getD, List.getElem?_eq_getElem hk]; exact HZ.out _ (List.getElem_mem _))) (by omega) (by omega) (by omega) i1 i2 i3.2.2.1 i4 (by rw [i5.cell (p := ⟨bz, oz + k, none⟩) hbz]; exact HCz.out k hk)).mono ?_
      rintro e W' ⟨r, rfl, hr, m, rfl⟩
      have hS : ∀ (b o : Nat), b ≠ w.heap.size + 1 + 1 → ((W.setCell ⟨w.heap.size + 1 + 1, 0, none⟩ (.int .i64 (nxSeed (seedIt s0 k)))).drewN m).heap[b]? = W.heap[b]? := fun b o hb => Below.heap_setCell _ _ _ _ hb
      refine ⟨r, rfl, hr.1, hr.2, ⟨?_, ?_, ?_, ?_, ?_, ?_, ?_⟩, ?_⟩
      · show (W.setCell ⟨w.heap.size + 1 + 1, 0, none⟩ (.int .i64 (nxSeed (seedIt s0 k)))).cell? _ = some (.int .i64 (nxSeed (seedIt s0 k)))
        simp [go_sem, i1, i2]
      · show (W.setCell ⟨w.heap.size + 1 + 1, 0, none⟩ (.int .i64 (nxSeed (seedIt s0 k)))).frozen? _ = false
        simp [go_sem, i2]
      · obtain ⟨h0, h1, h2, h3⟩ := i3
        have hb := hS w.heap.size 0 (by omega)
        exact ⟨by rw [World.cell?_of_block (w := W) (a := ⟨w.heap.size, 0, none⟩) hb, h0], by rw [World.cell?_of_block (w := W) (a := ⟨w.heap.size, 1, none⟩) hb, h1], by rw [World.cell?_of_block (w := W) (a := ⟨w.heap.size, 2, none⟩) hb, h2], by show w.heap.size < (W.setCell _ _).heap.size; simpa using h3⟩
      · rw [World.cell?_of_block (w := W) (a := ⟨w.heap.size + 1, 0, none⟩) (hS _ 0 (by show w.heap.size + 1 ≠ _; omega))]; exact i4
      · exact below_drewN (i5.setCell (by show w.heap.size ≤ w.heap.size + 1 + 1; omega) _) m
      · obtain ⟨⟨h0, h1, h2, h3⟩, hf⟩ := i6
        have hb := hS (w.heap.size + 1 + 1 + 1) 0 (by omega)
        exact ⟨⟨by rw [World.cell?_of_block (w := W) (a := ⟨w.heap.size + 1 + 1 + 1, 0, none⟩) hb, h0], by rw [World.cell?_of_block (w := W) (a := ⟨w.heap.size + 1 + 1 + 1, 1, none⟩) hb, h1], by rw [World.cell?_of_block (w := W) (a := ⟨w.heap.size + 1 + 1 + 1, 2, none⟩) hb, h2], by show w.heap.size + 1 + 1 + 1 < (W.setCell _ _).heap.size; simpa using h3⟩, fun o => by rw [World.frozen?_of_block (w := W) (a := ⟨w.heap.size + 1 + 1 + 1, o, none⟩) hb]; exact hf o⟩
      · show w1.heap.size ≤ (W.setCell _ _).heap.size
        simpa using i7
      · exact (Kept.setLow (by show w.heap.size + 1 + 1 < w1.heap.size; omega) _).trans (Kept.of_below (below_drewN (Below.refl _ _) m) (Nat.le_refl _))
    · obtain ⟨i1, i2, i3, i4, i5, i6, i7⟩ := h1
      exact ⟨by rw [h2.cell (p := ⟨w.heap.size + 1 + 1, 0, none⟩) (by show w.heap.size + 1 + 1 < w1.heap.size; omega)]; exact i1, by rw [h2.frozen (p := ⟨w.heap.size + 1 + 1, 0, none⟩) (by show w.heap.size + 1 + 1 < w1.heap.size; omega)]; exact i2, i3.below h2 (by omega), by rw [h2.cell (p := ⟨w.heap.size + 1, 0, none⟩) (by show w.heap.size + 1 < w1.heap.size; omega)]; exact i4, i5.trans (h2.mono (by omega)), i6.below h2 (by omega), Nat.le_trans i7 h2.size⟩
  have hI0 := (⟨c3, f3, HH1.out, c2, HB1.out, HBR1.out, Nat.le_refl _⟩ : (fun (k : Nat) (W : World) => W.cell? ⟨w.heap.size + 1 + 1, 0, none⟩ = some (.int .i64 (seedIt s0 k)) ∧ W.frozen? ⟨w.heap.size + 1 + 1, 0, none⟩ = false ∧ BoxH W w.heap.size wide high (.slice (some ⟨bz, oz, none⟩) zs.length cap) ∧ W.cell? ⟨w.heap.size + 1, 0, none⟩ = some (.float .f32 x) ∧ Below w.heap.size w W ∧ BoxW W (w.heap.size + 1 + 1 + 1) 0 0 (.slice none 0 0) ∧ w1.heap.size ≤ W.heap.size) 0 w1)
  have hmade := hillOf_any _ _ (enters_of Try.func73 (by kernel_rfl) rfl) wide high zs.length _ _ w1 HSi.out HNl.out.symm Htells.out hI0
  obtain ⟨R, hR⟩ : ∃ R, giveH wide high (roughT zs (some x) s0) = R := ⟨_, rfl⟩
  have HRR := Lib.hid hR
  rw [show (List.range zs.length).map (roughO zs (some x) s0) = roughT zs (some x) s0 from rfl, hR] at hmade
  have HMade := Lib.hid hmade
  clear hmade hI0 hR
  obtain ⟨h0', h1', h2', _⟩ := HH1.out
  go_wp2_with fail
  refine HMade.out.mono ?_
  rintro e w2 ⟨a3, cap3, rfl, ⟨i1, i2, i3, i4, i5, i6, i7⟩, hf2⟩
  have HB2 := Lib.hid i5
  have HBR2 := Lib.hid i6
  have HFr := Lib.hid hf2
  have HSc := Lib.hid i1
  have hz2 : w1.heap.size ≤ w2.heap.size := i7
  clear c2 c3 f3 r0 r1 r2 rf h0' h1' h2' i1 i2 i3 i4 i5 i6 i7 hf2
  obtain ⟨RW, RH, RZ, ok⟩ := R
  obtain ⟨W5, hW5⟩ : ∃ W, w2.alloc (.cells #[.int .i64 RW, .int .i64 RH, .slice a3 RZ.length cap3] 25) = W := ⟨_, rfl⟩
  have hbx : BoxH W5 w2.heap.size RW RH (.slice a3 RZ.length cap3) := by rw [← hW5]; exact BoxH.new w2 RW RH (.slice a3 RZ.length cap3) 25
  have hbr5 : BoxW W5 (w.heap.size + 1 + 1 + 1) 0 0 (.slice none 0 0) := by rw [← hW5]; exact HBR2.out.alloc _
  have hb5 : Below w.heap.size w W5 := by rw [← hW5]; exact HB2.out.alloc HB2.out.size _
  have hsc5 : W5.cell? ⟨w.heap.size + 1 + 1, 0, none⟩ = some (.int .i64 (seedIt s0 zs.length)) := by rw [← hW5, (below1 w2 _).cell (p := ⟨w.heap.size + 1 + 1, 0, none⟩) (by show w.heap.size + 1 + 1 < w2.heap.size; omega)]; exact HSc.out
  have hfr5 : FRow W5 w1.heap.size w2.heap.size (.slice a3 RZ.length cap3) RZ := by rw [← hW5]; exact HFr.out.alloc _
  have hs5 : W5.heap.size = w2.heap.size + 1 := by rw [← hW5]; simp
  have HBX5 := Lib.hid hbx
  have HBR5 := Lib.hid hbr5
  have HB5 := Lib.hid hb5
  have HFR5 := Lib.hid hfr5
  have HSC5 := Lib.hid hsc5
  have HW5 := Lib.hid hW5
  clear hb5 hbr5 hW5 hfr5
  cases ok
  · have hv : Q = failHN := by
      have hok : okT (roughT zs (some x) s0) = false := by have h9 := HRR.out; unfold giveH at h9; split at h9; cases h9; rename_i hn; simpa using hn
      rw [← HQ.out]; unfold resRoughHill; rw [HV9.out, HF.out, HSD.out, hok]; rfl
    have HV := Lib.hid hv
    clear hv
    obtain ⟨⟨r0, r1, r2, _⟩, rf⟩ := HBR5.out
    go_upto_region 4 with fail
    rw [HW5.out]
    go_wp2_with fail
    rw [HV.out]
    refine bodyPost_ret (v := .tuple #[.agg #[.int .i64 0, .int .i64 0, .slice none 0 0], .int .i64 0, .bool false]) (by simp [results, Try.results25, go_sem, r0, r1, r2]) rfl ⟨none, 0, rfl, belowSetBox HB5.out (by omega) _ _ _, (show FRow _ _ _ (.slice none 0 0) [] from FRow.nil _ _)⟩
  have hv : Q = ⟨RW, RH, RZ, seedIt s0 zs.length, true⟩ := by
    have h9 := HRR.out
    unfold giveH at h9
    split at h9
    · rename_i hok
      injection h9 with e1 e2 e3 e4
      subst e1 e2 e3
      rw [← HQ.out]; unfold resRoughHill; rw [HV9.out, HF.out, HSD.out, hok]; rfl
    · cases h9
  have HV := Lib.hid hv
  clear hv
  obtain ⟨⟨r0, r1, r2, _⟩, rf⟩ := HBR5.out
  obtain ⟨x0, x1, x2, _⟩ := HBX5.out
  go_upto_region 6 with fail
  rw [HW5.out]
  have hsc6 := HSC5.out
  go_region
  all_goals go_wp2_with fail
  all_goals rw [HV.out]
  all_goals exact bodyPost_ret (v := .tuple #[.agg #[.int .i64 RW, .int .i64 RH, .slice a3 RZ.length cap3], .int .i64 (seedIt s0 zs.length), .bool true]) (by simp [results, Try.results25, go_sem, r0, r1, r2]) rfl ⟨a3, cap3, rfl, (by first | exact belowSetBox HB5.out (by omega) _ _ _ | exact belowSetBox (HB5.out.drew) (by omega) _ _ _ | exact (belowSetBox HB5.out (by omega) _ _ _).drew), (HFR5.out.setBox (lo := w1.heap.size) (b := w.heap.size + 1 + 1 + 1) (.inl (by omega)) _ _ _).mono (by omega) (Nat.le_refl _) (Nat.le_refl _)⟩

end Go.Proofs.Ytgnkpppbhibfoab
