/- AddHills: what comes of it; the program. -/
import Derived.Test.YtfdcfalkidcdnacScaleI
namespace Go.Proofs.Ytfdcfalkidcdnac
open Go.RowKit Go.Shelf
set_option maxRecDepth 100000

def addT (zs ys : List Nat) : List (Option Nat) := (List.range zs.length).map fun k => floatBits .add .f32 (zs.getD k 0) (ys.getD k 0)
def resAddHills (wa ha : Int) (zs : List Nat) (wb hb : Int) (ys : List Nat) : HR := if validB wa ha zs && (validB wb hb ys && (decide (wa = wb) && decide (ha = hb))) then giveH wa ha (addT zs ys) else failH
theorem resAddHills_len (wa ha : Int) (zs : List Nat) (wb hb : Int) (ys : List Nat) : (resAddHills wa ha zs wb hb ys).zs.length ≤ 1048576 := by
  unfold resAddHills
  split
  · rename_i h
    have h2 := (validB_len (Bool.and_eq_true_iff.1 h).1).2.2.2.2
    have := giveH_len wa ha (addT zs ys)
    rw [show (addT zs ys).length = zs.length by simp [addT]] at this
    omega
  · exact Nat.zero_le _

set_option maxHeartbeats 1000000 in
theorem addClo_any (k bA bB b off n cap z b' off' n' cap' y : Nat) (W : World) (h1 : W.cell? ⟨bA, 2, none⟩ = some (.slice (some ⟨b, off, none⟩) n cap)) (h2 : W.cell? ⟨bB, 2, none⟩ = some (.slice (some ⟨b', off', none⟩) n' cap')) (h3 : W.cell? ⟨b, off + k, none⟩ = some (.float .f32 z)) (h4 : W.cell? ⟨b', off' + k, none⟩ = some (.float .f32 y)) (hk : k < n) (hk' : k < n') :
    Calls Try.prog 95 #[.int .i64 (k : Int), .pointer (some ⟨bA, 0, none⟩), .pointer (some ⟨bB, 0, none⟩)] W (RetTold (floatBits .add .f32 z y) W) := by
  have hk0 : (0 : Int) ≤ (k : Int) := by omega
  have hk1 : (k : Int) < (n : Int) := by omega
  have hk2 : (k : Int) < (n' : Int) := by omega
  go_enter Try.func95, Try.ntmps95
  go_wp2_with fail
  refine wp_region_V (fun i => if i = 10 then some (V32 (floatBits .add .f32 z y)) else none) (by kernel_rfl) (by kernel_rfl) ?_
  repeat (refine wpV_step (fun K hK => ?_); go_simp; refine hK _ ?_; clear hK K)
  refine wpV_step (fun K hK => ?_)
  go_simp
  refine ⟨V32_ne _, fun m => ?_, fun v hv => hK _ ?_⟩
  · obtain ⟨r, q, hrun, hr⟩ := flV .add (.inl rfl) z y Try.prog 22 W m
    rw [hrun]
    exact ⟨⟨m + q, rfl⟩, hr⟩
  obtain ⟨r, rfl, hr⟩ := hv
  have Hr := Lib.hid hr
  clear hK K hr
  repeat (refine wpV_step (fun K hK => ?_); go_simp; refine hK _ ?_; clear hK K)
  refine wpV_nil ?_
  intro q
  go_wp2_with fail
  go_ret
  exact ⟨r, _, rfl, Hr.out, rfl⟩

theorem threeBoxes {w w1 : World} {wa ha wb hb : Int} {va vb : Value} {t1 t2 t3 : TypeId} (hb1 : Below (((w.alloc (.cells #[.int .i64 wa, .int .i64 ha, va] t1)).alloc (.cells #[.int .i64 wb, .int .i64 hb, vb] t2)).alloc (.cells #[.int .i64 0, .int .i64 0, .slice none 0 0] t3)).heap.size (((w.alloc (.cells #[.int .i64 wa, .int .i64 ha, va] t1)).alloc (.cells #[.int .i64 wb, .int .i64 hb, vb] t2)).alloc (.cells #[.int .i64 0, .int .i64 0, .slice none 0 0] t3)) w1) :
    Below w.heap.size w w1 ∧ BoxW w1 (w.heap.size + 1 + 1) 0 0 (.slice none 0 0) ∧ BoxH w1 w.heap.size wa ha va ∧ BoxH w1 (w.heap.size + 1) wb hb vb ∧ w.heap.size + 3 ≤ w1.heap.size :=
  ⟨(below3 _ _ _ _).trans (hb1.mono (by simp; omega)), (BoxW.at ((w.alloc _).alloc _) (w.heap.size + 1 + 1) (by simp) 0 0 (.slice none 0 0) t3).below hb1 (by simp),
    (((BoxH.new w wa ha va t1).alloc _).alloc _).below hb1 (by simp; omega), ((BoxH.at (w.alloc _) (w.heap.size + 1) (by simp) wb hb vb t2).alloc _).below hb1 (by simp), by have := hb1.size; simpa using this⟩

set_option maxHeartbeats 2000000 in
theorem addHills_impl (wa ha : Int) (a : Option Addr) (cap : Nat) (zs : List Nat) (wb hb : Int) (a' : Option Addr) (cap' : Nat) (ys : List Nat) (w : World) (h : RowF .f32 w a zs) (hl : zs.length ≤ 1048576) (hz : ∀ z ∈ zs, z < 4294967296) (h' : RowF .f32 w a' ys) (hl' : ys.length ≤ 1048576) (hy : ∀ z ∈ ys, z < 4294967296) :
    Calls Try.prog 50 #[.agg #[.int .i64 wa, .int .i64 ha, .slice a zs.length cap], .agg #[.int .i64 wb, .int .i64 hb, .slice a' ys.length cap']] w
      (RetHB (resAddHills wa ha zs wb hb ys).wide (resAddHills wa ha zs wb hb ys).high (resAddHills wa ha zs wb hb ys).zs (resAddHills wa ha zs wb hb ys).ok w) := by
  have H := Lib.hid h
  have H' := Lib.hid h'
  have Hz := Lib.hid hz
  have Hy := Lib.hid hy
  unfold resAddHills
  clear h hz h' hy
  cases hv : validB wa ha zs
  · have Hv := Lib.hid hv
    clear hv
    go_enter Try.func50, Try.ntmps50
    go_wp2_with fail
    refine ((Hv.out ▸ validHill_any wa ha a cap zs _ (by exact (H.out.below (below3 _ _ _ _) (Nat.le_refl _))) hl Hz.out : Calls _ _ _ _ (Says false _))).mono ?_
    rintro e w1 ⟨rfl, hb1⟩
    obtain ⟨⟨r0, r1, r2, _⟩, rf⟩ := (BoxW.at ((w.alloc _).alloc _) (w.heap.size + 1 + 1) (by simp) 0 0 (.slice none 0 0) 25).below hb1 (by simp)
    have Hb := Lib.hid ((below3 _ _ _ _).trans (hb1.mono (by simp; omega)) : Below w.heap.size w w1)
    clear hb1
    go_wp2_with fail
    refine bodyPost_ret (v := .tuple #[.agg #[.int .i64 0, .int .i64 0, .slice none 0 0], .bool false]) (by simp [results, Try.results50, go_sem, r0, r1, r2]) rfl ⟨none, 0, rfl, belowSetBox Hb.out (by omega) _ _ _, FRow.nil _ _⟩
  · have Hv := Lib.hid hv
    obtain ⟨hs, hn, _, hpos, h256⟩ := validB_len hv
    have Hs := Lib.hid hs
    have Hn := Lib.hid hn
    clear hv hs hn
    cases hv2 : validB wb hb ys
    · have Hv2 := Lib.hid hv2
      clear hv2
      go_enter Try.func50, Try.ntmps50
      go_wp2_with fail
      refine ((Hv.out ▸ validHill_any wa ha a cap zs _ (by exact (H.out.below (below3 _ _ _ _) (Nat.le_refl _))) hl Hz.out : Calls _ _ _ _ (Says true _))).mono ?_
      rintro e w1 ⟨rfl, hb1⟩
      obtain ⟨hb0, hR, hA, hB, hs1⟩ := threeBoxes hb1
      have Hb := Lib.hid hb0; have HR := Lib.hid hR
      obtain ⟨m0, m1, m2, _⟩ := hB
      clear hb1 hb0 hR hA
      go_wp2_with fail
      refine ((Hv2.out ▸ validHill_any wb hb a' cap' ys _ (by exact (H'.out.below Hb.out (Nat.le_refl _))) hl' Hy.out : Calls _ _ _ _ (Says false _))).mono ?_
      rintro e w2 ⟨rfl, hb2⟩
      obtain ⟨⟨r0, r1, r2, _⟩, rf⟩ := HR.out.below hb2 (by omega)
      have Hb2 := Lib.hid (Hb.out.trans (hb2.mono (by omega)) : Below w.heap.size w w2)
      clear hb2 m0 m1 m2
      go_wp2_with fail
      refine bodyPost_ret (v := .tuple #[.agg #[.int .i64 0, .int .i64 0, .slice none 0 0], .bool false]) (by simp [results, Try.results50, go_sem, r0, r1, r2]) rfl ⟨none, 0, rfl, belowSetBox Hb2.out (by omega) _ _ _, FRow.nil _ _⟩
    · have Hv2 := Lib.hid hv2
      obtain ⟨_, hn', _, _, _⟩ := validB_len hv2
      have Hn' := Lib.hid hn'
      clear hv2 hn'
      by_cases h1 : wa = wb
      · have e1 : (wa != wb) = false := by simpa using h1
        rw [decide_eq_true h1]
        have H1 := Lib.hid h1
        clear h1
        by_cases h2 : ha = hb
        · have e2 : (ha != hb) = false := by simpa using h2
          rw [decide_eq_true h2]
          have H2 := Lib.hid h2
          clear h2
          show Calls _ _ _ _ (RetHB (giveH wa ha (addT zs ys)).wide (giveH wa ha (addT zs ys)).high (giveH wa ha (addT zs ys)).zs (giveH wa ha (addT zs ys)).ok w)
          generalize hG : giveH wa ha (addT zs ys) = R
          have HG := Lib.hid hG
          clear hG
          have hlen : ys.length = zs.length := by have h1 := Hn.out; have h2 := Hn'.out; rw [← H1.out, ← H2.out] at h2; omega
          have Hlen := Lib.hid hlen
          clear hlen
          have hmf : ∀ (fn : Fn) (first cap : Array Value) (w : World), (Instr.makeFunc fn first cap).run Try.prog w = .ok (.func fn first cap) w := fun _ _ _ _ => rfl
          go_enter Try.func50, Try.ntmps50
          go_wp2_with fail
          refine ((Hv.out ▸ validHill_any wa ha a cap zs _ (by exact (H.out.below (below3 _ _ _ _) (Nat.le_refl _))) hl Hz.out : Calls _ _ _ _ (Says true _))).mono ?_
          rintro e w1 ⟨rfl, hb1⟩
          obtain ⟨hb0, hR, hA, hB, hs1⟩ := threeBoxes hb1
          have Hb := Lib.hid hb0; have HR := Lib.hid hR; have HA := Lib.hid hA; have HB := Lib.hid hB
          obtain ⟨m0, m1, m2, _⟩ := hB
          clear hb1 hb0 hR hA
          go_wp2_with fail
          refine ((Hv2.out ▸ validHill_any wb hb a' cap' ys _ (by exact (H'.out.below Hb.out (Nat.le_refl _))) hl' Hy.out : Calls _ _ _ _ (Says true _))).mono ?_
          rintro e w2 ⟨rfl, hb2⟩
          have hs2 : w1.heap.size ≤ w2.heap.size := hb2.size
          have HR2 := Lib.hid (HR.out.below hb2 (by omega))
          have HA2 := Lib.hid (HA.out.below hb2 (by omega))
          have HB2 := Lib.hid (HB.out.below hb2 (by omega))
          have Hb2 := Lib.hid (Hb.out.trans (hb2.mono (by omega)) : Below w.heap.size w w2)
          clear hb2 m0 m1 m2
          obtain ⟨m0, m1, m2, _⟩ := HB2.out
          obtain ⟨a0, a1, a2, _⟩ := HA2.out
          have Htells : Hid (Tells 95 #[.pointer (some ⟨w.heap.size, 0, none⟩), .pointer (some ⟨w.heap.size + 1, 0, none⟩)] zs.length w2.heap.size (fun k => floatBits .add .f32 (zs.getD k 0) (ys.getD k 0)) (fun _ W => Below w2.heap.size w2 W)) := by
            refine ⟨fun k W hk hI => ?_, fun k W W' h1 h2 => h1.trans h2⟩
            obtain ⟨b, off, rfl, hc⟩ := ((H.out.below Hb2.out (Nat.le_refl _)).below hI (Nat.le_refl _)).cells k hk
            obtain ⟨b', off', rfl, hc'⟩ := ((H'.out.below Hb2.out (Nat.le_refl _)).below hI (Nat.le_refl _)).cells k (by rw [Hlen.out]; exact hk)
            have hA3 := HA2.out.below hI (by omega)
            have hB3 := HB2.out.below hI (by omega)
            refine (addClo_any k _ _ b off zs.length cap (zs.getD k 0) b' off' ys.length cap' (ys.getD k 0) W hA3.2.2.1 hB3.2.2.1 hc hc' hk (by rw [Hlen.out]; exact hk)).mono ?_
            rintro e W' ⟨r, m, rfl, hr, rfl⟩
            exact ⟨r, rfl, hr, fl_lt (.inl rfl) hr, below_drewN hI m, Kept.of_below (below_drewN (Below.refl _ _) m) (Nat.le_refl _)⟩
          go_wp2_with fail
          have hmade := hillOf_any _ _ (enters_of Try.func95 (by kernel_rfl) rfl) wa ha zs.length _ _ _ Hs.out Hn.out.symm Htells.out (Below.refl _ _)
          rw [show (List.range zs.length).map (fun k => floatBits .add .f32 (zs.getD k 0) (ys.getD k 0)) = addT zs ys from rfl, HG.out] at hmade
          refine hmade.mono ?_
          rintro e w3 ⟨a3, cap3, rfl, hb3, hf3⟩
          clear hmade a0 a1 a2 m0 m1 m2
          obtain ⟨⟨r0, r1, r2, _⟩, rf⟩ := HR2.out.below hb3 (by omega)
          have Hb3 := Lib.hid (Hb2.out.trans (hb3.mono (by omega)) : Below w.heap.size w w3)
          have Hf3 := Lib.hid hf3
          clear hb3 hf3
          go_wp2_with fail
          refine bodyPost_ret (v := .tuple #[.agg #[.int .i64 R.wide, .int .i64 R.high, .slice a3 R.zs.length cap3], .bool R.ok]) (by simp [results, Try.results50, go_sem, r0, r1, r2]) rfl ⟨a3, cap3, rfl, belowSetBox Hb3.out (by omega) _ _ _, (Hf3.out.setBox (.inl (by omega)) _ _ _).mono (by omega) (Nat.le_refl _) (Nat.le_refl _)⟩
        · have e2 : (ha != hb) = true := by simpa using h2
          rw [decide_eq_false h2]
          have H2 := Lib.hid h2
          clear h2
          go_enter Try.func50, Try.ntmps50
          go_wp2_with fail
          refine ((Hv.out ▸ validHill_any wa ha a cap zs _ (by exact (H.out.below (below3 _ _ _ _) (Nat.le_refl _))) hl Hz.out : Calls _ _ _ _ (Says true _))).mono ?_
          rintro e w1 ⟨rfl, hb1⟩
          obtain ⟨hb0, hR, hA, hB, hs1⟩ := threeBoxes hb1
          have Hb := Lib.hid hb0; have HR := Lib.hid hR; have HA := Lib.hid hA; have HB := Lib.hid hB
          obtain ⟨m0, m1, m2, _⟩ := hB
          clear hb1 hb0 hR hA
          go_wp2_with fail
          refine ((Hv2.out ▸ validHill_any wb hb a' cap' ys _ (by exact (H'.out.below Hb.out (Nat.le_refl _))) hl' Hy.out : Calls _ _ _ _ (Says true _))).mono ?_
          rintro e w2 ⟨rfl, hb2⟩
          obtain ⟨⟨r0, r1, r2, _⟩, rf⟩ := HR.out.below hb2 (by omega)
          have Hb2 := Lib.hid (Hb.out.trans (hb2.mono (by omega)) : Below w.heap.size w w2)
          clear m0 m1 m2
          obtain ⟨m0, m1, m2, _⟩ := HB.out.below hb2 (by omega)
          obtain ⟨a0, a1, a2, _⟩ := HA.out.below hb2 (by omega)
          clear hb2
          go_wp2_with fail
          refine bodyPost_ret (v := .tuple #[.agg #[.int .i64 0, .int .i64 0, .slice none 0 0], .bool false]) (by simp [results, Try.results50, go_sem, r0, r1, r2]) rfl ⟨none, 0, rfl, belowSetBox Hb2.out (by omega) _ _ _, FRow.nil _ _⟩
      · have e1 : (wa != wb) = true := by simpa using h1
        rw [decide_eq_false h1]
        have H1 := Lib.hid h1
        clear h1
        go_enter Try.func50, Try.ntmps50
        go_wp2_with fail
        refine ((Hv.out ▸ validHill_any wa ha a cap zs _ (by exact (H.out.below (below3 _ _ _ _) (Nat.le_refl _))) hl Hz.out : Calls _ _ _ _ (Says true _))).mono ?_
        rintro e w1 ⟨rfl, hb1⟩
        obtain ⟨hb0, hR, hA, hB, hs1⟩ := threeBoxes hb1
        have Hb := Lib.hid hb0; have HR := Lib.hid hR; have HA := Lib.hid hA; have HB := Lib.hid hB
        obtain ⟨m0, m1, m2, _⟩ := hB
        clear hb1 hb0 hR hA
        go_wp2_with fail
        refine ((Hv2.out ▸ validHill_any wb hb a' cap' ys _ (by exact (H'.out.below Hb.out (Nat.le_refl _))) hl' Hy.out : Calls _ _ _ _ (Says true _))).mono ?_
        rintro e w2 ⟨rfl, hb2⟩
        obtain ⟨⟨r0, r1, r2, _⟩, rf⟩ := HR.out.below hb2 (by omega)
        have Hb2 := Lib.hid (Hb.out.trans (hb2.mono (by omega)) : Below w.heap.size w w2)
        clear m0 m1 m2
        obtain ⟨m0, m1, m2, _⟩ := HB.out.below hb2 (by omega)
        obtain ⟨a0, a1, a2, _⟩ := HA.out.below hb2 (by omega)
        clear hb2
        go_wp2_with fail
        refine bodyPost_ret (v := .tuple #[.agg #[.int .i64 0, .int .i64 0, .slice none 0 0], .bool false]) (by simp [results, Try.results50, go_sem, r0, r1, r2]) rfl ⟨none, 0, rfl, belowSetBox Hb2.out (by omega) _ _ _, FRow.nil _ _⟩
end Go.Proofs.Ytfdcfalkidcdnac
