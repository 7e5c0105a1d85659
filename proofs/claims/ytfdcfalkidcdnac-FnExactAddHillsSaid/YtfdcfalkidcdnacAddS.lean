/- AddHills: the model. -/
import Derived.Test.YtfdcfalkidcdnacAddI
import Derived.Test.YtfdcfalkidcdnacScaleS
namespace Go.Proofs.Ytfdcfalkidcdnac
open Go.RowKit
set_option maxRecDepth 100000

theorem add_fin {x y : Nat} (hx : fin32 x = true) (hy : fin32 y = true) : ∃ r, floatBits .add .f32 x y = some r := by
  obtain ⟨g, m, e, h1⟩ := num_of_fin hx
  obtain ⟨g', m', e', h2⟩ := num_of_fin hy
  have hd : floatBits .add .f32 x y = ((FloatKind.f32.decode x).sum (FloatKind.f32.decode y)).map FloatKind.f32.format.write := rfl
  rw [hd, h1, h2]
  exact ⟨_, rfl⟩
theorem BoxH.drewN {w : World} {b : Nat} {wide high : Int} {v : Value} (h : BoxH w b wide high v) (n : Nat) : BoxH (w.drewN n) b wide high v := h
theorem all_fin {zs : List Nat} (h : zs.all fin32 = true) {k : Nat} (hk : k < zs.length) : fin32 (zs.getD k 0) = true := by
  rw [List.all_eq_true] at h
  refine h _ ?_
  rw [List.getD_eq_getElem?_getD, List.getElem?_eq_getElem hk]; exact List.getElem_mem _

set_option maxHeartbeats 4000000 in
theorem addHills_spec (wa ha : Int) (a : Option Addr) (cap : Nat) (zs : List Nat) (wb hb : Int) (a' : Option Addr) (cap' : Nat) (ys : List Nat) (w : World) (h : RowF .f32 w a zs) (hl : zs.length ≤ 1048576) (_hz : ∀ z ∈ zs, z < 4294967296) (h' : RowF .f32 w a' ys) (hl' : ys.length ≤ 1048576) (_hy : ∀ z ∈ ys, z < 4294967296) :
    Calls Try.prog 49 #[.agg #[.int .i64 wa, .int .i64 ha, .slice a zs.length cap], .agg #[.int .i64 wb, .int .i64 hb, .slice a' ys.length cap']] w
      (RetHB (resAddHills wa ha zs wb hb ys).wide (resAddHills wa ha zs wb hb ys).high (resAddHills wa ha zs wb hb ys).zs (resAddHills wa ha zs wb hb ys).ok w) := by
  have H := Lib.hid h
  have H' := Lib.hid h'
  unfold resAddHills
  clear h h'
  cases hv : validB wa ha zs
  · have Hv := Lib.hid hv
    clear hv
    go_enter Try.func49, Try.ntmps49
    go_wp2_with fail
    refine ((Hv.out ▸ l02Is_any _ wa ha a cap zs _ (by simp [go_sem]) (by simp [go_sem]) (by simp [go_sem]) (by exact (H.out.below (below3 _ _ _ _) (Nat.le_refl _))) hl : Calls _ _ _ _ (fun e w' => e = .returned (.bool false) ∧ ∃ n, w' = World.drewN _ n))).mono ?_
    rintro e w1 ⟨rfl, n1, rfl⟩
    go_wp2_with fail
    refine bodyPost_ret (v := .tuple #[.agg #[.int .i64 0, .int .i64 0, .slice none 0 0], .bool false]) (by simp [results, Try.results49, go_sem]) rfl ⟨none, 0, rfl, belowSetBox (below_drewN (below3 _ _ _ _) _) (by omega) _ _ _, FRow.nil _ _⟩
  · have Hv := Lib.hid hv
    obtain ⟨hs, hn, hfin, hpos, h256⟩ := validB_len hv
    have Hs := Lib.hid hs
    have Hn := Lib.hid hn
    have Hfin := Lib.hid hfin
    clear hv hs hn hfin
    cases hv2 : validB wb hb ys
    · have Hv2 := Lib.hid hv2
      clear hv2
      go_enter Try.func49, Try.ntmps49
      go_wp2_with fail
      refine ((Hv.out ▸ l02Is_any _ wa ha a cap zs _ (by simp [go_sem]) (by simp [go_sem]) (by simp [go_sem]) (by exact (H.out.below (below3 _ _ _ _) (Nat.le_refl _))) hl : Calls _ _ _ _ (fun e w' => e = .returned (.bool true) ∧ ∃ n, w' = World.drewN _ n))).mono ?_
      rintro e w1 ⟨rfl, n1, rfl⟩
      go_wp2_with fail
      refine ((Hv2.out ▸ l02Is_any _ wb hb a' cap' ys _ (by simp [go_sem]) (by simp [go_sem]) (by simp [go_sem]) (by exact (H'.out.below (below_drewN (below3 _ _ _ _) _) (Nat.le_refl _))) hl' : Calls _ _ _ _ (fun e w' => e = .returned (.bool false) ∧ ∃ n, w' = World.drewN _ n))).mono ?_
      rintro e w2 ⟨rfl, n2, rfl⟩
      go_wp2_with fail
      refine bodyPost_ret (v := .tuple #[.agg #[.int .i64 0, .int .i64 0, .slice none 0 0], .bool false]) (by simp [results, Try.results49, go_sem]) rfl ⟨none, 0, rfl, belowSetBox (below_drewN (below3 _ _ _ _) _) (by omega) _ _ _, FRow.nil _ _⟩
    · have Hv2 := Lib.hid hv2
      obtain ⟨_, hn', hfin', _, _⟩ := validB_len hv2
      have Hn' := Lib.hid hn'
      have Hfin' := Lib.hid hfin'
      clear hv2 hn' hfin'
      by_cases h1 : wa = wb
      · have e1 : (wa != wb) = false := by simpa using h1
        rw [decide_eq_true h1]
        have H1 := Lib.hid h1
        clear h1
        by_cases h2 : ha = hb
        · have e2 : (ha != hb) = false := by simpa using h2
          rw [decide_eq_true h2]
          have H2 := Lib.hid h2
          clear h2
          show Calls _ _ _ _ (RetHB (giveH wa ha (addT zs ys)).wide (giveH wa ha (addT zs ys)).high (giveH wa ha (addT zs ys)).zs (giveH wa ha (addT zs ys)).ok w)
          generalize hG : giveH wa ha (addT zs ys) = R
          have HG := Lib.hid hG
          clear hG
          have hlen : ys.length = zs.length := by have h1 := Hn.out; have h2 := Hn'.out; rw [← H1.out, ← H2.out] at h2; omega
          have Hlen := Lib.hid hlen
          clear hlen
          have hTl : (addT zs ys).length = zs.length := by simp [addT]
          have HTl := Lib.hid hTl
          clear hTl
          go_enter Try.func49, Try.ntmps49
          go_wp2_with fail
          refine ((Hv.out ▸ l02Is_any _ wa ha a cap zs _ (by simp [go_sem]) (by simp [go_sem]) (by simp [go_sem]) (by exact (H.out.below (below3 _ _ _ _) (Nat.le_refl _))) hl : Calls _ _ _ _ (fun e w' => e = .returned (.bool true) ∧ ∃ n, w' = World.drewN _ n))).mono ?_
          rintro e w1 ⟨rfl, n1, rfl⟩
          go_wp2_with fail
          refine ((Hv2.out ▸ l02Is_any _ wb hb a' cap' ys _ (by simp [go_sem]) (by simp [go_sem]) (by simp [go_sem]) (by exact (H'.out.below (below_drewN (below3 _ _ _ _) _) (Nat.le_refl _))) hl' : Calls _ _ _ _ (fun e w' => e = .returned (.bool true) ∧ ∃ n, w' = World.drewN _ n))).mono ?_
          rintro e w2 ⟨rfl, n2, rfl⟩
          go_wp2_with fail
          obtain ⟨b, off, rfl, hbs⟩ := H.out.some (by omega)
          refine (l02Own_row _ wa ha b off cap zs _ (by simp [go_sem]) (by simp [go_sem]) (by simp [go_sem]) (by omega) hl (by simp; omega) (by exact (H.out.below (below_drewN (below3 _ _ _ _) _) (Nat.le_refl _)).at)).mono ?_
          rintro e w2 ⟨a2, cap2, rfl, hb2, hf2⟩
          have hs2 : w.heap.size + 3 ≤ w2.heap.size := by have := hb2.size; simpa using this
          have hR := (BoxW.drewN (BoxW.at ((w.alloc _).alloc _) (w.heap.size + 1 + 1) (by simp) 0 0 (.slice none 0 0) 25) (n1 + n2)).below hb2 (by simp)
          have hb02 : Below w.heap.size w w2 := (below_drewN (below3 _ _ _ _) _).trans (hb2.mono (by simp; omega))
          have hf3 : FRow w2 (w.heap.size + 3) w2.heap.size (.slice a2 zs.length cap2) zs := hf2.mono (by simp) (Nat.le_refl _) (Nat.le_refl _)
          rcases hf3.cases with ⟨_, h0⟩ | ⟨g, cap3, h1, hg1, hg2⟩
          · rw [h0] at hpos; exact absurd hpos (by decide)
          cases h1
          have hstart : HalfS w (w.heap.size + 3) w2.heap.size g cap2 (addT zs ys) zs w2.heap.size (w.heap.size + 1 + 1) wa ha 0 (w2.alloc (.cells #[.int .i64 wa, .int .i64 ha, .slice (some ⟨g, 0, none⟩) zs.length cap2] 25)) :=
            ⟨by rw [doneTo_zero]; exact hf3.alloc _, BoxH.new _ _ _ _ _, hR.alloc _, hb02.alloc (by omega) _⟩
          have Hstart := Lib.hid hstart
          have hB0 : BoxH (w2.alloc (.cells #[.int .i64 wa, .int .i64 ha, .slice (some ⟨g, 0, none⟩) zs.length cap2] 25)) (w.heap.size + 1) wb hb (.slice a' ys.length cap') := ((BoxH.drewN ((BoxH.at (w.alloc _) (w.heap.size + 1) (by simp) wb hb (.slice a' ys.length cap') 25).alloc _) (n1 + n2)).below hb2 (by simp)).alloc _
          have HB0 := Lib.hid hB0
          clear hB0
          clear hR hb2 hf2 hf3 hb02 hstart
          go_wp2_with fail
          go_loopw [7] (fun i wr => ∃ k : Nat, k ≤ zs.length ∧ i = .int .i64 k ∧ HalfS w (w.heap.size + 3) w2.heap.size g cap2 (addT zs ys) zs w2.heap.size (w.heap.size + 1 + 1) wa ha k wr ∧ BoxH wr (w.heap.size + 1) wb hb (.slice a' ys.length cap')) (fun i _ => zs.length - (intOf i).toNat)
          case atStart => exact ⟨0, Nat.zero_le _, rfl, Hstart.out, HB0.out⟩
          case round =>
            obtain ⟨k, hk, rfl, ⟨hrow, hbox, hres, hbel⟩, hBw⟩ := hrel
            have HBw := Lib.hid hBw
            clear Hstart hBw
            have Hbox := Lib.hid hbox
            have Hres := Lib.hid hres
            have Hbel := Lib.hid hbel
            have hdl := doneTo_length (addT zs ys) zs k HTl.out hk
            obtain ⟨b0, b1, b2, _⟩ := hbox
            clear hres hbel
            by_cases hlt : k < zs.length
            · obtain ⟨r, hr⟩ := add_fin (all_fin Hfin.out hlt) (all_fin Hfin'.out (k := k) (by rw [Hlen.out]; exact hlt))
              have hTk : (addT zs ys).getD k none = some r := by
                rw [List.getD_eq_getElem?_getD, addT, List.getElem?_map, List.getElem?_range hlt, Option.map_some, Option.getD_some]; exact hr
              obtain ⟨hcell, hfz⟩ := hrow.at k (by rw [hdl]; exact hlt) hdl.symm
              rw [doneTo_get _ _ _ HTl.out hlt] at hcell
              have hst := FRow.store (by rw [hdl]; exact hrow) k r
              rw [doneTo_set _ _ _ _ HTl.out hlt hTk, doneTo_length _ _ _ HTl.out (by omega)] at hst
              have Hst := Lib.hid hst
              clear hst hTk hdl hrow
              obtain ⟨b', off', rfl, hc'⟩ := (H'.out.below Hbel.out (Nat.le_refl _)).cells k (by rw [Hlen.out]; exact hlt)
              obtain ⟨m0, m1, m2, _⟩ := HBw.out
              generalize zs.getD k 0 = z at *
              generalize ys.getD k 0 = y at *
              have hk2 : (k : Int) < (ys.length : Int) := by rw [Hlen.out]; omega
              have hk0 : (0 : Int) ≤ (k : Int) := by omega
              have hk1 : (k : Int) < (zs.length : Int) := by omega
              have hrun : ∀ W, (binOp .add 22 (.float .f32 z) (.float .f32 y)).run Try.prog W = .ok (.float .f32 r) W := fun W => run_float_arith W .add _ .f32 z y r hr
              go_wp2_with fail
              go_still_tail 15, (by kernel_rfl)
              change wpList _ _ _ _ _ wr.drew
              go_wp2_with fail
              go_roundw
              case rel =>
                have q1 : BoxW (wr.setCell ⟨g, k, none⟩ (.float .f32 r)) (w.heap.size + 1 + 1) 0 0 (.slice none 0 0) := Hres.out.kept Hst.out.2 (.inl (by omega))
                have q2 : Below w.heap.size wr (wr.setCell ⟨g, k, none⟩ (.float .f32 r)) := Hst.out.2.below (by omega) Hbel.out.size
                have q3 : BoxH (wr.setCell ⟨g, k, none⟩ (.float .f32 r)) w2.heap.size wa ha (.slice (some ⟨g, 0, none⟩) zs.length cap2) := Hbox.out.kept Hst.out.2 (.inr (Nat.le_refl _))
                have q4 : BoxH (wr.setCell ⟨g, k, none⟩ (.float .f32 r)) (w.heap.size + 1) wb hb (.slice _ ys.length cap') := HBw.out.kept Hst.out.2 (.inl (by omega))
                exact ⟨k + 1, by omega, by go_num, ⟨Hst.out.1, q3, q1, (Hbel.out.trans q2).drew⟩, q4⟩
              case measure => simp [intOf]; omega
            · obtain rfl : k = zs.length := by omega
              rw [doneTo_all _ _ HTl.out] at hrow
              have hwlt := Hbox.out.2.2.2
              have ho : okT (addT zs ys) = okT (addT zs ys) := rfl
              have Hrow := Lib.hid hrow
              clear hrow hdl ho
              go_wp2_with fail
              have hvl : (valsT (addT zs ys)).length = zs.length := by rw [valsT_length, HTl.out]
              have hgive := l02Give_any wa ha (some ⟨g, 0, none⟩) cap2 (valsT (addT zs ys)) (addT zs ys) (w.heap.size + 3) w2.heap.size wr Hs.out (by rw [hvl]; exact Hn.out) (Told.of_vals fun o ho => by
                obtain ⟨i, hi, rfl⟩ := List.mem_map.1 ho
                rw [List.mem_range] at hi
                obtain ⟨r, hr⟩ := add_fin (all_fin Hfin.out hi) (all_fin Hfin'.out (k := i) (by rw [Hlen.out]; exact hi))
                rw [hr]; rfl) (by rw [hvl]; exact Hrow.out)
              rw [hvl, HG.out] at hgive
              refine hgive.mono ?_
              rintro e w3 ⟨a3, cap3, rfl, hb3, hf3⟩
              clear hgive hvl b0 b1 b2
              obtain ⟨⟨r0, r1, r2, _⟩, rf⟩ := Hres.out.below hb3 (by omega)
              have Hb3 := Lib.hid (Hbel.out.trans (hb3.mono Hbel.out.size) : Below w.heap.size w w3)
              have Hf3 := Lib.hid hf3
              clear hb3 hf3
              go_wp2_with fail
              refine bodyPost_ret (v := .tuple #[.agg #[.int .i64 R.wide, .int .i64 R.high, .slice a3 R.zs.length cap3], .bool R.ok]) (by simp [results, Try.results49, go_sem, r0, r1, r2]) rfl ⟨a3, cap3, rfl, belowSetBox Hb3.out (by omega) _ _ _, (Hf3.out.setBox (.inl (by omega)) _ _ _).mono (by omega) (Nat.le_refl _) (Nat.le_refl _)⟩
        · have e2 : (ha != hb) = true := by simpa using h2
          rw [decide_eq_false h2]
          have H2 := Lib.hid h2
          clear h2
          go_enter Try.func49, Try.ntmps49
          go_wp2_with fail
          refine ((Hv.out ▸ l02Is_any _ wa ha a cap zs _ (by simp [go_sem]) (by simp [go_sem]) (by simp [go_sem]) (by exact (H.out.below (below3 _ _ _ _) (Nat.le_refl _))) hl : Calls _ _ _ _ (fun e w' => e = .returned (.bool true) ∧ ∃ n, w' = World.drewN _ n))).mono ?_
          rintro e w1 ⟨rfl, n1, rfl⟩
          go_wp2_with fail
          refine ((Hv2.out ▸ l02Is_any _ wb hb a' cap' ys _ (by simp [go_sem]) (by simp [go_sem]) (by simp [go_sem]) (by exact (H'.out.below (below_drewN (below3 _ _ _ _) _) (Nat.le_refl _))) hl' : Calls _ _ _ _ (fun e w' => e = .returned (.bool true) ∧ ∃ n, w' = World.drewN _ n))).mono ?_
          rintro e w2 ⟨rfl, n2, rfl⟩
          go_wp2_with fail
          refine bodyPost_ret (v := .tuple #[.agg #[.int .i64 0, .int .i64 0, .slice none 0 0], .bool false]) (by simp [results, Try.results49, go_sem]) rfl ⟨none, 0, rfl, belowSetBox (below_drewN (below3 _ _ _ _) _) (by omega) _ _ _, FRow.nil _ _⟩
      · have e1 : (wa != wb) = true := by simpa using h1
        rw [decide_eq_false h1]
        have H1 := Lib.hid h1
        clear h1
        go_enter Try.func49, Try.ntmps49
        go_wp2_with fail
        refine ((Hv.out ▸ l02Is_any _ wa ha a cap zs _ (by simp [go_sem]) (by simp [go_sem]) (by simp [go_sem]) (by exact (H.out.below (below3 _ _ _ _) (Nat.le_refl _))) hl : Calls _ _ _ _ (fun e w' => e = .returned (.bool true) ∧ ∃ n, w' = World.drewN _ n))).mono ?_
        rintro e w1 ⟨rfl, n1, rfl⟩
        go_wp2_with fail
        refine ((Hv2.out ▸ l02Is_any _ wb hb a' cap' ys _ (by simp [go_sem]) (by simp [go_sem]) (by simp [go_sem]) (by exact (H'.out.below (below_drewN (below3 _ _ _ _) _) (Nat.le_refl _))) hl' : Calls _ _ _ _ (fun e w' => e = .returned (.bool true) ∧ ∃ n, w' = World.drewN _ n))).mono ?_
        rintro e w2 ⟨rfl, n2, rfl⟩
        go_wp2_with fail
        refine bodyPost_ret (v := .tuple #[.agg #[.int .i64 0, .int .i64 0, .slice none 0 0], .bool false]) (by simp [results, Try.results49, go_sem]) rfl ⟨none, 0, rfl, belowSetBox (below_drewN (below3 _ _ _ _) _) (by omega) _ _ _, FRow.nil _ _⟩
end Go.Proofs.Ytfdcfalkidcdnac
