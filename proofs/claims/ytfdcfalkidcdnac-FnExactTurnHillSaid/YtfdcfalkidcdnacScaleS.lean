/- ScaleHill: the model. -/
import Derived.Test.YtfdcfalkidcdnacScaleI
import Derived.Test.YtfdcfalkidcdnacOwn2
import Derived.StillTailTactics
namespace Go.Proofs.Ytfdcfalkidcdnac
open Go.RowKit
set_option maxRecDepth 100000

theorem num_of_fin {x : Nat} (h : fin32 x = true) : ∃ g m e, FloatKind.f32.decode x = .number g m e := by
  unfold fin32 at h
  rw [decide_eq_true_eq] at h
  rw [read_single]
  split
  · exact ⟨_, _, _, rfl⟩
  · exact ⟨_, _, _, rfl⟩
theorem mul_fin {x y : Nat} (hx : fin32 x = true) (hy : fin32 y = true) : ∃ r, floatBits .mul .f32 x y = some r := by
  obtain ⟨g, m, e, h1⟩ := num_of_fin hx
  obtain ⟨g', m', e', h2⟩ := num_of_fin hy
  have hd : floatBits .mul .f32 x y = ((FloatKind.f32.decode x).product (FloatKind.f32.decode y)).map FloatKind.f32.format.write := rfl
  rw [hd, h1, h2]
  exact ⟨_, rfl⟩

theorem Told.of_vals {T : List (Option Nat)} (h : ∀ o ∈ T, o.isSome = true) : Told T (valsT T) := by
  refine ⟨valsT_length T, fun i hi => ?_⟩
  have h1 := h T[i] (List.getElem_mem hi)
  rw [List.getD_eq_getElem?_getD, List.getElem?_eq_getElem hi, List.getD_eq_getElem?_getD, valsT, List.getElem?_map, List.getElem?_eq_getElem hi]
  cases ho : T[i] with
  | none => rw [ho] at h1; cases h1
  | some b => rfl
theorem RowF.at {k : FloatKind} {w : World} {b off : Nat} {zs : List Nat} (h : RowF k w (some ⟨b, off, none⟩) zs) : ∀ i, i < zs.length → w.cell? ⟨b, off + i, none⟩ = some (.float k (zs.getD i 0)) := fun i hi => by
  obtain ⟨b', off', h1, h2⟩ := h.cells i hi; cases h1; exact h2
theorem RowF.some {k : FloatKind} {w : World} {a : Option Addr} {zs : List Nat} (h : RowF k w a zs) (hp : 0 < zs.length) : ∃ b off, a = some ⟨b, off, none⟩ ∧ b < w.heap.size := by
  rcases h with rfl | ⟨b, off, h1, h2, _⟩
  · cases hp
  · exact ⟨b, off, h1, h2⟩
theorem BoxW.drewN {w : World} {b : Nat} {wide high : Int} {v : Value} (h : BoxW w b wide high v) (n : Nat) : BoxW (w.drewN n) b wide high v := h

/-- The copy with k places done. -/
def doneTo (T : List (Option Nat)) (zs : List Nat) (k : Nat) : List Nat := (valsT T).take k ++ zs.drop k
theorem doneTo_zero (T : List (Option Nat)) (zs : List Nat) : doneTo T zs 0 = zs := by simp [doneTo]
theorem doneTo_all (T : List (Option Nat)) (zs : List Nat) (h : T.length = zs.length) : doneTo T zs zs.length = valsT T := by
  simp [doneTo]; rw [List.take_of_length_le (by rw [valsT_length]; omega)]
theorem doneTo_length (T : List (Option Nat)) (zs : List Nat) (k : Nat) (h : T.length = zs.length) (hk : k ≤ zs.length) : (doneTo T zs k).length = zs.length := by
  simp [doneTo, valsT_length]; omega
theorem doneTo_get (T : List (Option Nat)) (zs : List Nat) (k : Nat) (h : T.length = zs.length) (hk : k < zs.length) : (doneTo T zs k).getD k 0 = zs.getD k 0 := by
  unfold doneTo
  have hl : ((valsT T).take k).length = k := by simp [valsT_length]; omega
  rw [List.getD_eq_getElem?_getD, List.getElem?_append_right (by rw [hl]; exact Nat.le_refl _), hl, Nat.sub_self, List.getElem?_drop, List.getD_eq_getElem?_getD]; rfl
theorem doneTo_set (T : List (Option Nat)) (zs : List Nat) (k r : Nat) (h : T.length = zs.length) (hk : k < zs.length) (hr : T.getD k none = some r) : (doneTo T zs k).set k r = doneTo T zs (k + 1) := by
  unfold doneTo
  have hl : ((valsT T).take k).length = k := by simp [valsT_length]; omega
  rw [List.set_append_right _ _ (by rw [hl]; exact Nat.le_refl _), hl, Nat.sub_self, List.drop_eq_getElem_cons hk, List.set_cons_zero]
  have hk2 : k < (valsT T).length := by rw [valsT_length]; omega
  rw [List.take_succ_eq_append_getElem hk2]
  have : (valsT T)[k] = r := by
    simp only [valsT, List.getElem_map]
    rw [List.getD_eq_getElem?_getD, List.getElem?_eq_getElem (by omega)] at hr
    have hr' : T[k] = some r := by simpa using hr
    rw [hr']; rfl
  rw [this]
  simp

/-- The loop's relation: k places done. -/
def HalfS (w : World) (lo hi g cap : Nat) (T : List (Option Nat)) (zs : List Nat) (box res : Nat) (wide high : Int) (k : Nat) (wr : World) : Prop :=
  FRow wr lo hi (.slice (some ⟨g, 0, none⟩) zs.length cap) (doneTo T zs k) ∧ BoxH wr box wide high (.slice (some ⟨g, 0, none⟩) zs.length cap) ∧ BoxW wr res 0 0 (.slice none 0 0) ∧ Below w.heap.size w wr

set_option maxHeartbeats 2000000 in
theorem scaleHill_spec (wide high : Int) (a : Option Addr) (cap : Nat) (zs : List Nat) (x : Nat) (w : World) (h : RowF .f32 w a zs) (hl : zs.length ≤ 1048576) (_hz : ∀ z ∈ zs, z < 4294967296) (_hx : x < 4294967296) :
    Calls Try.prog 45 #[.agg #[.int .i64 wide, .int .i64 high, .slice a zs.length cap], .float .f32 x] w
      (RetHB (resScaleHill wide high zs x).wide (resScaleHill wide high zs x).high (resScaleHill wide high zs x).zs (resScaleHill wide high zs x).ok w) := by
  have H := Lib.hid h
  unfold resScaleHill
  clear h
  cases hv : validB wide high zs
  · have Hv := Lib.hid hv
    clear hv
    go_enter Try.func45, Try.ntmps45
    go_wp2_with fail
    refine ((Hv.out ▸ l02Is_any _ wide high a cap zs _ (by simp [go_sem]) (by simp [go_sem]) (by simp [go_sem]) (by exact (H.out.below (below2 _ _ _) (Nat.le_refl _))) hl : Calls _ _ _ _ (fun e w' => e = .returned (.bool false) ∧ ∃ n, w' = World.drewN _ n))).mono ?_
    rintro e w1 ⟨rfl, n1, rfl⟩
    go_wp2_with fail
    refine bodyPost_ret (v := .tuple #[.agg #[.int .i64 0, .int .i64 0, .slice none 0 0], .bool false]) (by simp [results, Try.results45, go_sem]) rfl ⟨none, 0, rfl, belowSetBox (below_drewN (below2 _ _ _) _) (by omega) _ _ _, FRow.nil _ _⟩
  · have Hv := Lib.hid hv
    obtain ⟨hs, hn, hfin, hpos, h256⟩ := validB_len hv
    have Hs := Lib.hid hs
    have Hn := Lib.hid hn
    have Hfin := Lib.hid hfin
    clear hv hs hn hfin
    cases hf : fin32 x
    · have Hf := Lib.hid hf
      clear hf
      go_enter Try.func45, Try.ntmps45
      go_wp2_with fail
      refine ((Hv.out ▸ l02Is_any _ wide high a cap zs _ (by simp [go_sem]) (by simp [go_sem]) (by simp [go_sem]) (by exact (H.out.below (below2 _ _ _) (Nat.le_refl _))) hl : Calls _ _ _ _ (fun e w' => e = .returned (.bool true) ∧ ∃ n, w' = World.drewN _ n))).mono ?_
      rintro e w1 ⟨rfl, n1, rfl⟩
      go_wp2_with fail
      refine (l01Finite_b x false Hf.out _).mono ?_
      rintro e w' ⟨rfl, n2, rfl⟩
      go_wp2_with fail
      refine bodyPost_ret (v := .tuple #[.agg #[.int .i64 0, .int .i64 0, .slice none 0 0], .bool false]) (by simp [results, Try.results45, go_sem]) rfl ⟨none, 0, rfl, belowSetBox (below_drewN (below2 _ _ _) _) (by omega) _ _ _, FRow.nil _ _⟩
    · have Hf := Lib.hid hf
      clear hf
      show Calls _ _ _ _ (RetHB (giveH wide high (scaleT zs x)).wide (giveH wide high (scaleT zs x)).high (giveH wide high (scaleT zs x)).zs (giveH wide high (scaleT zs x)).ok w)
      generalize hG : giveH wide high (scaleT zs x) = R
      have HG := Lib.hid hG
      clear hG
      have hTl : (scaleT zs x).length = zs.length := by simp [scaleT]
      have HTl := Lib.hid hTl
      clear hTl
      go_enter Try.func45, Try.ntmps45
      go_wp2_with fail
      refine ((Hv.out ▸ l02Is_any _ wide high a cap zs _ (by simp [go_sem]) (by simp [go_sem]) (by simp [go_sem]) (by exact (H.out.below (below2 _ _ _) (Nat.le_refl _))) hl : Calls _ _ _ _ (fun e w' => e = .returned (.bool true) ∧ ∃ n, w' = World.drewN _ n))).mono ?_
      rintro e w1 ⟨rfl, n1, rfl⟩
      go_wp2_with fail
      refine (l01Finite_b x true Hf.out _).mono ?_
      rintro e w' ⟨rfl, n2, rfl⟩
      go_wp2_with fail
      obtain ⟨b, off, rfl, hbs⟩ := H.out.some (by omega)
      refine (l02Own_row _ wide high b off cap zs _ (by simp [go_sem]) (by simp [go_sem]) (by simp [go_sem]) (by omega) hl (by simp; omega) (by exact (H.out.below (below_drewN (below2 _ _ _) _) (Nat.le_refl _)).at)).mono ?_
      rintro e w2 ⟨a2, cap2, rfl, hb2, hf2⟩
      have hs2 : w.heap.size + 2 ≤ w2.heap.size := by have := hb2.size; simpa using this
      have hR := (BoxW.drewN (BoxW.at (w.alloc _) (w.heap.size + 1) (by simp) 0 0 (.slice none 0 0) 25) (n1 + n2)).below hb2 (by simp)
      have hb02 : Below w.heap.size w w2 := (below_drewN (below2 _ _ _) _).trans (hb2.mono (by simp; omega))
      have hf3 : FRow w2 (w.heap.size + 2) w2.heap.size (.slice a2 zs.length cap2) zs := hf2.mono (by simp) (Nat.le_refl _) (Nat.le_refl _)
      rcases hf3.cases with ⟨_, h0⟩ | ⟨g, cap3, h1, hg1, hg2⟩
      · rw [h0] at hpos; exact absurd hpos (by decide)
      cases h1
      have hstart : HalfS w (w.heap.size + 2) w2.heap.size g cap2 (scaleT zs x) zs w2.heap.size (w.heap.size + 1) wide high 0 (w2.alloc (.cells #[.int .i64 wide, .int .i64 high, .slice (some ⟨g, 0, none⟩) zs.length cap2] 25)) :=
        ⟨by rw [doneTo_zero]; exact hf3.alloc _, BoxH.new _ _ _ _ _, hR.alloc _, hb02.alloc (by omega) _⟩
      have Hstart := Lib.hid hstart
      clear hR hb2 hf2 hf3 hb02 hstart
      go_wp2_with fail
      go_loopw [7] (fun i wr => ∃ k : Nat, k ≤ zs.length ∧ i = .int .i64 k ∧ HalfS w (w.heap.size + 2) w2.heap.size g cap2 (scaleT zs x) zs w2.heap.size (w.heap.size + 1) wide high k wr) (fun i _ => zs.length - (intOf i).toNat)
      case atStart => exact ⟨0, Nat.zero_le _, rfl, Hstart.out⟩
      case round =>
        obtain ⟨k, hk, rfl, hrow, hbox, hres, hbel⟩ := hrel
        clear Hstart
        have Hbox := Lib.hid hbox
        have Hres := Lib.hid hres
        have Hbel := Lib.hid hbel
        have hdl := doneTo_length (scaleT zs x) zs k HTl.out hk
        obtain ⟨b0, b1, b2, _⟩ := hbox
        clear hres hbel
        by_cases hlt : k < zs.length
        · obtain ⟨r, hr⟩ := mul_fin (x := zs.getD k 0) (y := x) (by
            have := Hfin.out; rw [List.all_eq_true] at this
            refine this _ ?_
            rw [List.getD_eq_getElem?_getD, List.getElem?_eq_getElem hlt]; exact List.getElem_mem _) Hf.out
          have hTk : (scaleT zs x).getD k none = some r := by
            rw [List.getD_eq_getElem?_getD, scaleT, List.getElem?_map, List.getElem?_range hlt, Option.map_some, Option.getD_some]; exact hr
          obtain ⟨hcell, hfz⟩ := hrow.at k (by rw [hdl]; exact hlt) hdl.symm
          rw [doneTo_get _ _ _ HTl.out hlt] at hcell
          have hst := FRow.store (by rw [hdl]; exact hrow) k r
          rw [doneTo_set _ _ _ _ HTl.out hlt hTk, doneTo_length _ _ _ HTl.out (by omega)] at hst
          have Hst := Lib.hid hst
          clear hst hTk hdl hrow
          generalize zs.getD k 0 = z at *
          have hk0 : (0 : Int) ≤ (k : Int) := by omega
          have hk1 : (k : Int) < (zs.length : Int) := by omega
          have hrun : ∀ W, (binOp .mul 22 (.float .f32 z) (.float .f32 x)).run Try.prog W = .ok (.float .f32 r) W := fun W => run_float_arith W .mul _ .f32 z x r hr
          go_wp2_with fail
          go_still_tail 11, (by kernel_rfl)
          change wpList _ _ _ _ _ wr.drew
          go_wp2_with fail
          go_roundw
          case rel =>
            have q1 : BoxW (wr.setCell ⟨g, k, none⟩ (.float .f32 r)) (w.heap.size + 1) 0 0 (.slice none 0 0) := Hres.out.kept Hst.out.2 (.inl (by omega))
            have q2 : Below w.heap.size wr (wr.setCell ⟨g, k, none⟩ (.float .f32 r)) := Hst.out.2.below (by omega) Hbel.out.size
            have q3 : BoxH (wr.setCell ⟨g, k, none⟩ (.float .f32 r)) w2.heap.size wide high (.slice (some ⟨g, 0, none⟩) zs.length cap2) := Hbox.out.kept Hst.out.2 (.inr (Nat.le_refl _))
            exact ⟨k + 1, by omega, by go_num, Hst.out.1, q3, q1, (Hbel.out.trans q2).drew⟩
          case measure => simp [intOf]; omega
        · obtain rfl : k = zs.length := by omega
          rw [doneTo_all _ _ HTl.out] at hrow
          have hwlt := Hbox.out.2.2.2
          have ho : okT (scaleT zs x) = okT (scaleT zs x) := rfl
          have Hrow := Lib.hid hrow
          clear hrow hdl ho
          go_wp2_with fail
          have hvl : (valsT (scaleT zs x)).length = zs.length := by rw [valsT_length, HTl.out]
          have hgive := l02Give_any wide high (some ⟨g, 0, none⟩) cap2 (valsT (scaleT zs x)) (scaleT zs x) (w.heap.size + 2) w2.heap.size wr Hs.out (by rw [hvl]; exact Hn.out) (Told.of_vals fun o ho => by
            obtain ⟨i, hi, rfl⟩ := List.mem_map.1 ho
            rw [List.mem_range] at hi
            have hfz := Hfin.out; rw [List.all_eq_true] at hfz
            obtain ⟨r, hr⟩ := mul_fin (x := zs.getD i 0) (y := x) (hfz _ (by rw [List.getD_eq_getElem?_getD, List.getElem?_eq_getElem hi]; exact List.getElem_mem _)) Hf.out
            rw [hr]; rfl) (by rw [hvl]; exact Hrow.out)
          rw [hvl, HG.out] at hgive
          refine hgive.mono ?_
          rintro e w3 ⟨a3, cap3, rfl, hb3, hf3⟩
          clear hgive hvl b0 b1 b2
          obtain ⟨⟨r0, r1, r2, _⟩, rf⟩ := Hres.out.below hb3 (by omega)
          have Hb3 := Lib.hid (Hbel.out.trans (hb3.mono Hbel.out.size) : Below w.heap.size w w3)
          have Hf3 := Lib.hid hf3
          clear hb3 hf3
          go_wp2_with fail
          refine bodyPost_ret (v := .tuple #[.agg #[.int .i64 R.wide, .int .i64 R.high, .slice a3 R.zs.length cap3], .bool R.ok]) (by simp [results, Try.results45, go_sem, r0, r1, r2]) rfl ⟨a3, cap3, rfl, belowSetBox Hb3.out (by omega) _ _ _, (Hf3.out.setBox (.inl (by omega)) _ _ _).mono (by omega) (Nat.le_refl _) (Nat.le_refl _)⟩
end Go.Proofs.Ytfdcfalkidcdnac
