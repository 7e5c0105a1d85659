/- TurnHill: the model. -/
import Derived.Test.YtfdcfalkidcdnacTurnI
import Derived.Test.YtfdcfalkidcdnacScaleS
import Derived.Deep.AppendLies
import Derived.Deep.RegionLaw
import Derived.Deep.DeepCutAuto
namespace Go.Proofs.Ytfdcfalkidcdnac
open Go.RowKit
set_option maxRecDepth 100000

/-- The loop's relation: k heights are appended. -/
def HalfT (w : World) (L : List Nat) (bx res hb : Nat) (wide high : Int) (v0 : Value) (k : Nat) (a1 : Option Addr) (c1 : Nat) (wr : World) : Prop :=
  wr.ownsRow (w.heap.size + 2) 22 1 (.slice a1 k c1) k ((L.take k).map (Value.float .f32)) ∧ (∀ g, (Value.slice a1 k c1).ownBlock = some g → g ≠ bx) ∧ BoxW wr bx high wide (.slice a1 k c1) ∧ BoxW wr res 0 0 (.slice none 0 0) ∧ BoxH wr hb wide high v0 ∧ Below w.heap.size w wr

theorem BoxW.set2 {w : World} {b : Nat} {wd hg : Int} {v : Value} (h : BoxW w b wd hg v) (u : Value) : BoxW (w.setCell ⟨b, 2, none⟩ u) b wd hg u := by
  obtain ⟨⟨r0, r1, r2, r3⟩, rf⟩ := h
  refine ⟨⟨?_, ?_, ?_, by rw [setCell_size]; exact r3⟩, fun o => ?_⟩
  · simp [go_sem, r0]
  · simp [go_sem, r1]
  · simp [go_sem, r2]
  · exact (World.frozen?_setCell _ _ _ _).trans (rf o)
theorem BoxH.far2 {w : World} {c b : Nat} {wd hg : Int} {v : Value} (h : BoxH w c wd hg v) (hne : c ≠ b) (u : Value) : BoxH (w.setCell ⟨b, 2, none⟩ u) c wd hg v := by
  have hb : (w.setCell ⟨b, 2, none⟩ u).heap[c]? = w.heap[c]? := Below.heap_setCell _ _ _ _ hne
  exact ⟨by rw [World.cell?_of_block (w := w) (a := ⟨c, 0, none⟩) hb]; exact h.1, by rw [World.cell?_of_block (w := w) (a := ⟨c, 1, none⟩) hb]; exact h.2.1, by rw [World.cell?_of_block (w := w) (a := ⟨c, 2, none⟩) hb]; exact h.2.2.1, by rw [setCell_size]; exact h.2.2.2⟩
theorem BoxW.far2 {w : World} {c b : Nat} {wd hg : Int} {v : Value} (h : BoxW w c wd hg v) (hne : c ≠ b) (u : Value) : BoxW (w.setCell ⟨b, 2, none⟩ u) c wd hg v :=
  ⟨h.1.far2 hne u, fun o => by rw [World.frozen?_of_block (w := w) (a := ⟨c, o, none⟩) (Below.heap_setCell _ _ _ _ hne)]; exact h.2 o⟩

/-- One height more. -/
theorem HalfT.next {w : World} {L : List Nat} {res hb : Nat} {wide high : Int} {v0 : Value} {k : Nat} {a1 : Option Addr} {c1 : Nat} {wr w1 : World} {z gg cap1 : Nat} {o : Obj}
    (h : HalfT w L (w.heap.size + 3) res hb wide high v0 k a1 c1 wr) (hr : res < w.heap.size + 2) (hh : hb < w.heap.size + 2) (hz : (L.take k).map (Value.float .f32) ++ [.float .f32 z] = (L.take (k + 1)).map (Value.float .f32))
    (hown : w1.ownsRow (w.heap.size + 2) 22 1 (.slice (some ⟨gg, 0, none⟩) (k + 1) cap1) (k + 1) ((L.take k).map (Value.float .f32) ++ [.float .f32 z]))
    (hgrow : ((wr.alloc o).drew).grownBy w1 (Value.slice a1 k c1).ownBlock) (hat : (Value.slice a1 k c1).ownBlock = some gg ∨ gg = wr.heap.size + 1) :
    HalfT w L (w.heap.size + 3) res hb wide high v0 (k + 1) (some ⟨gg, 0, none⟩) cap1 (w1.setCell ⟨w.heap.size + 3, 2, none⟩ (.slice (some ⟨gg, 0, none⟩) (k + 1) cap1)) := by
  obtain ⟨ho, hne, hbx, hres, hA, hbel⟩ := h
  have hsz : w.heap.size + 3 < wr.heap.size := hbx.1.2.2.2
  have hg : gg ≠ w.heap.size + 3 := by
    rcases hat with h | h
    · exact hne gg h
    · omega
  have hlow : ∀ j, (Value.slice a1 k c1).ownBlock = some j → w.heap.size + 2 ≤ j := fun j hj => (ho.lt j hj).1
  have hn3 : some (w.heap.size + 3) ≠ (Value.slice a1 k c1).ownBlock := fun h => hne _ h.symm rfl
  have hfar : ∀ c, c < w.heap.size + 2 → some c ≠ (Value.slice a1 k c1).ownBlock := fun c hc h => by have := hlow c h.symm; omega
  refine ⟨?_, fun j hj => ?_, ((hbx.alloc o).drew.grown hgrow hn3).set2 _, ((hres.alloc o).drew.grown hgrow (hfar _ hr)).far2 (by omega) _, (BoxH.grown (w := (wr.alloc o).drew) (hA.alloc o) hgrow (hfar _ hh)).far2 (by omega) _, ?_⟩
  · rw [← hz]
    exact ownsRow_setCell_other hown (by simp [Value.ownBlock]; exact hg) _
  · simp [Value.ownBlock] at hj; omega
  · exact (((hbel.alloc (by omega) o).drew).grown hgrow (by simp; omega) (fun j hj => by have := hlow j hj; omega)).setCell (by simp) _

set_option maxHeartbeats 4000000 in
theorem turnHill_spec (wide high : Int) (a : Option Addr) (cap : Nat) (zs : List Nat) (w : World) (h : RowF .f32 w a zs) (hl : zs.length ≤ 1048576) (_hz : ∀ z ∈ zs, z < 4294967296) :
    Calls Try.prog 47 #[.agg #[.int .i64 wide, .int .i64 high, .slice a zs.length cap]] w
      (RetHB (resTurnHill wide high zs).wide (resTurnHill wide high zs).high (resTurnHill wide high zs).zs (resTurnHill wide high zs).ok w) := by
  have H := Lib.hid h
  unfold resTurnHill
  clear h
  cases hv : validB wide high zs
  · have Hv := Lib.hid hv
    clear hv
    go_enter Try.func47, Try.ntmps47
    go_wp2_with fail
    refine ((Hv.out ▸ l02Is_any _ wide high a cap zs _ (by simp [go_sem]) (by simp [go_sem]) (by simp [go_sem]) (by exact (H.out.below (below2 _ _ _) (Nat.le_refl _))) hl : Calls _ _ _ _ (fun e w' => e = .returned (.bool false) ∧ ∃ n, w' = World.drewN _ n))).mono ?_
    rintro e w1 ⟨rfl, n1, rfl⟩
    go_wp2_with fail
    refine bodyPost_ret (v := .tuple #[.agg #[.int .i64 0, .int .i64 0, .slice none 0 0], .bool false]) (by simp [results, Try.results47, go_sem]) rfl ⟨none, 0, rfl, belowSetBox (below_drewN (below2 _ _ _) _) (by omega) _ _ _, FRow.nil _ _⟩
  · have Hv := Lib.hid hv
    obtain ⟨hs, hn, hfin, hpos, h256⟩ := validB_len hv
    obtain ⟨s1, s2, s3, s4⟩ := sidesB_true hs
    obtain ⟨wd, rfl⟩ := Int.eq_ofNat_of_zero_le (show 0 ≤ wide by omega)
    obtain ⟨hg, rfl⟩ := Int.eq_ofNat_of_zero_le (show 0 ≤ high by omega)
    have hn2 : zs.length = wd * hg := by exact_mod_cast hn
    have Hn := Lib.hid hn2
    show Calls _ _ _ _ (RetHB (giveH hg wd (turnT wd hg zs)).wide (giveH hg wd (turnT wd hg zs)).high (giveH hg wd (turnT wd hg zs)).zs (giveH hg wd (turnT wd hg zs)).ok w)
    rw [turnT_eq, giveH_some _ _ _ (turnL_fin (by omega) (by omega) hn2 hfin)]
    show Calls _ _ _ _ (RetHB hg wd (turnL wd hg zs) true w)
    obtain ⟨N, hN⟩ : ∃ N, hg * wd = N := ⟨_, rfl⟩
    have hL : (turnL wd hg zs).length = N := by simp [turnL, hN]
    have hNz : zs.length = N := by rw [hn2, Nat.mul_comm]; exact hN
    have HL := Lib.hid hL
    have HN := Lib.hid hN
    have hN256 : N ≤ 256 := by omega
    have hmN : (hg : Int) * (wd : Int) = (N : Int) := by rw [← hN, Int.natCast_mul]
    have hmw : IntKind.i64.wrap ((hg : Int) * (wd : Int)) = (N : Int) := by rw [hmN]; exact IntWalk.i64_in _ (by omega)
    have HNz := Lib.hid hNz
    obtain ⟨b, off, rfl, hbs⟩ := H.out.some (by omega)
    clear hv hs hn hn2 hfin hL hN hNz
    obtain ⟨i0, hi, hz0, hz1, hz2⟩ := info_parts info_f32
    go_enter Try.func47, Try.ntmps47
    go_wp2_with fail
    refine ((Hv.out ▸ l02Is_any _ wd hg (some ⟨b, off, none⟩) cap zs _ (by simp [go_sem]) (by simp [go_sem]) (by simp [go_sem]) (by exact (H.out.below (below2 _ _ _) (Nat.le_refl _))) hl : Calls _ _ _ _ (fun e w' => e = .returned (.bool true) ∧ ∃ n, w' = World.drewN _ n))).mono ?_
    rintro e w1 ⟨rfl, n1, rfl⟩
    go_wp2_with fail
    have hst : HalfT w (turnL wd hg zs) (w.heap.size + 3) (w.heap.size + 1) w.heap.size wd hg (.slice (some ⟨b, off, none⟩) zs.length cap) 0 (some ⟨w.heap.size + 1 + 1, 0, none⟩) 0 (((((w.alloc (.cells #[.int .i64 (wd : Int), .int .i64 (hg : Int), .slice (some ⟨b, off, none⟩) zs.length cap] 25)).alloc (.cells #[.int .i64 0, .int .i64 0, .slice none 0 0] 25)).drewN n1).alloc (.cells #[] 22)).alloc (.cells #[.int .i64 (hg : Int), .int .i64 (wd : Int), .slice (some ⟨w.heap.size + 1 + 1, 0, none⟩) 0 0] 25)) := by
      refine ⟨?_, ?_, BoxW.at _ _ (by simp) _ _ _ _, (((BoxW.at (w.alloc _) (w.heap.size + 1) (by simp) 0 0 (.slice none 0 0) 25).drewN n1).alloc _).alloc _, ?_, (((below_drewN (below2 _ _ _) n1).alloc (by simp; omega) _).alloc (by simp; omega) _)⟩
      · have := (World.ownsRow_lit (base := w.heap.size + 2) (e := 22) (size := 1) (((w.alloc (.cells #[.int .i64 (wd : Int), .int .i64 (hg : Int), .slice (some ⟨b, off, none⟩) zs.length cap] 25)).alloc (.cells #[.int .i64 0, .int .i64 0, .slice none 0 0] 25)).drewN n1) #[] 0 (by simp) (by simp [maxLen]) rfl).alloc (.cells #[.int .i64 (hg : Int), .int .i64 (wd : Int), .slice (some ⟨w.heap.size + 1 + 1, 0, none⟩) 0 0] 25)
        simpa using this
      · intro g hg'
        simp [Value.ownBlock] at hg'
        omega
      · have h0 : BoxH (((w.alloc (.cells #[.int .i64 (wd : Int), .int .i64 (hg : Int), .slice (some ⟨b, off, none⟩) zs.length cap] 25)).alloc (.cells #[.int .i64 0, .int .i64 0, .slice none 0 0] 25)).drewN n1) w.heap.size wd hg (.slice (some ⟨b, off, none⟩) zs.length cap) := (BoxH.new w _ _ _ _).alloc _
        exact (h0.alloc _).alloc _
    have Hst := Lib.hid hst
    clear hst
    go_loopw [5] (fun i wr => ∃ (k : Nat) (a1 : Option Addr) (c1 : Nat), k ≤ N ∧ i = .int .i64 k ∧ HalfT w (turnL wd hg zs) (w.heap.size + 3) (w.heap.size + 1) w.heap.size wd hg (.slice (some ⟨b, off, none⟩) zs.length cap) k a1 c1 wr) (fun i _ => N - (intOf i).toNat)
    case atStart => exact ⟨0, _, _, Nat.zero_le _, rfl, Hst.out⟩
    case round =>
      obtain ⟨k, a1, c1, hk, rfl, hhalf⟩ := hrel
      have Hhalf := Lib.hid hhalf
      obtain ⟨hown, hne, hbox, hres, hA, hbel⟩ := hhalf
      have Hown := Lib.hid hown
      have Hne := Lib.hid hne
      have Hbox := Lib.hid hbox
      have Hres := Lib.hid hres
      have HA := Lib.hid hA
      have Hbel := Lib.hid hbel
      obtain ⟨⟨b0, b1, b2, _⟩, bf⟩ := hbox
      obtain ⟨m0, m1, m2, _⟩ := hA
      clear hown hne hres hbel
      by_cases hlt : k < N
      · have hlt2 : k < hg * wd := by rw [HN.out]; exact hlt
        obtain ⟨t1, t2, t3⟩ := turnAt_lt (by omega) (by omega) hlt2
        rw [← Hn.out] at t1
        have hcell := (H.out.below Hbel.out (Nat.le_refl _)).at _ t1
        obtain ⟨z, hz⟩ : ∃ z, zs.getD (turnAt wd hg k) 0 = z := ⟨_, rfl⟩
        rw [hz] at hcell
        have Hz := Lib.hid hz
        obtain ⟨x, hx⟩ : ∃ x, k % hg = x := ⟨_, rfl⟩
        obtain ⟨y, hy⟩ : ∃ y, k / hg = y := ⟨_, rfl⟩
        have hxl : x < hg := by rw [← hx]; exact Nat.mod_lt _ (by omega)
        unfold turnAt at hcell t1
        rw [hx, hy] at hcell t1
        obtain ⟨p, hp⟩ : ∃ p, (hg - 1 - x) * wd = p := ⟨_, rfl⟩
        rw [hp] at hcell t1
        have hem : (k : Int) % (hg : Int) = (x : Int) := by rw [← hx]; rfl
        have hed : (k : Int) / (hg : Int) = (y : Int) := by rw [← hy]; rfl
        have hmi : ((hg : Int) - 1 - (x : Int)) * (wd : Int) = (p : Int) := by rw [← hp, Int.natCast_mul]; congr 1; omega
        have hNl : zs.length = N := HNz.out
        have hw1 : IntKind.i64.wrap ((hg : Int) - 1) = (hg : Int) - 1 := IntWalk.i64_in _ (by omega)
        have hw2 : IntKind.i64.wrap ((hg : Int) - 1 - (x : Int)) = (hg : Int) - 1 - (x : Int) := IntWalk.i64_in _ (by omega)
        have hpw : IntKind.i64.wrap (((hg : Int) - 1 - (x : Int)) * (wd : Int)) = (p : Int) := by rw [hmi]; exact IntWalk.i64_in _ (by omega)
        have hw3 : IntKind.i64.wrap ((p : Int) + (y : Int)) = (p : Int) + (y : Int) := IntWalk.i64_in _ (by omega)
        have hpy0 : (0 : Int) ≤ (p : Int) + (y : Int) := by omega
        have hpy1 : (p : Int) + (y : Int) < (zs.length : Int) := by omega
        have hpyt : ((p : Int) + (y : Int)).toNat = p + y := by omega
        clear hx hy hp hmi hNl t1 t2 t3 hz
        have hown2 : ∀ o, Hid (((wr.alloc o).drew).ownsRow (w.heap.size + 2) 22 1 (.slice a1 k c1) k (((turnL wd hg zs).take k).map (Value.float .f32))) := fun o => Hown.out.alloc o
        have Hown2 := Lib.hid hown2
        have hsz : w.heap.size + 3 < wr.heap.size := Hbox.out.1.2.2.2
        have hzt : ((turnL wd hg zs).take k).map (Value.float .f32) ++ [.float .f32 z] = ((turnL wd hg zs).take (k + 1)).map (Value.float .f32) := by
          rw [List.take_succ_eq_append_getElem (by rw [HL.out]; exact hlt), List.map_append]
          congr 1
          simp only [turnL, List.getElem_map, List.getElem_range, Hz.out, List.map_cons, List.map_nil]
        have Hzt := Lib.hid hzt
        clear hown2 hzt
        go_wp2_with fail
        go_region_law (refine step_append_lies _ (by rfl) _ _ _ (by rfl) (w.heap.size + 2) 22 i0 (.float .f32 0) 1 4 Try.underlying23 hi hz0 hz1 hz2 rfl (by omega) (.slice a1 k c1) k _ (by rfl) (Hown2.out _).out ⟨wr.heap.size, 0, none⟩ 1 1 [.float .f32 z] (by rfl) (by rfl) (World.news_of_block (cs := #[.float .f32 z]) (t := 22) (fr := (0, 0)) (heap_alloc_new wr _)) (by simp [Value.oneCell']) (by omega) (by unfold maxLen; omega) (by omega) (by simp; omega) (wr.heap.size + 1) (by simp) ?_; intro gg cap1 w1 hown1 hgrow hat hlt1; obtain ⟨⟨z0, z1, z2, _⟩, zf⟩ := (Hbox.out.alloc _).drew.grown hgrow (fun h => Hne.out _ h.symm rfl))
        all_goals
          have Hnext := Lib.hid (HalfT.next Hhalf.out (by omega) (by omega) Hzt.out hown1 hgrow (by first | exact hat | simpa using hat))
          clear hown1 hgrow hat hlt1 z0 z1 z2 zf hcell b0 b1 b2 bf m0 m1 m2
          go_wp2_with fail
          go_roundw
          case rel => exact ⟨k + 1, _, _, by omega, by go_num, Hnext.out⟩
          case measure => simp [intOf]; omega
      · obtain rfl : k = N := by omega
        have hsz : w.heap.size + 3 < wr.heap.size := Hbox.out.1.2.2.2
        have htake : (turnL wd hg zs).take k = turnL wd hg zs := List.take_of_length_le (by rw [HL.out]; exact Nat.le_refl _)
        have Htake := Lib.hid htake
        obtain ⟨⟨r0, r1, r2, _⟩, rf⟩ := Hres.out
        clear htake
        go_wp2_with fail
        refine bodyPost_ret (v := .tuple #[.agg #[.int .i64 hg, .int .i64 wd, .slice a1 k c1], .bool true]) (by simp [results, Try.results47, go_sem, r0, r1, r2]) rfl ⟨a1, c1, by rw [HL.out], belowSetBox Hbel.out (by omega) _ _ _, ?_⟩
        have h2 := Hown.out
        rw [Htake.out] at h2
        rw [HL.out]
        exact (FRow.setBox (FRow.mk (by rw [HL.out]; exact h2)) (.inl (by omega)) _ _ _).mono (by omega) (Nat.le_refl _) (Nat.le_refl _)
end Go.Proofs.Ytfdcfalkidcdnac
