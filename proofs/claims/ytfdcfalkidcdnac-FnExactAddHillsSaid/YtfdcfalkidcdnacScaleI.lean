/- ScaleHill: what comes of it; the program. -/
import Derived.Test.YtfdcfalkidcdnacHillOf
import Derived.Test.YtfdcfalkidcdnacRegionV
namespace Go.Proofs.Ytfdcfalkidcdnac
open Go.RowKit Go.Shelf
set_option maxRecDepth 100000

/-- A 32-bit number that is told. -/
def V32 (o : Option Nat) (v : Value) : Prop := ∃ r, v = .float .f32 r ∧ Rp .f32 o r
theorem V32_ne (o : Option Nat) : ∃ v, V32 o v := by
  cases o with
  | some b => exact ⟨_, b, rfl, rfl⟩
  | none => exact ⟨_, _, rfl, cut32 0⟩
theorem flV (op : BinOp) (hop : op = .add ∨ op = .sub ∨ op = .mul ∨ op = .quo) (x y : Nat) (P : Program) (t : TypeId) (w : World) (n : Nat) :
    ∃ r m, (binOp op t (.float .f32 x) (.float .f32 y)).run P (w.drewN n) = .ok (.float .f32 r) (w.drewN (n + m)) ∧ V32 (floatBits op .f32 x y) (.float .f32 r) := by
  obtain ⟨r, m, h1, h2⟩ := run_fl (P := P) (w.drewN n) op hop t .f32 x y
  exact ⟨r, m, by rw [h1, World.drewN_drewN], r, rfl, h2⟩

/-- A number that is told. -/
def RetTold (o : Option Nat) (W : World) (e : Ending) (W' : World) : Prop := ∃ r m, e = .returned (.float .f32 r) ∧ Rp .f32 o r ∧ W' = W.drewN m

def scaleT (zs : List Nat) (x : Nat) : List (Option Nat) := (List.range zs.length).map fun k => floatBits .mul .f32 (zs.getD k 0) x
def resScaleHill (wide high : Int) (zs : List Nat) (x : Nat) : HR := if validB wide high zs && fin32 x then giveH wide high (scaleT zs x) else failH
theorem giveH_len (wide high : Int) (T : List (Option Nat)) : (giveH wide high T).zs.length ≤ T.length := by
  unfold giveH
  split
  · rw [valsT_length]; exact Nat.le_refl _
  · exact Nat.zero_le _
theorem validB_len {wide high : Int} {zs : List Nat} (h : validB wide high zs = true) : sidesB wide high = true ∧ (zs.length : Int) = wide * high ∧ zs.all fin32 = true ∧ 1 ≤ zs.length ∧ zs.length ≤ 256 := by
  simp only [validB, Bool.and_eq_true, decide_eq_true_eq] at h
  obtain ⟨⟨h1, h2⟩, h3⟩ := h
  have := mul_bound h1
  exact ⟨h1, h2, h3, by omega, by omega⟩
theorem resScaleHill_len (wide high : Int) (zs : List Nat) (x : Nat) : (resScaleHill wide high zs x).zs.length ≤ 1048576 := by
  unfold resScaleHill
  split
  · rename_i h
    have h2 := (validB_len (Bool.and_eq_true_iff.1 h).1).2.2.2.2
    have := giveH_len wide high (scaleT zs x)
    rw [show (scaleT zs x).length = zs.length by simp [scaleT]] at this
    omega
  · exact Nat.zero_le _

set_option maxHeartbeats 1000000 in
theorem scaleClo_any (k bH bB b off n cap z x : Nat) (W : World) (h1 : W.cell? ⟨bH, 2, none⟩ = some (.slice (some ⟨b, off, none⟩) n cap)) (h2 : W.cell? ⟨bB, 0, none⟩ = some (.float .f32 x)) (h3 : W.cell? ⟨b, off + k, none⟩ = some (.float .f32 z)) (hk : k < n) :
    Calls Try.prog 93 #[.int .i64 (k : Int), .pointer (some ⟨bH, 0, none⟩), .pointer (some ⟨bB, 0, none⟩)] W (RetTold (floatBits .mul .f32 z x) W) := by
  have hk0 : (0 : Int) ≤ (k : Int) := by omega
  have hk1 : (k : Int) < (n : Int) := by omega
  go_enter Try.func93, Try.ntmps93
  go_wp2_with fail
  refine wp_region_V (fun i => if i = 6 then some (V32 (floatBits .mul .f32 z x)) else none) (by kernel_rfl) (by kernel_rfl) ?_
  repeat (refine wpV_step (fun K hK => ?_); go_simp; refine hK _ ?_; clear hK K)
  refine wpV_step (fun K hK => ?_)
  go_simp
  refine ⟨V32_ne _, fun m => ?_, fun v hv => hK _ ?_⟩
  · obtain ⟨r, q, hrun, hr⟩ := flV .mul (.inr (.inr (.inl rfl))) z x Try.prog 22 W m
    rw [hrun]
    exact ⟨⟨m + q, rfl⟩, hr⟩
  obtain ⟨r, rfl, hr⟩ := hv
  have Hr := Lib.hid hr
  clear hK K hr
  repeat (refine wpV_step (fun K hK => ?_); go_simp; refine hK _ ?_; clear hK K)
  refine wpV_nil ?_
  intro q
  go_wp2_with fail
  go_ret
  exact ⟨r, _, rfl, Hr.out, rfl⟩

set_option maxHeartbeats 1000000 in
theorem scaleHill_impl (wide high : Int) (a : Option Addr) (cap : Nat) (zs : List Nat) (x : Nat) (w : World) (h : RowF .f32 w a zs) (hl : zs.length ≤ 1048576) (hz : ∀ z ∈ zs, z < 4294967296) (hx : x < 4294967296) :
    Calls Try.prog 46 #[.agg #[.int .i64 wide, .int .i64 high, .slice a zs.length cap], .float .f32 x] w
      (RetHB (resScaleHill wide high zs x).wide (resScaleHill wide high zs x).high (resScaleHill wide high zs x).zs (resScaleHill wide high zs x).ok w) := by
  have H := Lib.hid h
  have Hz := Lib.hid hz
  have Hx := Lib.hid hx
  unfold resScaleHill
  clear h hz hx
  cases hv : validB wide high zs
  · have Hv := Lib.hid hv
    clear hv
    go_enter Try.func46, Try.ntmps46
    go_wp2_with fail
    refine ((Hv.out ▸ validHill_any wide high a cap zs _ (by exact (H.out.below (below3 _ _ _ _) (Nat.le_refl _))) hl Hz.out : Calls _ _ _ _ (Says false _))).mono ?_
    rintro e w1 ⟨rfl, hb⟩
    obtain ⟨⟨r0, r1, r2, _⟩, rf⟩ := (BoxW.at ((w.alloc _).alloc _) (w.heap.size + 1 + 1) (by simp) 0 0 (.slice none 0 0) 25).below hb (by simp)
    have Hb := Lib.hid ((below3 _ _ _ _).trans (hb.mono (by simp; omega)) : Below w.heap.size w w1)
    clear hb
    go_wp2_with fail
    refine bodyPost_ret (v := .tuple #[.agg #[.int .i64 0, .int .i64 0, .slice none 0 0], .bool false]) (by simp [results, Try.results46, go_sem, r0, r1, r2]) rfl ⟨none, 0, rfl, belowSetBox Hb.out (by omega) _ _ _, FRow.nil _ _⟩
  · have Hv := Lib.hid hv
    obtain ⟨hs, hn, _, hpos, h256⟩ := validB_len hv
    have Hs := Lib.hid hs
    have Hn := Lib.hid hn
    clear hv hs hn
    cases hf : fin32 x
    · have Hf := Lib.hid hf
      clear hf
      go_enter Try.func46, Try.ntmps46
      go_wp2_with fail
      refine ((Hv.out ▸ validHill_any wide high a cap zs _ (by exact (H.out.below (below3 _ _ _ _) (Nat.le_refl _))) hl Hz.out : Calls _ _ _ _ (Says true _))).mono ?_
      rintro e w1 ⟨rfl, hb⟩
      obtain ⟨⟨r0, r1, r2, _⟩, rf⟩ := (BoxW.at ((w.alloc _).alloc _) (w.heap.size + 1 + 1) (by simp) 0 0 (.slice none 0 0) 25).below hb (by simp)
      have hx1 : w1.cell? ⟨w.heap.size + 1, 0, none⟩ = some (.float .f32 x) := by
        rw [hb.cell (p := ⟨w.heap.size + 1, 0, none⟩) (by simp)]; simp [go_sem]
      have Hb := Lib.hid ((below3 _ _ _ _).trans (hb.mono (by simp; omega)) : Below w.heap.size w w1)
      clear hb
      go_wp2_with fail
      refine (isFinite_b x Hx.out false Hf.out _).mono ?_
      rintro e w' ⟨rfl, rfl⟩
      go_wp2_with fail
      refine bodyPost_ret (v := .tuple #[.agg #[.int .i64 0, .int .i64 0, .slice none 0 0], .bool false]) (by simp [results, Try.results46, go_sem, r0, r1, r2]) rfl ⟨none, 0, rfl, belowSetBox Hb.out (by omega) _ _ _, FRow.nil _ _⟩
    · have Hf := Lib.hid hf
      clear hf
      show Calls _ _ _ _ (RetHB (giveH wide high (scaleT zs x)).wide (giveH wide high (scaleT zs x)).high (giveH wide high (scaleT zs x)).zs (giveH wide high (scaleT zs x)).ok w)
      generalize hG : giveH wide high (scaleT zs x) = R
      have HG := Lib.hid hG
      clear hG
      have hmf : ∀ (fn : Fn) (first cap : Array Value) (w : World), (Instr.makeFunc fn first cap).run Try.prog w = .ok (.func fn first cap) w := fun _ _ _ _ => rfl
      go_enter Try.func46, Try.ntmps46
      go_wp2_with fail
      refine ((Hv.out ▸ validHill_any wide high a cap zs _ (by exact (H.out.below (below3 _ _ _ _) (Nat.le_refl _))) hl Hz.out : Calls _ _ _ _ (Says true _))).mono ?_
      rintro e w1 ⟨rfl, hb⟩
      have hR := (BoxW.at ((w.alloc _).alloc _) (w.heap.size + 1 + 1) (by simp) 0 0 (.slice none 0 0) 25).below hb (by simp)
      have hA := ((((BoxH.new w wide high (.slice a zs.length cap) 25).alloc _).alloc _).below hb (by simp; omega))
      have hx1 : w1.cell? ⟨w.heap.size + 1, 0, none⟩ = some (.float .f32 x) := by
        rw [hb.cell (p := ⟨w.heap.size + 1, 0, none⟩) (by simp)]; simp [go_sem]
      have hrow := H.out.below (((below3 _ _ _ _).trans (hb.mono (by simp; omega)) : Below w.heap.size w w1)) (Nat.le_refl _)
      have hs1 : w.heap.size + 3 ≤ w1.heap.size := by have := hb.size; simpa using this
      have Hb := Lib.hid ((below3 _ _ _ _).trans (hb.mono (by simp; omega)) : Below w.heap.size w w1)
      have HR := Lib.hid hR
      have HA := Lib.hid hA
      have Hrow := Lib.hid hrow
      obtain ⟨a0, a1, a2, _⟩ := hA
      clear hb hR hrow
      have Htells : Hid (Tells 93 #[.pointer (some ⟨w.heap.size, 0, none⟩), .pointer (some ⟨w.heap.size + 1, 0, none⟩)] zs.length w1.heap.size (fun k => floatBits .mul .f32 (zs.getD k 0) x) (fun _ W => Below w1.heap.size w1 W)) := by
        refine ⟨fun k W hk hI => ?_, fun k W W' h1 h2 => h1.trans h2⟩
        obtain ⟨b, off, rfl, hc⟩ := (Hrow.out.below hI (Nat.le_refl _)).cells k hk
        have hA2 := HA.out.below hI (by omega)
        have hx2 : W.cell? ⟨w.heap.size + 1, 0, none⟩ = some (.float .f32 x) := by rw [hI.cell (p := ⟨w.heap.size + 1, 0, none⟩) (by show w.heap.size + 1 < w1.heap.size; omega)]; exact hx1
        refine (scaleClo_any k _ _ b off zs.length cap (zs.getD k 0) x W hA2.2.2.1 hx2 hc hk).mono ?_
        rintro e W' ⟨r, m, rfl, hr, rfl⟩
        exact ⟨r, rfl, hr, fl_lt (.inr (.inr (.inl rfl))) hr, below_drewN hI m, Kept.of_below (below_drewN (Below.refl _ _) m) (Nat.le_refl _)⟩
      go_wp2_with fail
      refine (isFinite_b x Hx.out true Hf.out _).mono ?_
      rintro e w' ⟨rfl, rfl⟩
      go_wp2_with fail
      have hmade := hillOf_any _ _ (enters_of Try.func93 (by kernel_rfl) rfl) wide high zs.length _ _ _ Hs.out Hn.out.symm Htells.out (Below.refl _ _)
      rw [show (List.range zs.length).map (fun k => floatBits .mul .f32 (zs.getD k 0) x) = scaleT zs x from rfl, HG.out] at hmade
      refine hmade.mono ?_
      rintro e w2 ⟨a3, cap3, rfl, hb2, hf2⟩
      clear hmade a0 a1 a2 hx1
      obtain ⟨⟨r0, r1, r2, _⟩, rf⟩ := HR.out.below hb2 (by omega)
      have Hb2 := Lib.hid (Hb.out.trans (hb2.mono (by omega)) : Below w.heap.size w w2)
      have Hf2 := Lib.hid hf2
      clear hb2 hf2
      go_wp2_with fail
      refine bodyPost_ret (v := .tuple #[.agg #[.int .i64 R.wide, .int .i64 R.high, .slice a3 R.zs.length cap3], .bool R.ok]) (by simp [results, Try.results46, go_sem, r0, r1, r2]) rfl ⟨a3, cap3, rfl, belowSetBox Hb2.out (by omega) _ _ _, (Hf2.out.setBox (.inl (by omega)) _ _ _).mono (by omega) (Nat.le_refl _) (Nat.le_refl _)⟩
end Go.Proofs.Ytfdcfalkidcdnac
