/- TurnHill: what comes of it; the program. -/
import Derived.Test.YtfdcfalkidcdnacScaleI
namespace Go.Proofs.Ytfdcfalkidcdnac
open Go.RowKit Go.Shelf
set_option maxRecDepth 100000

/-- The place that comes to cell k. -/
def turnAt (wd hg k : Nat) : Nat := (hg - 1 - k % hg) * wd + k / hg
theorem turnAt_lt {wd hg k : Nat} (_hw : 1 ≤ wd) (hh : 1 ≤ hg) (hk : k < hg * wd) : turnAt wd hg k < wd * hg ∧ (hg - 1 - k % hg) * wd + wd ≤ wd * hg ∧ k / hg < wd := by
  have h1 : k / hg < wd := (Nat.div_lt_iff_lt_mul (by omega)).2 (by rw [Nat.mul_comm]; exact hk)
  have h2 : (hg - 1 - k % hg) * wd + wd ≤ wd * hg := by
    have : (hg - 1 - k % hg) * wd + wd = (hg - 1 - k % hg + 1) * wd := by rw [Nat.add_mul, Nat.one_mul]
    rw [this, Nat.mul_comm wd hg]
    exact Nat.mul_le_mul_right _ (by omega)
  unfold turnAt
  omega
def turnT (wd hg : Nat) (zs : List Nat) : List (Option Nat) := (List.range (hg * wd)).map fun k => some (zs.getD (turnAt wd hg k) 0)
def resTurnHill (wide high : Int) (zs : List Nat) : HR := if validB wide high zs then giveH high wide (turnT wide.toNat high.toNat zs) else failH
theorem resTurnHill_len (wide high : Int) (zs : List Nat) : (resTurnHill wide high zs).zs.length ≤ 1048576 := by
  unfold resTurnHill
  split
  · rename_i h
    obtain ⟨hs, hn, _, _, h2⟩ := validB_len h
    obtain ⟨s1, s2, s3, s4⟩ := sidesB_true hs
    have := giveH_len high wide (turnT wide.toNat high.toNat zs)
    have h3 : (turnT wide.toNat high.toNat zs).length = high.toNat * wide.toNat := by simp [turnT]
    have h4 : high.toNat * wide.toNat ≤ 16 * 16 := Nat.mul_le_mul (by omega) (by omega)
    omega
  · exact Nat.zero_le _

set_option maxHeartbeats 1000000 in
theorem turnClo_any (wd hg k bA b off n cap z : Nat) (W : World) (hw : 1 ≤ wd) (hw2 : wd ≤ 16) (hh : 1 ≤ hg) (hh2 : hg ≤ 16) (hk : k < hg * wd) (hn : n = wd * hg) (h0 : W.cell? ⟨bA, 0, none⟩ = some (.int .i64 wd)) (h1 : W.cell? ⟨bA, 1, none⟩ = some (.int .i64 hg)) (h2 : W.cell? ⟨bA, 2, none⟩ = some (.slice (some ⟨b, off, none⟩) n cap))
    (h3 : W.cell? ⟨b, off + turnAt wd hg k, none⟩ = some (.float .f32 z)) :
    Calls Try.prog 94 #[.int .i64 (k : Int), .pointer (some ⟨bA, 0, none⟩)] W fun e W' => e = .returned (.float .f32 z) ∧ ∃ m, W' = W.drewN m := by
  obtain ⟨t1, t2, t3⟩ := turnAt_lt hw hh hk
  have hk256 : k < 256 := by have : hg * wd ≤ 16 * 16 := Nat.mul_le_mul hh2 hw2; omega
  have hp256 : (hg - 1 - k % hg) * wd ≤ 256 := by have : wd * hg ≤ 16 * 16 := Nat.mul_le_mul hw2 hh2; omega
  obtain ⟨x, hx⟩ : ∃ x, k % hg = x := ⟨_, rfl⟩
  obtain ⟨y, hy⟩ : ∃ y, k / hg = y := ⟨_, rfl⟩
  have hxl : x < hg := by rw [← hx]; exact Nat.mod_lt _ (by omega)
  unfold turnAt at h3 t1
  rw [hx, hy] at h3 t1
  rw [hx] at hp256 t2
  rw [hy] at t3
  obtain ⟨p, hp⟩ : ∃ p, (hg - 1 - x) * wd = p := ⟨_, rfl⟩
  rw [hp] at h3 t1 hp256 t2
  have htm : (k : Int).tmod (hg : Int) = (x : Int) := by rw [Int.tmod_eq_emod_of_nonneg (by omega), ← hx]; rfl
  have htd : (k : Int).tdiv (hg : Int) = (y : Int) := by rw [Int.tdiv_eq_ediv_of_nonneg (by omega), ← hy]; rfl
  have hmw : ((hg : Int) - 1 - (x : Int)) * (wd : Int) = (p : Int) := by
    rw [← hp, Int.natCast_mul]; congr 1; omega
  have hpw : IntKind.i64.wrap (((hg : Int) - 1 - (x : Int)) * (wd : Int)) = (p : Int) := by rw [hmw]; exact IntWalk.i64_in _ (by omega)
  have hyw : IntKind.i64.wrap (y : Int) = (y : Int) := IntWalk.i64_in _ (by omega)
  have hz0 : ((hg : Int) == 0) = false := by rw [beq_eq_false_iff_ne]; omega
  have hnb : p + y < n := by omega
  clear hx hy hp hmw t1 t2 hn
  go_enter Try.func94, Try.ntmps94
  go_wp2_with fail
  go_quiet (fail)
  go_wp2_with fail
  go_ret
  exact ⟨rfl, _, rfl⟩

theorem giveH_some (wide high : Int) (l : List Nat) (h : ∀ z ∈ l, fin32 z = true) : giveH wide high (l.map some) = ⟨wide, high, l, true⟩ := by
  have h1 : okT (l.map some) = true := by
    unfold okT
    rw [List.all_map, List.all_eq_true]
    exact fun z hz => h z hz
  have h2 : valsT (l.map some) = l := by
    unfold valsT
    rw [List.map_map]
    exact List.map_id'' (fun _ => rfl) l
  unfold giveH
  rw [if_pos h1, h2]
def turnL (wd hg : Nat) (zs : List Nat) : List Nat := (List.range (hg * wd)).map fun k => zs.getD (turnAt wd hg k) 0
theorem turnT_eq (wd hg : Nat) (zs : List Nat) : turnT wd hg zs = (turnL wd hg zs).map some := by simp [turnT, turnL]
theorem turnL_fin {wd hg : Nat} {zs : List Nat} (hw : 1 ≤ wd) (hh : 1 ≤ hg) (hn : zs.length = wd * hg) (hf : zs.all fin32 = true) : ∀ z ∈ turnL wd hg zs, fin32 z = true := by
  intro z hz
  obtain ⟨k, hk, rfl⟩ := List.mem_map.1 hz
  rw [List.mem_range] at hk
  have h1 := (turnAt_lt hw hh hk).1
  rw [List.all_eq_true] at hf
  refine hf _ ?_
  rw [List.getD_eq_getElem?_getD, List.getElem?_eq_getElem (by omega)]; exact List.getElem_mem _
theorem sides_swap {wide high : Int} (h : sidesB wide high = true) : sidesB high wide = true := by
  obtain ⟨a, b, c, d⟩ := sidesB_true h
  simp [sidesB]; omega

set_option maxHeartbeats 2000000 in
theorem turnHill_impl (wide high : Int) (a : Option Addr) (cap : Nat) (zs : List Nat) (w : World) (h : RowF .f32 w a zs) (hl : zs.length ≤ 1048576) (hz : ∀ z ∈ zs, z < 4294967296) :
    Calls Try.prog 48 #[.agg #[.int .i64 wide, .int .i64 high, .slice a zs.length cap]] w
      (RetHB (resTurnHill wide high zs).wide (resTurnHill wide high zs).high (resTurnHill wide high zs).zs (resTurnHill wide high zs).ok w) := by
  have H := Lib.hid h
  have Hz := Lib.hid hz
  unfold resTurnHill
  clear h hz
  cases hv : validB wide high zs
  · have Hv := Lib.hid hv
    clear hv
    go_enter Try.func48, Try.ntmps48
    go_wp2_with fail
    refine ((Hv.out ▸ validHill_any wide high a cap zs _ (by exact (H.out.below (below2 _ _ _) (Nat.le_refl _))) hl Hz.out : Calls _ _ _ _ (Says false _))).mono ?_
    rintro e w1 ⟨rfl, hb⟩
    obtain ⟨⟨r0, r1, r2, _⟩, rf⟩ := (BoxW.at (w.alloc _) (w.heap.size + 1) (by simp) 0 0 (.slice none 0 0) 25).below hb (by simp)
    have Hb := Lib.hid ((below2 _ _ _).trans (hb.mono (by simp; omega)) : Below w.heap.size w w1)
    clear hb
    go_wp2_with fail
    refine bodyPost_ret (v := .tuple #[.agg #[.int .i64 0, .int .i64 0, .slice none 0 0], .bool false]) (by simp [results, Try.results48, go_sem, r0, r1, r2]) rfl ⟨none, 0, rfl, belowSetBox Hb.out (by omega) _ _ _, FRow.nil _ _⟩
  · have Hv := Lib.hid hv
    obtain ⟨hs, hn, _, hpos, h256⟩ := validB_len hv
    have Hs := Lib.hid hs
    obtain ⟨s1, s2, s3, s4⟩ := sidesB_true hs
    obtain ⟨wd, rfl⟩ := Int.eq_ofNat_of_zero_le (show 0 ≤ wide by omega)
    obtain ⟨hg, rfl⟩ := Int.eq_ofNat_of_zero_le (show 0 ≤ high by omega)
    have hn2 : zs.length = wd * hg := by exact_mod_cast hn
    have Hn := Lib.hid hn2
    clear hv hs hn hn2
    show Calls _ _ _ _ (RetHB (giveH hg wd (turnT wd hg zs)).wide (giveH hg wd (turnT wd hg zs)).high (giveH hg wd (turnT wd hg zs)).zs (giveH hg wd (turnT wd hg zs)).ok w)
    generalize hG : giveH hg wd (turnT wd hg zs) = R
    have HG := Lib.hid hG
    clear hG
    have hmf : ∀ (fn : Fn) (first cap : Array Value) (w : World), (Instr.makeFunc fn first cap).run Try.prog w = .ok (.func fn first cap) w := fun _ _ _ _ => rfl
    go_enter Try.func48, Try.ntmps48
    go_wp2_with fail
    refine ((Hv.out ▸ validHill_any wd hg a cap zs _ (by exact (H.out.below (below2 _ _ _) (Nat.le_refl _))) hl Hz.out : Calls _ _ _ _ (Says true _))).mono ?_
    rintro e w1 ⟨rfl, hb⟩
    have hR := (BoxW.at (w.alloc _) (w.heap.size + 1) (by simp) 0 0 (.slice none 0 0) 25).below hb (by simp)
    have hA := (((BoxH.new w wd hg (.slice a zs.length cap) 25).alloc _).below hb (by simp; omega))
    have hrow := H.out.below (((below2 _ _ _).trans (hb.mono (by simp; omega)) : Below w.heap.size w w1)) (Nat.le_refl _)
    have hs1 : w.heap.size + 2 ≤ w1.heap.size := by have := hb.size; simpa using this
    have Hb := Lib.hid ((below2 _ _ _).trans (hb.mono (by simp; omega)) : Below w.heap.size w w1)
    have HR := Lib.hid hR
    have HA := Lib.hid hA
    have Hrow := Lib.hid hrow
    obtain ⟨a0, a1, a2, _⟩ := hA
    clear hb hR hrow
    have Htells : Hid (Tells 94 #[.pointer (some ⟨w.heap.size, 0, none⟩)] (hg * wd) w1.heap.size (fun k => some (zs.getD (turnAt wd hg k) 0)) (fun _ W => Below w1.heap.size w1 W)) := by
      refine ⟨fun k W hk hI => ?_, fun k W W' h1 h2 => h1.trans h2⟩
      have ht := (turnAt_lt (by omega) (by omega) hk).1
      rw [← Hn.out] at ht
      obtain ⟨b, off, rfl, hc⟩ := (Hrow.out.below hI (Nat.le_refl _)).cells _ ht
      have hA2 := HA.out.below hI (by omega)
      refine (turnClo_any wd hg k _ b off zs.length cap _ W (by omega) (by omega) (by omega) (by omega) hk Hn.out hA2.1 hA2.2.1 hA2.2.2.1 hc).mono ?_
      rintro e W' ⟨rfl, m, rfl⟩
      refine ⟨_, rfl, rfl, ?_, below_drewN hI m, Kept.of_below (below_drewN (Below.refl _ _) m) (Nat.le_refl _)⟩
      rw [List.getD_eq_getElem?_getD, List.getElem?_eq_getElem ht]
      exact Hz.out _ (List.getElem_mem _)
    go_wp2_with fail
    have hmade := hillOf_any _ _ (enters_of Try.func94 (by kernel_rfl) rfl) hg wd (hg * wd) _ _ _ (sides_swap Hs.out) (by rw [Int.natCast_mul]) Htells.out (Below.refl _ _)
    rw [show (List.range (hg * wd)).map (fun k => some (zs.getD (turnAt wd hg k) 0)) = turnT wd hg zs from rfl, HG.out] at hmade
    refine hmade.mono ?_
    rintro e w2 ⟨a3, cap3, rfl, hb2, hf2⟩
    clear hmade a0 a1 a2
    obtain ⟨⟨r0, r1, r2, _⟩, rf⟩ := HR.out.below hb2 (by omega)
    have Hb2 := Lib.hid (Hb.out.trans (hb2.mono (by omega)) : Below w.heap.size w w2)
    have Hf2 := Lib.hid hf2
    clear hb2 hf2
    go_wp2_with fail
    refine bodyPost_ret (v := .tuple #[.agg #[.int .i64 R.wide, .int .i64 R.high, .slice a3 R.zs.length cap3], .bool R.ok]) (by simp [results, Try.results48, go_sem, r0, r1, r2]) rfl ⟨a3, cap3, rfl, belowSetBox Hb2.out (by omega) _ _ _, (Hf2.out.setBox (.inl (by omega)) _ _ _).mono (by omega) (Nat.le_refl _) (Nat.le_refl _)⟩
end Go.Proofs.Ytfdcfalkidcdnac
