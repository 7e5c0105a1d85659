/- How one sees over a hill: the model. -/
import Derived.Test.YtljehplkdofhpacSeeL
import Derived.Test.YtljehplkdofhpacDigC
import Derived.Deep.QuietTactic
import Derived.Deep.Cut
namespace Go.Proofs.Ytljehplkdofhpac
open Go.RowKit
set_option linter.unusedVariables false
set_option linter.unusedSimpArgs false
set_option maxRecDepth 100000
attribute [local irreducible] wpV wpList Code.wp

def seeAt (wn : Nat) (zs : List Nat) (i k : Nat) (X : Option Nat) : Bool × Bool :=
  if (lineV wn i k).2.2 then see (zs.getD i 0) (zs.getD k 0) (fun n => zs.getD ((i : Int) + (n : Int) * (lineV wn i k).1).toNat 0) (lineV wn i k).2.1.toNat X else (false, false)
def resSeesOver (wide high : Int) (zs : List Nat) (i k : Int) (x : Nat) : Bool × Bool := if validB wide high zs && cellB (wide * high) i && cellB (wide * high) k && fin32 x then seeAt wide.toNat zs i.toNat k.toNat (some x) else (false, false)
def SeeP (V : Bool × Bool) (w : World) (e : Ending) (w' : World) : Prop := e = .returned (.tuple #[.bool V.1, .bool V.2]) ∧ Below w.heap.size w w'
/-- Places on the way lie between both cells. -/
theorem lineV_in {wn i k : Nat} {s f : Int} (hw : wn ≤ 16) (h : lineV wn i k = (s, f, true)) : ∃ fn : Nat, f = (fn : Int) ∧ fn ≤ i + k ∧ -16 ≤ s ∧ s ≤ 16 ∧ ∀ n : Nat, n < fn → 0 ≤ (i : Int) + (n : Int) * s ∧ ((i : Int) + (n : Int) * s ≤ i ∨ (i : Int) + (n : Int) * s ≤ k) := by
  unfold lineV at h
  split at h
  · simp at h
  split at h
  · split at h
    · simp only [Prod.mk.injEq, and_true] at h
      obtain ⟨rfl, rfl⟩ := h
      exact ⟨k - i, rfl, by omega, by omega, by omega, fun n hn => by omega⟩
    · simp only [Prod.mk.injEq, and_true] at h
      obtain ⟨rfl, rfl⟩ := h
      exact ⟨i - k, rfl, by omega, by omega, by omega, fun n hn => by omega⟩
  split at h
  · simp at h
  split at h
  · simp only [Prod.mk.injEq, and_true] at h
    obtain ⟨rfl, rfl⟩ := h
    refine ⟨(k - i) / wn, rfl, Nat.le_trans (Nat.div_le_self _ _) (by omega), by omega, by omega, fun n hn => ?_⟩
    have h1 : n * wn ≤ (k - i) / wn * wn := Nat.mul_le_mul_right _ (by omega)
    have h2 := Nat.div_mul_le_self (k - i) wn
    have h3 : (n : Int) * (wn : Int) = ((n * wn : Nat) : Int) := (Int.natCast_mul _ _).symm
    rw [h3]; omega
  · simp only [Prod.mk.injEq, and_true] at h
    obtain ⟨rfl, rfl⟩ := h
    refine ⟨(i - k) / wn, rfl, Nat.le_trans (Nat.div_le_self _ _) (by omega), by omega, by omega, fun n hn => ?_⟩
    have h1 : n * wn ≤ (i - k) / wn * wn := Nat.mul_le_mul_right _ (by omega)
    have h2 := Nat.div_mul_le_self (i - k) wn
    have h3 : (n : Int) * -(wn : Int) = -((n * wn : Nat) : Int) := by rw [Int.mul_neg]; exact congrArg _ (Int.natCast_mul _ _).symm
    rw [h3]; omega

set_option maxHeartbeats 2000000 in
theorem l02Has_no (b : Nat) (wide high i : Int) (a : Option Addr) (cap : Nat) (zs : List Nat) (w : World) (h0 : w.cell? ⟨b, 0, none⟩ = some (.int .i64 wide)) (h1 : w.cell? ⟨b, 1, none⟩ = some (.int .i64 high)) (h2 : w.cell? ⟨b, 2, none⟩ = some (.slice a zs.length cap)) (h : RowF .f32 w a zs) (hl : zs.length ≤ 1048576) (hv : validB wide high zs = false) :
    Calls Try.prog 70 #[.pointer (some ⟨b, 0, none⟩), .int .i64 i] w fun e w' => e = .returned (.bool false) ∧ ∃ n, w' = w.drewN n := by
  have H := Lib.hid h
  have HVl := Lib.hid hv
  clear h hv
  have HIs : Hid (∀ n, Calls Try.prog 67 #[.pointer (some ⟨b, 0, none⟩)] (w.drewN n) fun e w' => e = .returned (.bool false) ∧ ∃ m, w' = (w.drewN n).drewN m) := Lib.hid fun n => l02Is_b b wide high a cap zs (w.drewN n) h0 h1 h2 (H.out.drewN n) hl false HVl.out
  go_enter Try.func70, Try.ntmps70
  go_wp2_with fail
  go_quiet ((go_at_call 67; exact Calls.quiet_of (HIs.out _)))
  go_wp2_with fail
  go_ret
  exact ⟨rfl, _, rfl⟩

set_option maxHeartbeats 8000000 in
theorem seesOver_spec (wide high : Int) (a : Option Addr) (cap : Nat) (zs : List Nat) (i k : Int) (x : Nat) (w : World) (h : RowF .f32 w a zs) (hl : zs.length ≤ 1048576) (hz : ∀ z ∈ zs, z < 4294967296) (hil : -9223372036854775808 ≤ i) (him : i ≤ 9223372036854775807) (hkl : -9223372036854775808 ≤ k) (hkm : k ≤ 9223372036854775807) (hx : x < 4294967296) :
    Calls Try.prog 28 #[.agg #[.int .i64 wide, .int .i64 high, .slice a zs.length cap], .int .i64 i, .int .i64 k, .float .f32 x] w (SeeP (resSeesOver wide high zs i k x) w) := by
  obtain ⟨V, hV⟩ : ∃ V, resSeesOver wide high zs i k x = V := ⟨_, rfl⟩
  rw [hV]
  have HV := Lib.hid hV
  have H := Lib.hid h
  have HZ := Lib.hid hz
  have HXx : Hid (Is32 (some x) x) := Lib.hid (Is32.c hx)
  clear hV h hz hx
  obtain ⟨W1, hW1⟩ : ∃ W, (w.alloc (.cells #[.int .i64 wide, .int .i64 high, .slice a zs.length cap] 28)) = W := ⟨_, rfl⟩
  have hbx : BoxH W1 w.heap.size wide high (.slice a zs.length cap) := by rw [← hW1]; exact BoxH.new w wide high _ 28
  have hb : Below w.heap.size w W1 := by rw [← hW1]; exact below1 _ _
  have HBX := Lib.hid hbx
  have HB := Lib.hid hb
  have HW1 := Lib.hid hW1
  obtain ⟨r0, r1, r2, _⟩ := hbx
  clear hb hW1
  go_enter Try.func28, Try.ntmps28
  go_upto_region 1 with fail
  rw [HW1.out]
  clear HW1
  go_wp2_with fail
  cases hv9 : validB wide high zs
  · refine (l02Has_no w.heap.size wide high i a cap zs _ HBX.out.1 HBX.out.2.1 HBX.out.2.2.1 (H.out.below HB.out (Nat.le_refl _)) hl hv9).mono ?_
    rintro e w1 ⟨rfl, q0, rfl⟩
    have hv : V = (false, false) := by rw [← HV.out]; unfold resSeesOver; rw [hv9]; simp
    have HVx := Lib.hid hv
    clear hv
    go_wp2_with fail
    refine bodyPost_ret (v := .tuple #[.bool false, .bool false]) (by simp [results, Try.results28, go_sem]) rfl ⟨by rw [HVx.out], (by first | exact HB.out | exact below_drewN HB.out _ | (rw [World.drewN_drewN]; exact below_drewN HB.out _) | (rw [World.drewN_drewN, World.drewN_drewN]; exact below_drewN HB.out _) | (rw [World.drewN_drewN, World.drewN_drewN, World.drewN_drewN]; exact below_drewN HB.out _) | exact below_drewN (below_drewN HB.out _) _)⟩
  have HV9 := Lib.hid hv9
  clear hv9
  cases hci : cellB (wide * high) i
  · refine (l02Has_any w.heap.size wide high i a cap zs _ (by exact HBX.out.1) (by exact HBX.out.2.1) (by exact HBX.out.2.2.1) (by first | exact H.out.below HB.out (Nat.le_refl _) | exact H.out.below (below_drewN HB.out _) (Nat.le_refl _)) hl HV9.out false hci).mono ?_
    rintro e w1 ⟨rfl, q0, rfl⟩
    have hv : V = (false, false) := by rw [← HV.out]; unfold resSeesOver; rw [HV9.out, hci]; simp
    have HVx := Lib.hid hv
    clear hv
    go_wp2_with fail
    refine bodyPost_ret (v := .tuple #[.bool false, .bool false]) (by simp [results, Try.results28, go_sem]) rfl ⟨by rw [HVx.out], (by first | exact HB.out | exact below_drewN HB.out _ | (rw [World.drewN_drewN]; exact below_drewN HB.out _) | (rw [World.drewN_drewN, World.drewN_drewN]; exact below_drewN HB.out _) | (rw [World.drewN_drewN, World.drewN_drewN, World.drewN_drewN]; exact below_drewN HB.out _) | exact below_drewN (below_drewN HB.out _) _)⟩
  refine (l02Has_any w.heap.size wide high i a cap zs _ (by exact HBX.out.1) (by exact HBX.out.2.1) (by exact HBX.out.2.2.1) (by first | exact H.out.below HB.out (Nat.le_refl _) | exact H.out.below (below_drewN HB.out _) (Nat.le_refl _)) hl HV9.out true hci).mono ?_
  rintro e w1 ⟨rfl, q0, rfl⟩
  have HCi := Lib.hid hci
  clear hci
  go_wp2_with fail
  cases hck : cellB (wide * high) k
  · refine (l02Has_any w.heap.size wide high k a cap zs _ (by exact HBX.out.1) (by exact HBX.out.2.1) (by exact HBX.out.2.2.1) (by first | exact H.out.below HB.out (Nat.le_refl _) | exact H.out.below (below_drewN HB.out _) (Nat.le_refl _)) hl HV9.out false hck).mono ?_
    rintro e w1 ⟨rfl, q1, rfl⟩
    have hv : V = (false, false) := by rw [← HV.out]; unfold resSeesOver; rw [HV9.out, HCi.out, hck]; simp
    have HVx := Lib.hid hv
    clear hv
    go_wp2_with fail
    refine bodyPost_ret (v := .tuple #[.bool false, .bool false]) (by simp [results, Try.results28, go_sem]) rfl ⟨by rw [HVx.out], (by first | exact HB.out | exact below_drewN HB.out _ | (rw [World.drewN_drewN]; exact below_drewN HB.out _) | (rw [World.drewN_drewN, World.drewN_drewN]; exact below_drewN HB.out _) | (rw [World.drewN_drewN, World.drewN_drewN, World.drewN_drewN]; exact below_drewN HB.out _) | exact below_drewN (below_drewN HB.out _) _)⟩
  refine (l02Has_any w.heap.size wide high k a cap zs _ (by exact HBX.out.1) (by exact HBX.out.2.1) (by exact HBX.out.2.2.1) (by first | exact H.out.below HB.out (Nat.le_refl _) | exact H.out.below (below_drewN HB.out _) (Nat.le_refl _)) hl HV9.out true hck).mono ?_
  rintro e w1 ⟨rfl, q1, rfl⟩
  have HCk := Lib.hid hck
  clear hck
  go_wp2_with fail
  refine (l01Fin_o _ HXx.out).mono ?_
  rintro e w' ⟨bb, hbb, rfl, q2, rfl⟩
  have HF := Lib.hid (show fin32 x = bb from hbb)
  clear hbb
  cases bb
  · have hv : V = (false, false) := by rw [← HV.out]; unfold resSeesOver; rw [HV9.out, HCi.out, HCk.out, HF.out]; simp
    have HVx := Lib.hid hv
    clear hv
    go_wp2_with fail
    refine bodyPost_ret (v := .tuple #[.bool false, .bool false]) (by simp [results, Try.results28, go_sem]) rfl ⟨by rw [HVx.out], (by first | exact HB.out | exact below_drewN HB.out _ | (rw [World.drewN_drewN]; exact below_drewN HB.out _) | (rw [World.drewN_drewN, World.drewN_drewN]; exact below_drewN HB.out _) | (rw [World.drewN_drewN, World.drewN_drewN, World.drewN_drewN]; exact below_drewN HB.out _) | exact below_drewN (below_drewN HB.out _) _)⟩
  obtain ⟨hsi, hnl, hp1, hp2⟩ := valid_len8 HV9.out
  obtain ⟨hw1, hw2, hh1, hh2⟩ := sidesB_true hsi
  obtain ⟨hn1, hn2⟩ := cellB_true HCi.out
  obtain ⟨hn3, hn4⟩ := cellB_true HCk.out
  obtain ⟨wn, rfl⟩ : ∃ n : Nat, wide = (n : Int) := ⟨wide.toNat, by omega⟩
  obtain ⟨hn, rfl⟩ : ∃ n : Nat, high = (n : Int) := ⟨high.toNat, by omega⟩
  obtain ⟨ni, rfl⟩ : ∃ n : Nat, i = (n : Int) := ⟨i.toNat, by omega⟩
  obtain ⟨nk, rfl⟩ : ∃ n : Nat, k = (n : Int) := ⟨k.toNat, by omega⟩
  rw [← hnl] at hn2 hn4
  have hnil : ni < zs.length := by omega
  have hnkl : nk < zs.length := by omega
  obtain ⟨W2, hW2⟩ : ∃ W, W1.drewN (q0 + q1 + q2) = W := ⟨_, rfl⟩
  have hbx2 : BoxH W2 w.heap.size (wn : Int) (hn : Int) (.slice a zs.length cap) := by rw [← hW2]; exact HBX.out
  have hb2 : Below w.heap.size w W2 := by rw [← hW2]; exact below_drewN HB.out _
  have HW2 := Lib.hid hW2
  have HB2 := Lib.hid hb2
  have HBX2 := Lib.hid hbx2
  clear r0 r1 r2 hW2 hb2 HB HBX
  obtain ⟨r0, r1, r2, _⟩ := hbx2
  obtain ⟨⟨s, f, o⟩, hLV⟩ : ∃ l, lineV wn ni nk = l := ⟨_, rfl⟩
  have hres : V = (if o then see (zs.getD ni 0) (zs.getD nk 0) (fun n => zs.getD ((ni : Int) + (n : Int) * s).toNat 0) f.toNat (some x) else (false, false)) := by rw [← HV.out]; unfold resSeesOver; rw [HV9.out, HCi.out, HCk.out, HF.out]; show seeAt (wn : Int).toNat zs (ni : Int).toNat (nk : Int).toNat (some x) = _; rw [Int.toNat_natCast, Int.toNat_natCast, Int.toNat_natCast]; unfold seeAt; rw [hLV]
  have HR := Lib.hid hres
  clear hres
  have hcall := l02Line_any w.heap.size wn hn ni nk (.slice a zs.length cap) W2 HBX2.out (by omega) (by omega) (by omega) (by omega)
  rw [hLV] at hcall
  have HCall := Lib.hid hcall
  have HLV := Lib.hid hLV
  clear hcall hLV
  go_upto_region 3 with fail
  (try rw [World.drewN_drewN]); (try rw [World.drewN_drewN]); (try rw [← Nat.add_assoc]); rw [HW2.out]
  clear HW2
  go_wp2_with fail
  refine HCall.out.mono ?_
  rintro e w' ⟨rfl, q3, rfl⟩
  cases o
  · have HVx := Lib.hid (show V = (false, false) from HR.out)
    go_wp2_with fail
    refine bodyPost_ret (v := .tuple #[.bool false, .bool false]) (by simp [results, Try.results28, go_sem]) rfl ⟨by rw [HVx.out], below_drewN HB2.out _⟩
  obtain ⟨fn, rfl, hfn, hs1, hs2, hin⟩ := lineV_in (by omega) HLV.out
  have HIn := Lib.hid hin
  obtain ⟨h0, hh0⟩ : ∃ h, zs.getD ni 0 = h := ⟨_, rfl⟩
  obtain ⟨hk, hhk⟩ : ∃ h, zs.getD nk 0 = h := ⟨_, rfl⟩
  have hzz : ∀ j, j < zs.length → zs.getD j 0 < 4294967296 := fun j hj => by rw [List.getD_eq_getElem?_getD, List.getElem?_eq_getElem hj]; exact HZ.out _ (List.getElem_mem _)
  have hi0 : Is32 (some h0) h0 := Is32.c (by rw [← hh0]; exact hzz ni hnil)
  have hik : Is32 (some hk) hk := Is32.c (by rw [← hhk]; exact hzz nk hnkl)
  obtain ⟨bz, oz, rfl, hbz⟩ : ∃ b off, a = some ⟨b, off, none⟩ ∧ b < w.heap.size := by rcases H.out with rfl | ⟨b, off, h1, h2, _⟩; (simp at hp1); exact ⟨b, off, h1, h2⟩
  have HCz : Hid (∀ j, j < zs.length → W2.cell? ⟨bz, oz + j, none⟩ = some (.float .f32 (zs.getD j 0))) := Lib.hid fun j hj => by rw [HB2.out.cell (p := ⟨bz, oz + j, none⟩) hbz]; obtain ⟨b', o', h1, h2⟩ := H.out.cells j hj; cases h1; exact h2
  obtain ⟨hat, hhat⟩ : ∃ g : Nat → Nat, (fun n : Nat => zs.getD ((ni : Int) + (n : Int) * s).toNat 0) = g := ⟨_, rfl⟩
  have hr2 : V = see h0 hk hat fn (some x) := by have h9 := HR.out; rw [if_pos rfl, hh0, hhk, hhat, Int.toNat_natCast] at h9; exact h9
  have HR2 := Lib.hid hr2
  have HHat := Lib.hid hhat
  have Hzz := Lib.hid hzz
  have hc0 : W2.cell? ⟨bz, oz + ni, none⟩ = some (.float .f32 h0) := by rw [← hh0]; exact HCz.out ni hnil
  have hck : W2.cell? ⟨bz, oz + nk, none⟩ = some (.float .f32 hk) := by rw [← hhk]; exact HCz.out nk hnkl
  have hp0 : (0 : Int) ≤ (ni : Int) := by omega
  have hp1 : (ni : Int) < (zs.length : Int) := by omega
  have hp2 : (0 : Int) ≤ (nk : Int) := by omega
  have hp3 : (nk : Int) < (zs.length : Int) := by omega
  have hxx := HXx.out
  have hff : Is32 (some (iF (fn : Int))) (floatOfInt .f32 (fn : Int)) := iF_is _
  have HKc := Lib.hid hck
  clear hr2 hhat hin hh0 hhk hzz hck HR
  go_wp2_with (first | ((with_reducible refine wpList_bin ?_); refine wpList_f32 rfl _ _ _ _ _ rfl rfl rfl (by decide) (by first | assumption | exact Is32.c (by decide)) (by first | assumption | exact Is32.c (by decide)) ?_; intro z n hz))
  have HE : Hid (Is32 (seeE h0 (some x)) z) := Lib.hid hz
  go_loopw [15, 14] (fun iv sv wr => ∃ (kn qd : Nat) (cv : Bool), (kn + 1 ≤ fn ∨ kn = 0) ∧ iv = .int .i64 ((kn : Int) + 1) ∧ sv = .bool cv ∧ Hid (cv = clearTo h0 hk hat (some x) fn kn) ∧ Hid (linesTo h0 hk (some x) fn kn = true) ∧ Hid (wr = W2.drewN qd)) (fun iv _ _ => fn - (intOf iv).toNat)
  case atStart => exact ⟨0, _, true, .inr rfl, rfl, rfl, Lib.hid rfl, Lib.hid rfl, Lib.hid (by first | rfl | rw [World.drewN_drewN])⟩
  case round =>
    obtain ⟨kn, qd, cv, hkn, rfl, rfl, HCv, HLi, HW⟩ := hrel
    have hb0 : wr.cell? ⟨w.heap.size, 2, none⟩ = some (.slice (some ⟨bz, oz, none⟩) zs.length cap) := by rw [HW.out]; exact r2
    by_cases hlt : kn + 1 < fn
    · obtain ⟨m, hm⟩ : ∃ m, kn + 1 = m := ⟨_, rfl⟩
      have hmi : (kn : Int) + 1 = (m : Int) := by omega
      rw [hmi]
      have hmf : (m : Int) < (fn : Int) := by omega
      obtain ⟨hin1, hin2⟩ := HIn.out m (by omega)
      obtain ⟨qq, hqq⟩ : ∃ q9 : Nat, (ni : Int) + (m : Int) * s = (q9 : Int) := ⟨((ni : Int) + (m : Int) * s).toNat, by omega⟩
      have hqs : (m : Int) * s = (qq : Int) - (ni : Int) := by omega
      have hql : qq < zs.length := by omega
      obtain ⟨c, hc⟩ : ∃ c, zs.getD qq 0 = c := ⟨_, rfl⟩
      have hcm : wr.cell? ⟨bz, oz + qq, none⟩ = some (.float .f32 c) := by rw [HW.out, ← hc]; exact HCz.out _ hql
      have hck : wr.cell? ⟨bz, oz + nk, none⟩ = some (.float .f32 hk) := by rw [HW.out]; exact HKc.out
      have hic : Is32 (some c) c := Is32.c (by rw [← hc]; exact Hzz.out _ hql)
      have hfm : Is32 (some (iF (m : Int))) (floatOfInt .f32 (m : Int)) := iF_is _
      have hhm : hat m = c := by rw [← HHat.out, ← hc]; show zs.getD ((ni : Int) + (m : Int) * s).toNat 0 = _; rw [hqq, Int.toNat_natCast]
      have HCc := Lib.hid hhm
      have Hm := Lib.hid hm
      clear hc hhm hin1 hin2
      have hst := HE.out
      have hw9 : IntKind.i64.wrap (m : Int) = (m : Int) := IntWalk.i64_in _ (by omega)
      have hwms : IntKind.i64.wrap ((m : Int) * s) = (qq : Int) - (ni : Int) := by rw [hqs]; exact IntWalk.i64_in _ (by omega)
      have hqb : (ni : Int) + ((qq : Int) - (ni : Int)) = (qq : Int) := by omega
      have hw3 : IntKind.i64.wrap (qq : Int) = (qq : Int) := IntWalk.i64_in _ (by omega)
      have hq0 : (0 : Int) ≤ (qq : Int) := by omega
      have hq1 : (qq : Int) < (zs.length : Int) := by omega
      clear hqq hqs
      go_wp2_with (first | ((with_reducible refine wpList_bin ?_); refine wpList_f32 rfl _ _ _ _ _ rfl rfl rfl (by decide) (by first | assumption | exact Is32.c (by decide)) (by first | assumption | exact Is32.c (by decide)) ?_; intro z n hz))
      refine (l01Fin_o _ (show Is32 (seeL h0 hk (some x) fn m) _ from by assumption)).mono ?_
      rintro e w' ⟨bb, hbb, rfl, q5, rfl⟩
      have HG := Lib.hid hbb
      clear hbb
      cases bb
      · have hv : V = (false, false) := by rw [HR2.out]; unfold see; rw [linesTo_not (k := kn) (by rw [Hm.out]; exact HG.out) (fn - 1) (by omega), Bool.and_false]; rfl
        have HVx := Lib.hid hv
        clear hv
        go_wp2_with fail
        refine bodyPost_ret (v := .tuple #[.bool false, .bool false]) (by simp [results, Try.results28, go_sem]) rfl ⟨by rw [HVx.out], (by rw [HW.out]; first | exact below_drewN (below_drewN HB2.out _) _ | exact below_drewN (below_drewN (below_drewN HB2.out _) _) _)⟩
      go_wp2_with (first | ((with_reducible refine wpList_bin ?_); refine wpList_c32 rfl _ _ _ _ _ rfl rfl rfl (by decide) (by first | assumption | exact Is32.c (by decide)) (by first | assumption | exact Is32.c (by decide)) ?_; intro bb hbb; cases bb))
      all_goals have Hb := Lib.hid (show fcmp .gtr .f32 (some c) (seeL h0 hk (some x) fn m) = _ from hbb)
      all_goals clear hbb
      all_goals go_wp2_with fail
      · go_roundw
        case rel => exact ⟨m, _, cv, .inl (by omega), by go_num, rfl, Lib.hid (by rw [← Hm.out]; show _ = (clearTo h0 hk hat (some x) fn kn && !(fcmp .gtr .f32 (some (hat (kn + 1))) (seeL h0 hk (some x) fn (kn + 1)))); rw [Hm.out, HCc.out, Hb.out, ← HCv.out]; simp), by rw [← Hm.out]; exact Lib.hid (show (linesTo _ _ _ _ _ && fin32o _) = true by rw [HLi.out, Bool.true_and, Hm.out]; exact HG.out), Lib.hid (by rw [HW.out]; first | rw [World.drewN_drewN] | rw [World.drewN_drewN, World.drewN_drewN] | rw [World.drewN_drewN, World.drewN_drewN, World.drewN_drewN])⟩
        case measure => simp [intOf]; omega
      · go_roundw
        case rel => exact ⟨m, _, false, .inl (by omega), by go_num, rfl, Lib.hid (by rw [← Hm.out]; show _ = (clearTo h0 hk hat (some x) fn kn && !(fcmp .gtr .f32 (some (hat (kn + 1))) (seeL h0 hk (some x) fn (kn + 1)))); rw [Hm.out, HCc.out, Hb.out, ← HCv.out]; simp), by rw [← Hm.out]; exact Lib.hid (show (linesTo _ _ _ _ _ && fin32o _) = true by rw [HLi.out, Bool.true_and, Hm.out]; exact HG.out), Lib.hid (by rw [HW.out]; first | rw [World.drewN_drewN] | rw [World.drewN_drewN, World.drewN_drewN] | rw [World.drewN_drewN, World.drewN_drewN, World.drewN_drewN])⟩
        case measure => simp [intOf]; omega
    · have hk9 : kn = fn - 1 := by omega
      have hji : ¬ (kn : Int) + 1 < (fn : Int) := by omega
      go_wp2_with fail
      refine (l01Fin_o _ (show Is32 (seeE h0 (some x)) _ from HE.out)).mono ?_
      rintro e w' ⟨bb, hbb, rfl, q5, rfl⟩
      have HG := Lib.hid hbb
      clear hbb
      cases bb
      · have hv : V = (false, false) := by rw [HR2.out]; unfold see; rw [HG.out]; rfl
        have HVx := Lib.hid hv
        clear hv
        go_wp2_with fail
        refine bodyPost_ret (v := .tuple #[.bool false, .bool false]) (by simp [results, Try.results28, go_sem]) rfl ⟨by rw [HVx.out], (by rw [HW.out]; exact below_drewN (below_drewN HB2.out _) _)⟩
      have hv : V = (cv, true) := by rw [HR2.out]; unfold see; rw [HG.out, ← hk9, HLi.out, HCv.out]; rfl
      have HVx := Lib.hid hv
      clear hv
      go_wp2_with fail
      refine bodyPost_ret (v := .tuple #[.bool cv, .bool true]) (by simp [results, Try.results28, go_sem]) rfl ⟨by rw [HVx.out], by rw [HW.out]; exact below_drewN (below_drewN HB2.out _) _⟩

end Go.Proofs.Ytljehplkdofhpac
