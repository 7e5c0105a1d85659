/- A tick of a canal: the model. -/
import Derived.Test.YtgnkpppbhibfoaaOwn5
import Derived.Test.YtgnkpppbhibfoaaTickD
import Derived.Test.YtgnkpppbhibfoaaRegionT
namespace Go.Proofs.Ytgnkpppbhibfoaa
open Go.RowKit
set_option linter.unusedVariables false
set_option linter.unusedSimpArgs false
set_option maxRecDepth 100000
attribute [local irreducible] wpV wpList Code.wp

/-- A canal a tick later: the words of the rows, whether it is valid, in new memory. -/
def TickP (N0 N1 N2 : Option Nat) (n0 n1 n2 : Nat) (S O : List Nat) (X T : Option Nat) (w : World) (e : Ending) (w' : World) : Prop :=
  ∃ Y Z x0 k0 x1 k1, Upto (newH N0 N1 N2 S O X T) S.length S Y ∧ Upto (newF N0 N1 N2 S O X T) S.length O Z ∧
    e = .returned (.tuple #[if canalB N0 N1 N2 Y Z then .agg #[.float .f32 n0, .float .f32 n1, .float .f32 n2, .slice (some ⟨x0, 0, none⟩) S.length k0, .slice (some ⟨x1, 0, none⟩) S.length k1] else .agg #[.float .f32 0, .float .f32 0, .float .f32 0, .slice none 0 0, .slice none 0 0], .bool (canalB N0 N1 N2 Y Z)]) ∧
    RowO w' (w.heap.size + 1) (.slice (some ⟨x0, 0, none⟩) S.length k0) Y ∧ RowO w' (w.heap.size + 1) (.slice (some ⟨x1, 0, none⟩) S.length k1) Z ∧ x0 ≠ x1 ∧ Below w.heap.size w w'

set_option maxHeartbeats 4000000 in
theorem l05Tick_o {N0 N1 N2 X T : Option Nat} {n0 n1 n2 x t : Nat} (a0 a1 : Option Addr) (c0 c1 : Nat) (S O : List Nat) (w : World) (b : Nat) (hB : Bx w b [.float .f32 n0, .float .f32 n1, .float .f32 n2, .slice a0 S.length c0, .slice a1 O.length c1]) (gx : Is32 X x) (gt : Is32 T t) (g0 : Is32 N0 n0) (g1 : Is32 N1 n1) (g2 : Is32 N2 n2) (h0 : RowF .f32 w a0 S) (hl0 : S.length ≤ 1048576) (hz0 : ∀ z ∈ S, z < 4294967296) (h1 : RowF .f32 w a1 O) (hl1 : O.length ≤ 1048576) (hz1 : ∀ z ∈ O, z < 4294967296) (hp0 : 0 < S.length) (hp1 : O.length = S.length) :
    Calls Try.prog 85 #[.pointer (some ⟨b, 0, none⟩), .float .f32 x, .float .f32 t] w (TickP N0 N1 N2 n0 n1 n2 S O X T w) := by
  have HBX := Lib.hid hB
  have HR0 := Lib.hid (h0 : RowF .f32 w a0 S)
  have HR1 := Lib.hid (h1 : RowF .f32 w a1 O)
  have HZ0 := Lib.hid hz0
  have HZ1 := Lib.hid hz1
  have HP1 := Lib.hid hp1
  have HOWN := Lib.hid (fun W (hb : Below w.heap.size w W) => l05Own_o a0 a1 c0 c1 S O W b (HBX.out.below hb HBX.out.1) g0 g1 g2 (HR0.out.below hb (Nat.le_refl _)) hl0 hz0 (HR1.out.below hb (Nat.le_refl _)) hl1 hz1 hp0 (by rw [hp1]; exact hp0))
  have hk0 := hB.c 0 rfl
  have hk1 := hB.c 1 rfl
  have hk2 := hB.c 2 rfl
  have hk3 := hB.c 3 rfl
  have hk4 := hB.c 4 rfl
  rw [hp1] at hk4
  clear h0 h1 hz0 hz1 hB
  obtain ⟨bS, oS, rfl, hbS, hcx⟩ := rows_at HR0.out hp0
  have HCS := Lib.hid hcx
  clear hcx
  obtain ⟨bO, oO, rfl, hbO, hcx⟩ := rows_at HR1.out (by rw [hp1]; exact hp0)
  have HCO := Lib.hid hcx
  clear hcx hp1
  have HK0 := Lib.hid hk0
  have HK1 := Lib.hid hk1
  have HK2 := Lib.hid hk2
  have HK3 := Lib.hid hk3
  have HK4 := Lib.hid hk4
  clear hk0 hk1 hk2 hk3 hk4
  go_enter Try.func85, Try.ntmps85
  go_wp2_with fail
  refine (HOWN.out _ (bel1 w _)).mono ?_
  rintro e w1 ⟨x0, k0, x1, k1, rfl, hr0, hr1, hne, hb⟩
  rw [HP1.out] at hr1 ⊢
  have hs0 : (w.alloc (.cells #[.float .f32 0, .float .f32 0, .float .f32 0, .slice none 0 0, .slice none 0 0] 36)).heap.size = w.heap.size + 1 := by simp
  rw [hs0] at hr0 hr1 hb
  have BR := Lib.hid ((Bw.new w [.float .f32 0, .float .f32 0, .float .f32 0, .slice none 0 0, .slice none 0 0] 36).below hb (by simp))
  have HB1 : Hid (Below w.heap.size w w1) := Lib.hid ((bel1 w _).trans (hb.mono (by omega)))
  have hz1 : w.heap.size + 1 ≤ w1.heap.size := by have := hb.size; omega
  have HX0 := Lib.hid (hr0.lo x0 rfl)
  have HX1 := Lib.hid (hr1.lo x1 rfl)
  have HZ9 := Lib.hid hz1
  have HR2 : Hid (RowO (w1.alloc (.cells #[.float .f32 n0, .float .f32 n1, .float .f32 n2, .slice (some ⟨x0, 0, none⟩) S.length k0, .slice (some ⟨x1, 0, none⟩) S.length k1] 36)) (w.heap.size + 1) (.slice (some ⟨x0, 0, none⟩) S.length k0) S) := Lib.hid (hr0.alloc _)
  have HR3 : Hid (RowO (w1.alloc (.cells #[.float .f32 n0, .float .f32 n1, .float .f32 n2, .slice (some ⟨x0, 0, none⟩) S.length k0, .slice (some ⟨x1, 0, none⟩) S.length k1] 36)) (w.heap.size + 1) (.slice (some ⟨x1, 0, none⟩) S.length k1) O) := Lib.hid (hr1.alloc _)
  have BR2 := Lib.hid (BR.out.alloc (.cells #[.float .f32 n0, .float .f32 n1, .float .f32 n2, .slice (some ⟨x0, 0, none⟩) S.length k0, .slice (some ⟨x1, 0, none⟩) S.length k1] 36))
  have BC2 : Hid (Bw (w1.alloc (.cells #[.float .f32 n0, .float .f32 n1, .float .f32 n2, .slice (some ⟨x0, 0, none⟩) S.length k0, .slice (some ⟨x1, 0, none⟩) S.length k1] 36)) w1.heap.size [.float .f32 n0, .float .f32 n1, .float .f32 n2, .slice (some ⟨x0, 0, none⟩) S.length k0, .slice (some ⟨x1, 0, none⟩) S.length k1]) := Lib.hid (Bw.new w1 [.float .f32 n0, .float .f32 n1, .float .f32 n2, .slice (some ⟨x0, 0, none⟩) S.length k0, .slice (some ⟨x1, 0, none⟩) S.length k1] 36)
  have HB2 : Hid (Below w.heap.size w (w1.alloc (.cells #[.float .f32 n0, .float .f32 n1, .float .f32 n2, .slice (some ⟨x0, 0, none⟩) S.length k0, .slice (some ⟨x1, 0, none⟩) S.length k1] 36))) := Lib.hid (HB1.out.alloc (by omega) _)
  have Hne := Lib.hid hne
  clear hr0 hr1 hb BR hne hz1
  obtain ⟨w2, hw2⟩ : ∃ W, (w1.alloc (.cells #[.float .f32 n0, .float .f32 n1, .float .f32 n2, .slice (some ⟨x0, 0, none⟩) S.length k0, .slice (some ⟨x1, 0, none⟩) S.length k1] 36)) = W := ⟨_, rfl⟩
  rw [hw2] at HR2 HR3 BR2 BC2 HB2
  have hs2 : w2.heap.size = w1.heap.size + 1 := by rw [← hw2]; simp
  have hv0 : w2.cell? ⟨b, 0, none⟩ = some (.float .f32 n0) := by rw [HB2.out.cell (p := ⟨b, 0, none⟩) HBX.out.1]; exact HK0.out
  have hv1 : w2.cell? ⟨b, 1, none⟩ = some (.float .f32 n1) := by rw [HB2.out.cell (p := ⟨b, 1, none⟩) HBX.out.1]; exact HK1.out
  have hv2 : w2.cell? ⟨b, 2, none⟩ = some (.float .f32 n2) := by rw [HB2.out.cell (p := ⟨b, 2, none⟩) HBX.out.1]; exact HK2.out
  have hv3 : w2.cell? ⟨b, 3, none⟩ = some (.slice (some ⟨bS, oS, none⟩) S.length c0) := by rw [HB2.out.cell (p := ⟨b, 3, none⟩) HBX.out.1]; exact HK3.out
  have hv4 : w2.cell? ⟨b, 4, none⟩ = some (.slice (some ⟨bO, oO, none⟩) S.length c1) := by rw [HB2.out.cell (p := ⟨b, 4, none⟩) HBX.out.1]; exact HK4.out
  have hq4 := BC2.out.c 4 rfl
  go_wp2_with (first | ((with_reducible refine wpList_bin ?_); refine wpList_f32 rfl _ _ _ _ _ rfl rfl rfl (by decide) (by first | assumption | exact Is32.c (by decide)) (by first | assumption | exact Is32.c (by decide)) ?_; intro z n hz) | ((with_reducible refine wpList_bin ?_); refine wpList_c32 rfl _ _ _ _ _ rfl rfl rfl (by decide) (by first | assumption | exact Is32.c (by decide)) (by first | assumption | exact Is32.c (by decide)) ?_; intro bb hbb; cases bb))
  have hpull : Is32 (pullO T N1) z := hz
  have HPull := Lib.hid hpull
  clear hv0 hv1 hv2 hv3 hv4 hq4 hw2
  go_loopw [27] (fun i wr => ∃ (k : Nat) (Z : List Nat), k ≤ S.length ∧ i = .int .i64 k ∧ Hid (Upto (newF N0 N1 N2 S O X T) k O Z) ∧ Hid (RowO wr (w.heap.size + 1) (.slice (some ⟨x0, 0, none⟩) S.length k0) S) ∧ Hid (RowO wr (w.heap.size + 1) (.slice (some ⟨x1, 0, none⟩) S.length k1) Z) ∧ Hid (Bw wr w.heap.size [.float .f32 0, .float .f32 0, .float .f32 0, .slice none 0 0, .slice none 0 0]) ∧ Hid (Bw wr w1.heap.size [.float .f32 n0, .float .f32 n1, .float .f32 n2, .slice (some ⟨x0, 0, none⟩) S.length k0, .slice (some ⟨x1, 0, none⟩) S.length k1]) ∧ Hid (Below w.heap.size w wr)) (fun i _ => S.length - (intOf i).toNat)
  case atStart => exact ⟨0, O, Nat.zero_le _, rfl, Lib.hid (Upto.zero _ _), HR2, HR3, BR2, BC2, Lib.hid (beld HB2.out _)⟩
  case round =>
    obtain ⟨k, Z, hk, rfl, HU, HA, HZ, HBr, HBc, HBk⟩ := hrel
    by_cases hlt : k < S.length
    · have hv0 : wr.cell? ⟨b, 0, none⟩ = some (.float .f32 n0) := by rw [HBk.out.cell (p := ⟨b, 0, none⟩) HBX.out.1]; exact HK0.out
      have hv1 : wr.cell? ⟨b, 1, none⟩ = some (.float .f32 n1) := by rw [HBk.out.cell (p := ⟨b, 1, none⟩) HBX.out.1]; exact HK1.out
      have hv2 : wr.cell? ⟨b, 2, none⟩ = some (.float .f32 n2) := by rw [HBk.out.cell (p := ⟨b, 2, none⟩) HBX.out.1]; exact HK2.out
      have hv3 : wr.cell? ⟨b, 3, none⟩ = some (.slice (some ⟨bS, oS, none⟩) S.length c0) := by rw [HBk.out.cell (p := ⟨b, 3, none⟩) HBX.out.1]; exact HK3.out
      have hv4 : wr.cell? ⟨b, 4, none⟩ = some (.slice (some ⟨bO, oO, none⟩) S.length c1) := by rw [HBk.out.cell (p := ⟨b, 4, none⟩) HBX.out.1]; exact HK4.out
      have hq4 := HBc.out.c 4 rfl
      obtain ⟨h1, hh1⟩ : ∃ x, S.getD k 0 = x := ⟨_, rfl⟩
      have hch1 : wr.cell? ⟨bS, oS + k, none⟩ = some (.float .f32 h1) := by rw [HBk.out.cell (p := ⟨bS, oS + k, none⟩) hbS, HCS.out k hlt, hh1]
      have hih1 : Is32 (some h1) h1 := Is32.c (by rw [← hh1]; exact getD_lt HZ0.out _)
      have HWh1 := Lib.hid hh1
      clear hh1
      obtain ⟨f1, hf1⟩ : ∃ x, O.getD k 0 = x := ⟨_, rfl⟩
      have hcf1 : wr.cell? ⟨bO, oO + k, none⟩ = some (.float .f32 f1) := by rw [HBk.out.cell (p := ⟨bO, oO + k, none⟩) hbO, HCO.out k (by have := HP1.out; omega), hf1]
      have hif1 : Is32 (some f1) f1 := Is32.c (by rw [← hf1]; exact getD_lt HZ1.out _)
      have HWf1 := Lib.hid hf1
      clear hf1
      have hzl : Z.length = S.length := HU.out.1.trans HP1.out
      obtain ⟨hcz, hfz⟩ := HZ.out.at hzl.symm k (by omega)
      generalize Z.getD k 0 = old at hcz
      have Hzl := Lib.hid hzl
      clear hzl
      have hpull := HPull.out
      obtain rfl | ⟨m, rfl⟩ : k = 0 ∨ ∃ m, k = m + 1 := by cases k; exact .inl rfl; exact .inr ⟨_, rfl⟩
      · simp only [Nat.add_zero] at hch1 hcf1
        have hkv : (0 : Int) < (S.length : Int) := by omega
        go_wp2_with fail
        any_goals apply wp_region_V (id := 9) (vmap [(8, V32k _), (13, V32k _)]) (by kernel_rfl) (by kernel_rfl)
        any_goals (refine wpV_go 1 rfl (fun K hK => ?_); go_simp; refine hK.out _ ?_; clear hK K)
        any_goals (refine wpV_go 2 rfl (fun K hK => ?_); go_simp; refine hK.out _ ?_; clear hK K)
        any_goals (refine wpV_go 3 rfl (fun K hK => ?_); go_simp; refine hK.out _ ?_; clear hK K)
        any_goals (refine wpV_go 4 rfl (fun K hK => ?_); go_simp; refine hK.out _ ?_; clear hK K)
        any_goals (refine wpV_go 5 rfl (fun K hK => ?_); go_simp; refine hK.out _ ?_; clear hK K)
        any_goals (refine wpV_go 6 rfl (fun K hK => ?_); go_simp; refine hK.out _ ?_; clear hK K)
        any_goals (refine wpV_go 7 rfl (fun K hK => ?_); go_simp; refine hK.out _ ?_; clear hK K)
        any_goals (refine wpV_go 8 rfl (fun K hK => ?_); go_simp; refine hK.out _ ?_; clear hK K)
        any_goals (first | (refine wpV_f32 9 rfl (drewC _) _ _ _ _ _ rfl rfl rfl rfl (by decide) (by first | assumption | exact Is32.c (by decide)) (by first | assumption | exact Is32.c (by decide)) rfl ?_; intro z hz) | (refine wpV_go 9 rfl (fun K hK => ?_); go_simp; refine hK.out _ ?_; clear hK K))
        any_goals (refine wpV_go 10 rfl (fun K hK => ?_); go_simp; refine hK.out _ ?_; clear hK K)
        any_goals (refine wpV_go 11 rfl (fun K hK => ?_); go_simp; refine hK.out _ ?_; clear hK K)
        any_goals (refine wpV_go 12 rfl (fun K hK => ?_); go_simp; refine hK.out _ ?_; clear hK K)
        any_goals (refine wpV_go 13 rfl (fun K hK => ?_); go_simp; refine hK.out _ ?_; clear hK K)
        any_goals (first | (refine wpV_f32 14 rfl (drewC _) _ _ _ _ _ rfl rfl rfl rfl (by decide) (by first | assumption | exact Is32.c (by decide)) (by first | assumption | exact Is32.c (by decide)) rfl ?_; intro z hz) | (refine wpV_go 14 rfl (fun K hK => ?_); go_simp; refine hK.out _ ?_; clear hK K))
        any_goals (refine wpV_go 15 rfl (fun K hK => ?_); go_simp; refine hK.out _ ?_; clear hK K)
        any_goals (refine wpV_nil ?_; intro q)
        any_goals go_wp2_with (first | ((with_reducible refine wpList_bin ?_); refine wpList_f32 rfl _ _ _ _ _ rfl rfl rfl (by decide) (by first | assumption | exact Is32.c (by decide)) (by first | assumption | exact Is32.c (by decide)) ?_; intro z n hz) | ((with_reducible refine wpList_bin ?_); refine wpList_c32 rfl _ _ _ _ _ rfl rfl rfl (by decide) (by first | assumption | exact Is32.c (by decide)) (by first | assumption | exact Is32.c (by decide)) ?_; intro bb hbb; cases bb))
        apply wp_region_tail (id := 10) 23 (C := fun w' => ∃ q2, w' = (wr.drewN q).drewN q2) (vmap [(12, V32k _), (13, V32k _), (19, V32k _), (20, V32k _), (21, V32k _)]) ⟨1, rfl⟩ (by kernel_rfl) (by kernel_rfl)
        (refine wpV_go 1 rfl (fun K hK => ?_); go_simp; refine hK.out _ ?_; clear hK K)
        (refine wpV_go 2 rfl (fun K hK => ?_); go_simp; refine hK.out _ ?_; clear hK K)
        (refine wpV_go 3 rfl (fun K hK => ?_); go_simp; refine hK.out _ ?_; clear hK K)
        (refine wpV_go 4 rfl (fun K hK => ?_); go_simp; refine hK.out _ ?_; clear hK K)
        (refine wpV_go 5 rfl (fun K hK => ?_); go_simp; refine hK.out _ ?_; clear hK K)
        (refine wpV_go 6 rfl (fun K hK => ?_); go_simp; refine hK.out _ ?_; clear hK K)
        (refine wpV_go 7 rfl (fun K hK => ?_); go_simp; refine hK.out _ ?_; clear hK K)
        (refine wpV_go 8 rfl (fun K hK => ?_); go_simp; refine hK.out _ ?_; clear hK K)
        (refine wpV_go 9 rfl (fun K hK => ?_); go_simp; refine hK.out _ ?_; clear hK K)
        (refine wpV_go 10 rfl (fun K hK => ?_); go_simp; refine hK.out _ ?_; clear hK K)
        (refine wpV_go 11 rfl (fun K hK => ?_); go_simp; refine hK.out _ ?_; clear hK K)
        (refine wpV_go 12 rfl (fun K hK => ?_); go_simp; refine hK.out _ ?_; clear hK K)
        (refine wpV_f32 13 rfl (drewC _) _ _ _ _ _ rfl rfl rfl rfl (by decide) (by first | assumption | exact Is32.c (by decide)) (by first | assumption | exact Is32.c (by decide)) rfl ?_; intro z12 hz12)
        (refine wpV_f32 14 rfl (drewC _) _ _ _ _ _ rfl rfl rfl rfl (by decide) (by first | assumption | exact Is32.c (by decide)) (by first | assumption | exact Is32.c (by decide)) rfl ?_; intro z13 hz13)
        (refine wpV_go 15 rfl (fun K hK => ?_); go_simp; refine hK.out _ ?_; clear hK K)
        (refine wpV_go 16 rfl (fun K hK => ?_); go_simp; refine hK.out _ ?_; clear hK K)
        (refine wpV_go 17 rfl (fun K hK => ?_); go_simp; refine hK.out _ ?_; clear hK K)
        (refine wpV_go 18 rfl (fun K hK => ?_); go_simp; refine hK.out _ ?_; clear hK K)
        (refine wpV_go 19 rfl (fun K hK => ?_); go_simp; refine hK.out _ ?_; clear hK K)
        (refine wpV_f32 20 rfl (drewC _) _ _ _ _ _ rfl rfl rfl rfl (by decide) (by first | assumption | exact Is32.c (by decide)) (by first | assumption | exact Is32.c (by decide)) rfl ?_; intro z19 hz19)
        (refine wpV_f32 21 rfl (drewC _) _ _ _ _ _ rfl rfl rfl rfl (by decide) (by first | assumption | exact Is32.c (by decide)) (by first | assumption | exact Is32.c (by decide)) rfl ?_; intro z20 hz20)
        (refine wpV_f32 22 rfl (drewC _) _ _ _ _ _ rfl rfl rfl rfl (by decide) (by first | assumption | exact Is32.c (by decide)) (by first | assumption | exact Is32.c (by decide)) rfl ?_; intro z21 hz21)
        (refine wpV_go 23 rfl (fun K hK => ?_); go_simp; refine hK.out _ ?_; clear hK K)
        refine wpV_nil ?_
        rintro w9 ⟨q9, rfl⟩
        try simp only [List.drop]
        go_wp2_with fail
        go_roundw
        case rel => exact ⟨0 + 1, Z.set 0 z21, by omega, by go_num, Lib.hid (HU.out.next (by have := HP1.out; omega) (by show Is32 (flO T N0 N1 N2 (some (O.getD 0 0)) (some (S.getD 0 0)) X) z21; rw [HWf1.out, HWh1.out]; exact hz21)), Lib.hid ((HA.out.drewN _).setFar (by simp [Value.ownBlock]; exact Hne.out) _), Lib.hid ((HZ.out.drewN _).store Hzl.out.symm _ z21), Lib.hid ((HBr.out.drewN _).setOther (by have := HX1.out.1; show x1 ≠ _; omega) _), Lib.hid ((HBc.out.drewN _).setOther (by have := HX1.out.2; show x1 ≠ _; omega) _), Lib.hid ((beld HBk.out _).setCell (by have := HX1.out.1; show _ ≤ x1; omega) _)⟩
        case measure => simp [intOf]; omega
      · obtain ⟨y0, hy0⟩ : ∃ x, S.getD m 0 = x := ⟨_, rfl⟩
        have hcy0 : wr.cell? ⟨bS, oS + m, none⟩ = some (.float .f32 y0) := by rw [HBk.out.cell (p := ⟨bS, oS + m, none⟩) hbS, HCS.out m (by omega), hy0]
        have hiy0 : Is32 (some y0) y0 := Is32.c (by rw [← hy0]; exact getD_lt HZ0.out _)
        have HWy0 := Lib.hid hy0
        clear hy0
        have hm0 : (0 : Int) ≤ (m : Int) := by omega
        have hm1 : (m : Int) < (S.length : Int) := by omega
        have hm2 : (m : Int) + 1 < (S.length : Int) := by omega
        have hm3 : (0 : Int) ≤ (m : Int) + 1 := by omega
        have hm6 : (0 : Int) < (m : Int) + 1 := by omega
        have hiw : IntKind.i64.wrap (m : Int) = (m : Int) := by rw [IntWalk.i64_in _ (by omega)]
        rw [show (((m + 1 : Nat)) : Int) = (m : Int) + 1 by omega]
        go_wp2_with fail
        any_goals apply wp_region_V (id := 9) (vmap [(8, V32k _), (13, V32k _)]) (by kernel_rfl) (by kernel_rfl)
        any_goals (refine wpV_go 1 rfl (fun K hK => ?_); go_simp; refine hK.out _ ?_; clear hK K)
        any_goals (refine wpV_go 2 rfl (fun K hK => ?_); go_simp; refine hK.out _ ?_; clear hK K)
        any_goals (refine wpV_go 3 rfl (fun K hK => ?_); go_simp; refine hK.out _ ?_; clear hK K)
        any_goals (refine wpV_go 4 rfl (fun K hK => ?_); go_simp; refine hK.out _ ?_; clear hK K)
        any_goals (refine wpV_go 5 rfl (fun K hK => ?_); go_simp; refine hK.out _ ?_; clear hK K)
        any_goals (refine wpV_go 6 rfl (fun K hK => ?_); go_simp; refine hK.out _ ?_; clear hK K)
        any_goals (refine wpV_go 7 rfl (fun K hK => ?_); go_simp; refine hK.out _ ?_; clear hK K)
        any_goals (refine wpV_go 8 rfl (fun K hK => ?_); go_simp; refine hK.out _ ?_; clear hK K)
        any_goals (first | (refine wpV_f32 9 rfl (drewC _) _ _ _ _ _ rfl rfl rfl rfl (by decide) (by first | assumption | exact Is32.c (by decide)) (by first | assumption | exact Is32.c (by decide)) rfl ?_; intro z hz) | (refine wpV_go 9 rfl (fun K hK => ?_); go_simp; refine hK.out _ ?_; clear hK K))
        any_goals (refine wpV_go 10 rfl (fun K hK => ?_); go_simp; refine hK.out _ ?_; clear hK K)
        any_goals (refine wpV_go 11 rfl (fun K hK => ?_); go_simp; refine hK.out _ ?_; clear hK K)
        any_goals (refine wpV_go 12 rfl (fun K hK => ?_); go_simp; refine hK.out _ ?_; clear hK K)
        any_goals (refine wpV_go 13 rfl (fun K hK => ?_); go_simp; refine hK.out _ ?_; clear hK K)
        any_goals (first | (refine wpV_f32 14 rfl (drewC _) _ _ _ _ _ rfl rfl rfl rfl (by decide) (by first | assumption | exact Is32.c (by decide)) (by first | assumption | exact Is32.c (by decide)) rfl ?_; intro z hz) | (refine wpV_go 14 rfl (fun K hK => ?_); go_simp; refine hK.out _ ?_; clear hK K))
        any_goals (refine wpV_go 15 rfl (fun K hK => ?_); go_simp; refine hK.out _ ?_; clear hK K)
        any_goals (refine wpV_nil ?_; intro q)
        any_goals go_wp2_with (first | ((with_reducible refine wpList_bin ?_); refine wpList_f32 rfl _ _ _ _ _ rfl rfl rfl (by decide) (by first | assumption | exact Is32.c (by decide)) (by first | assumption | exact Is32.c (by decide)) ?_; intro z n hz) | ((with_reducible refine wpList_bin ?_); refine wpList_c32 rfl _ _ _ _ _ rfl rfl rfl (by decide) (by first | assumption | exact Is32.c (by decide)) (by first | assumption | exact Is32.c (by decide)) ?_; intro bb hbb; cases bb))
        apply wp_region_tail (id := 10) 23 (C := fun w' => ∃ q2, w' = (wr.drewN q).drewN q2) (vmap [(12, V32k _), (13, V32k _), (19, V32k _), (20, V32k _), (21, V32k _)]) ⟨1, rfl⟩ (by kernel_rfl) (by kernel_rfl)
        (refine wpV_go 1 rfl (fun K hK => ?_); go_simp; refine hK.out _ ?_; clear hK K)
        (refine wpV_go 2 rfl (fun K hK => ?_); go_simp; refine hK.out _ ?_; clear hK K)
        (refine wpV_go 3 rfl (fun K hK => ?_); go_simp; refine hK.out _ ?_; clear hK K)
        (refine wpV_go 4 rfl (fun K hK => ?_); go_simp; refine hK.out _ ?_; clear hK K)
        (refine wpV_go 5 rfl (fun K hK => ?_); go_simp; refine hK.out _ ?_; clear hK K)
        (refine wpV_go 6 rfl (fun K hK => ?_); go_simp; refine hK.out _ ?_; clear hK K)
        (refine wpV_go 7 rfl (fun K hK => ?_); go_simp; refine hK.out _ ?_; clear hK K)
        (refine wpV_go 8 rfl (fun K hK => ?_); go_simp; refine hK.out _ ?_; clear hK K)
        (refine wpV_go 9 rfl (fun K hK => ?_); go_simp; refine hK.out _ ?_; clear hK K)
        (refine wpV_go 10 rfl (fun K hK => ?_); go_simp; refine hK.out _ ?_; clear hK K)
        (refine wpV_go 11 rfl (fun K hK => ?_); go_simp; refine hK.out _ ?_; clear hK K)
        (refine wpV_go 12 rfl (fun K hK => ?_); go_simp; refine hK.out _ ?_; clear hK K)
        (refine wpV_f32 13 rfl (drewC _) _ _ _ _ _ rfl rfl rfl rfl (by decide) (by first | assumption | exact Is32.c (by decide)) (by first | assumption | exact Is32.c (by decide)) rfl ?_; intro z12 hz12)
        (refine wpV_f32 14 rfl (drewC _) _ _ _ _ _ rfl rfl rfl rfl (by decide) (by first | assumption | exact Is32.c (by decide)) (by first | assumption | exact Is32.c (by decide)) rfl ?_; intro z13 hz13)
        (refine wpV_go 15 rfl (fun K hK => ?_); go_simp; refine hK.out _ ?_; clear hK K)
        (refine wpV_go 16 rfl (fun K hK => ?_); go_simp; refine hK.out _ ?_; clear hK K)
        (refine wpV_go 17 rfl (fun K hK => ?_); go_simp; refine hK.out _ ?_; clear hK K)
        (refine wpV_go 18 rfl (fun K hK => ?_); go_simp; refine hK.out _ ?_; clear hK K)
        (refine wpV_go 19 rfl (fun K hK => ?_); go_simp; refine hK.out _ ?_; clear hK K)
        (refine wpV_f32 20 rfl (drewC _) _ _ _ _ _ rfl rfl rfl rfl (by decide) (by first | assumption | exact Is32.c (by decide)) (by first | assumption | exact Is32.c (by decide)) rfl ?_; intro z19 hz19)
        (refine wpV_f32 21 rfl (drewC _) _ _ _ _ _ rfl rfl rfl rfl (by decide) (by first | assumption | exact Is32.c (by decide)) (by first | assumption | exact Is32.c (by decide)) rfl ?_; intro z20 hz20)
        (refine wpV_f32 22 rfl (drewC _) _ _ _ _ _ rfl rfl rfl rfl (by decide) (by first | assumption | exact Is32.c (by decide)) (by first | assumption | exact Is32.c (by decide)) rfl ?_; intro z21 hz21)
        (refine wpV_go 23 rfl (fun K hK => ?_); go_simp; refine hK.out _ ?_; clear hK K)
        refine wpV_nil ?_
        rintro w9 ⟨q9, rfl⟩
        try simp only [List.drop]
        go_wp2_with fail
        go_roundw
        case rel => exact ⟨m + 1 + 1, Z.set (m + 1) z21, by omega, by go_num, Lib.hid (HU.out.next (by have := HP1.out; omega) (by show Is32 (flO T N0 N1 N2 (some (O.getD (m + 1) 0)) (some (S.getD (m + 1) 0)) (some (S.getD m 0))) z21; rw [HWf1.out, HWh1.out, HWy0.out]; exact hz21)), Lib.hid ((HA.out.drewN _).setFar (by simp [Value.ownBlock]; exact Hne.out) _), Lib.hid ((HZ.out.drewN _).store Hzl.out.symm _ z21), Lib.hid ((HBr.out.drewN _).setOther (by have := HX1.out.1; show x1 ≠ _; omega) _), Lib.hid ((HBc.out.drewN _).setOther (by have := HX1.out.2; show x1 ≠ _; omega) _), Lib.hid ((beld HBk.out _).setCell (by have := HX1.out.1; show _ ≤ x1; omega) _)⟩
        case measure => simp [intOf]; omega
    · have hkS : k = S.length := by omega
      subst hkS
      have hq3 := HBc.out.c 3 rfl
      go_wp2_with fail
      go_loopw [82] (fun i wr => ∃ (k : Nat) (Y : List Nat), k ≤ S.length ∧ i = .int .i64 k ∧ Hid (Upto (newH N0 N1 N2 S O X T) k S Y) ∧ Hid (RowO wr (w.heap.size + 1) (.slice (some ⟨x0, 0, none⟩) S.length k0) Y) ∧ Hid (RowO wr (w.heap.size + 1) (.slice (some ⟨x1, 0, none⟩) S.length k1) Z) ∧ Hid (Bw wr w.heap.size [.float .f32 0, .float .f32 0, .float .f32 0, .slice none 0 0, .slice none 0 0]) ∧ Hid (Bw wr w1.heap.size [.float .f32 n0, .float .f32 n1, .float .f32 n2, .slice (some ⟨x0, 0, none⟩) S.length k0, .slice (some ⟨x1, 0, none⟩) S.length k1]) ∧ Hid (Below w.heap.size w wr)) (fun i _ => S.length - (intOf i).toNat)
      case atStart => exact ⟨0, S, Nat.zero_le _, rfl, Lib.hid (Upto.zero _ _), HA, HZ, HBr, HBc, HBk⟩
      case round =>
        clear hq3 HA HBr HBc HBk
        obtain ⟨k, Y, hk, rfl, HV, HA, HZ, HBr, HBc, HBk⟩ := hrel
        by_cases hlt : k < S.length
        · have hv0 : wr.cell? ⟨b, 0, none⟩ = some (.float .f32 n0) := by rw [HBk.out.cell (p := ⟨b, 0, none⟩) HBX.out.1]; exact HK0.out
          have hv1 : wr.cell? ⟨b, 1, none⟩ = some (.float .f32 n1) := by rw [HBk.out.cell (p := ⟨b, 1, none⟩) HBX.out.1]; exact HK1.out
          have hv2 : wr.cell? ⟨b, 2, none⟩ = some (.float .f32 n2) := by rw [HBk.out.cell (p := ⟨b, 2, none⟩) HBX.out.1]; exact HK2.out
          have hv3 : wr.cell? ⟨b, 3, none⟩ = some (.slice (some ⟨bS, oS, none⟩) S.length c0) := by rw [HBk.out.cell (p := ⟨b, 3, none⟩) HBX.out.1]; exact HK3.out
          have hv4 : wr.cell? ⟨b, 4, none⟩ = some (.slice (some ⟨bO, oO, none⟩) S.length c1) := by rw [HBk.out.cell (p := ⟨b, 4, none⟩) HBX.out.1]; exact HK4.out
          have hq3 := HBc.out.c 3 rfl
          have hq4 := HBc.out.c 4 rfl
          obtain ⟨h1, hh1⟩ : ∃ x, S.getD k 0 = x := ⟨_, rfl⟩
          have hch1 : wr.cell? ⟨bS, oS + k, none⟩ = some (.float .f32 h1) := by rw [HBk.out.cell (p := ⟨bS, oS + k, none⟩) hbS, HCS.out k hlt, hh1]
          have hih1 : Is32 (some h1) h1 := Is32.c (by rw [← hh1]; exact getD_lt HZ0.out _)
          have HWh1 := Lib.hid hh1
          clear hh1
          have hyl : Y.length = S.length := HV.out.1
          obtain ⟨hcy, hfy⟩ := HA.out.at hyl.symm k (by omega)
          generalize Y.getD k 0 = old at hcy
          have Hyl := Lib.hid hyl
          clear hyl
          have hzl : Z.length = S.length := HU.out.1.trans HP1.out
          obtain ⟨hcz, hfz⟩ := HZ.out.at hzl.symm k (by omega)
          have hizk := HU.out.2.1 k hlt
          generalize Z.getD k 0 = zk at hcz hizk
          have hkv : (k : Int) < (S.length : Int) := by omega
          by_cases hl2 : k + 1 < S.length
          · have hl3 : (k : Int) + 1 < (S.length : Int) := by omega
            have hl4 : (0 : Int) ≤ (k : Int) + 1 := by omega
            obtain ⟨hcn, hfn⟩ := HZ.out.at hzl.symm (k + 1) (by omega)
            have hizn := HU.out.2.1 (k + 1) hl2
            generalize Z.getD (k + 1) 0 = zn at hcn hizn
            clear hzl
            go_wp2_with fail
            apply wp_region_tail (id := 18) 26 (C := fun w' => ∃ q2, w' = wr.drewN q2) (vmap [(17, V32k _), (22, V32k _), (23, V32k _), (24, V32k _)]) ⟨1, rfl⟩ (by kernel_rfl) (by kernel_rfl)
            (refine wpV_go 1 rfl (fun K hK => ?_); go_simp; refine hK.out _ ?_; clear hK K)
            (refine wpV_go 2 rfl (fun K hK => ?_); go_simp; refine hK.out _ ?_; clear hK K)
            (refine wpV_go 3 rfl (fun K hK => ?_); go_simp; refine hK.out _ ?_; clear hK K)
            (refine wpV_go 4 rfl (fun K hK => ?_); go_simp; refine hK.out _ ?_; clear hK K)
            (refine wpV_go 5 rfl (fun K hK => ?_); go_simp; refine hK.out _ ?_; clear hK K)
            (refine wpV_go 6 rfl (fun K hK => ?_); go_simp; refine hK.out _ ?_; clear hK K)
            (refine wpV_go 7 rfl (fun K hK => ?_); go_simp; refine hK.out _ ?_; clear hK K)
            (refine wpV_go 8 rfl (fun K hK => ?_); go_simp; refine hK.out _ ?_; clear hK K)
            (refine wpV_go 9 rfl (fun K hK => ?_); go_simp; refine hK.out _ ?_; clear hK K)
            (refine wpV_go 10 rfl (fun K hK => ?_); go_simp; refine hK.out _ ?_; clear hK K)
            (refine wpV_go 11 rfl (fun K hK => ?_); go_simp; refine hK.out _ ?_; clear hK K)
            (refine wpV_go 12 rfl (fun K hK => ?_); go_simp; refine hK.out _ ?_; clear hK K)
            (refine wpV_go 13 rfl (fun K hK => ?_); go_simp; refine hK.out _ ?_; clear hK K)
            (refine wpV_go 14 rfl (fun K hK => ?_); go_simp; refine hK.out _ ?_; clear hK K)
            (refine wpV_go 15 rfl (fun K hK => ?_); go_simp; refine hK.out _ ?_; clear hK K)
            (refine wpV_go 16 rfl (fun K hK => ?_); go_simp; refine hK.out _ ?_; clear hK K)
            (refine wpV_go 17 rfl (fun K hK => ?_); go_simp; refine hK.out _ ?_; clear hK K)
            (refine wpV_f32 18 rfl (drewC _) _ _ _ _ _ rfl rfl rfl rfl (by decide) (by first | assumption | exact Is32.c (by decide)) (by first | assumption | exact Is32.c (by decide)) rfl ?_; intro z17 hz17)
            (refine wpV_go 19 rfl (fun K hK => ?_); go_simp; refine hK.out _ ?_; clear hK K)
            (refine wpV_go 20 rfl (fun K hK => ?_); go_simp; refine hK.out _ ?_; clear hK K)
            (refine wpV_go 21 rfl (fun K hK => ?_); go_simp; refine hK.out _ ?_; clear hK K)
            (refine wpV_go 22 rfl (fun K hK => ?_); go_simp; refine hK.out _ ?_; clear hK K)
            (refine wpV_f32 23 rfl (drewC _) _ _ _ _ _ rfl rfl rfl rfl (by decide) (by first | assumption | exact Is32.c (by decide)) (by first | assumption | exact Is32.c (by decide)) rfl ?_; intro z22 hz22)
            (refine wpV_f32 24 rfl (drewC _) _ _ _ _ _ rfl rfl rfl rfl (by decide) (by first | assumption | exact Is32.c (by decide)) (by first | assumption | exact Is32.c (by decide)) rfl ?_; intro z23 hz23)
            (refine wpV_f32 25 rfl (drewC _) _ _ _ _ _ rfl rfl rfl rfl (by decide) (by first | assumption | exact Is32.c (by decide)) (by first | assumption | exact Is32.c (by decide)) rfl ?_; intro z24 hz24)
            (refine wpV_go 26 rfl (fun K hK => ?_); go_simp; refine hK.out _ ?_; clear hK K)
            refine wpV_nil ?_
            rintro w9 ⟨q9, rfl⟩
            try simp only [List.drop]
            go_wp2_with fail
            go_roundw
            case rel => exact ⟨k + 1, Y.set k z24, by omega, by go_num, Lib.hid (HV.out.next hlt (by unfold newH aftO; rw [if_pos hl2, HWh1.out]; exact hz24)), Lib.hid ((HA.out.drewN _).store Hyl.out.symm _ z24), Lib.hid ((HZ.out.drewN _).setFar (by simp [Value.ownBlock]; exact fun h => Hne.out h.symm) _), Lib.hid ((HBr.out.drewN _).setOther (by have := HX0.out.1; show x0 ≠ _; omega) _), Lib.hid ((HBc.out.drewN _).setOther (by have := HX0.out.2; show x0 ≠ _; omega) _), Lib.hid ((beld HBk.out _).setCell (by have := HX0.out.1; show _ ≤ x0; omega) _)⟩
            case measure => simp [intOf]; omega
          · have hl3 : ¬ (k : Int) + 1 < (S.length : Int) := by omega
            clear hzl
            go_wp2_with fail
            apply wp_region_tail (id := 18) 26 (C := fun w' => ∃ q2, w' = wr.drewN q2) (vmap [(17, V32k _), (22, V32k _), (23, V32k _), (24, V32k _)]) ⟨1, rfl⟩ (by kernel_rfl) (by kernel_rfl)
            (refine wpV_go 1 rfl (fun K hK => ?_); go_simp; refine hK.out _ ?_; clear hK K)
            (refine wpV_go 2 rfl (fun K hK => ?_); go_simp; refine hK.out _ ?_; clear hK K)
            (refine wpV_go 3 rfl (fun K hK => ?_); go_simp; refine hK.out _ ?_; clear hK K)
            (refine wpV_go 4 rfl (fun K hK => ?_); go_simp; refine hK.out _ ?_; clear hK K)
            (refine wpV_go 5 rfl (fun K hK => ?_); go_simp; refine hK.out _ ?_; clear hK K)
            (refine wpV_go 6 rfl (fun K hK => ?_); go_simp; refine hK.out _ ?_; clear hK K)
            (refine wpV_go 7 rfl (fun K hK => ?_); go_simp; refine hK.out _ ?_; clear hK K)
            (refine wpV_go 8 rfl (fun K hK => ?_); go_simp; refine hK.out _ ?_; clear hK K)
            (refine wpV_go 9 rfl (fun K hK => ?_); go_simp; refine hK.out _ ?_; clear hK K)
            (refine wpV_go 10 rfl (fun K hK => ?_); go_simp; refine hK.out _ ?_; clear hK K)
            (refine wpV_go 11 rfl (fun K hK => ?_); go_simp; refine hK.out _ ?_; clear hK K)
            (refine wpV_go 12 rfl (fun K hK => ?_); go_simp; refine hK.out _ ?_; clear hK K)
            (refine wpV_go 13 rfl (fun K hK => ?_); go_simp; refine hK.out _ ?_; clear hK K)
            (refine wpV_go 14 rfl (fun K hK => ?_); go_simp; refine hK.out _ ?_; clear hK K)
            (refine wpV_go 15 rfl (fun K hK => ?_); go_simp; refine hK.out _ ?_; clear hK K)
            (refine wpV_go 16 rfl (fun K hK => ?_); go_simp; refine hK.out _ ?_; clear hK K)
            (refine wpV_go 17 rfl (fun K hK => ?_); go_simp; refine hK.out _ ?_; clear hK K)
            (refine wpV_f32 18 rfl (drewC _) _ _ _ _ _ rfl rfl rfl rfl (by decide) (by first | assumption | exact Is32.c (by decide)) (by first | assumption | exact Is32.c (by decide)) rfl ?_; intro z17 hz17)
            (refine wpV_go 19 rfl (fun K hK => ?_); go_simp; refine hK.out _ ?_; clear hK K)
            (refine wpV_go 20 rfl (fun K hK => ?_); go_simp; refine hK.out _ ?_; clear hK K)
            (refine wpV_go 21 rfl (fun K hK => ?_); go_simp; refine hK.out _ ?_; clear hK K)
            (refine wpV_go 22 rfl (fun K hK => ?_); go_simp; refine hK.out _ ?_; clear hK K)
            (refine wpV_f32 23 rfl (drewC _) _ _ _ _ _ rfl rfl rfl rfl (by decide) (by first | assumption | exact Is32.c (by decide)) (by first | assumption | exact Is32.c (by decide)) rfl ?_; intro z22 hz22)
            (refine wpV_f32 24 rfl (drewC _) _ _ _ _ _ rfl rfl rfl rfl (by decide) (by first | assumption | exact Is32.c (by decide)) (by first | assumption | exact Is32.c (by decide)) rfl ?_; intro z23 hz23)
            (refine wpV_f32 25 rfl (drewC _) _ _ _ _ _ rfl rfl rfl rfl (by decide) (by first | assumption | exact Is32.c (by decide)) (by first | assumption | exact Is32.c (by decide)) rfl ?_; intro z24 hz24)
            (refine wpV_go 26 rfl (fun K hK => ?_); go_simp; refine hK.out _ ?_; clear hK K)
            refine wpV_nil ?_
            rintro w9 ⟨q9, rfl⟩
            try simp only [List.drop]
            go_wp2_with fail
            go_roundw
            case rel => exact ⟨k + 1, Y.set k z24, by omega, by go_num, Lib.hid (HV.out.next hlt (by unfold newH aftO; rw [if_neg hl2, HWh1.out]; exact hz24)), Lib.hid ((HA.out.drewN _).store Hyl.out.symm _ z24), Lib.hid ((HZ.out.drewN _).setFar (by simp [Value.ownBlock]; exact fun h => Hne.out h.symm) _), Lib.hid ((HBr.out.drewN _).setOther (by have := HX0.out.1; show x0 ≠ _; omega) _), Lib.hid ((HBc.out.drewN _).setOther (by have := HX0.out.2; show x0 ≠ _; omega) _), Lib.hid ((beld HBk.out _).setCell (by have := HX0.out.1; show _ ≤ x0; omega) _)⟩
            case measure => simp [intOf]; omega
        · have hkS : k = S.length := by omega
          subst hkS
          have hyl : Y.length = S.length := HV.out.1
          have hzl : Z.length = S.length := HU.out.1.trans HP1.out
          have hx0 := HX0.out
          have hx1 := HX1.out
          have hry : RowF .f32 wr (some ⟨x0, 0, none⟩) Y := by have h9 := HA.out; rw [← hyl] at h9; exact (FRow.mk h9).row
          have hrz : RowF .f32 wr (some ⟨x1, 0, none⟩) Z := by have h9 := HZ.out; rw [← hzl] at h9; exact (FRow.mk h9).row
          have hcall := fun hB => l05Canal_o (some ⟨x0, 0, none⟩) (some ⟨x1, 0, none⟩) k0 k1 Y Z wr w1.heap.size hB g0 g1 g2 hry (by rw [hyl]; exact hl0) (HV.out.lt rfl) hrz (by rw [hzl]; omega) (HU.out.lt HP1.out.symm)
          rw [hyl, hzl] at hcall
          have HCall := Lib.hid (hcall HBc.out.1)
          clear hry hrz hcall
          obtain ⟨cv, hcv⟩ : ∃ B, canalB N0 N1 N2 Y Z = B := ⟨_, rfl⟩
          rw [hcv] at HCall
          have HCV := Lib.hid hcv
          clear hcv
          go_wp2_with fail
          refine HCall.out.mono ?_
          rintro e w3 ⟨cb, hcb, rfl, q9, rfl⟩
          subst hcb
          have q0 := (HBr.out.drewN q9).c 0 rfl
          have q1 := (HBr.out.drewN q9).c 1 rfl
          have q2 := (HBr.out.drewN q9).c 2 rfl
          have q3 := (HBr.out.drewN q9).c 3 rfl
          have q4 := (HBr.out.drewN q9).c 4 rfl
          have f0 := (HBr.out.drewN q9).f 0 (by simp)
          have f1 := (HBr.out.drewN q9).f 1 (by simp)
          have f2 := (HBr.out.drewN q9).f 2 (by simp)
          have f3 := (HBr.out.drewN q9).f 3 (by simp)
          have f4 := (HBr.out.drewN q9).f 4 (by simp)
          have u0 := (HBc.out.drewN q9).c 0 rfl
          have u1 := (HBc.out.drewN q9).c 1 rfl
          have u2 := (HBc.out.drewN q9).c 2 rfl
          have u3 := (HBc.out.drewN q9).c 3 rfl
          have u4 := (HBc.out.drewN q9).c 4 rfl
          have v0 := (HBc.out.drewN q9).f 0 (by simp)
          have v1 := (HBc.out.drewN q9).f 1 (by simp)
          have v2 := (HBc.out.drewN q9).f 2 (by simp)
          have v3 := (HBc.out.drewN q9).f 3 (by simp)
          have v4 := (HBc.out.drewN q9).f 4 (by simp)
          have HA3 := Lib.hid (HA.out.drewN q9)
          have HZ3 := Lib.hid (HZ.out.drewN q9)
          have HB3 : Hid (Below w.heap.size w (wr.drewN q9)) := Lib.hid (beld HBk.out q9)
          cases cv
          · go_wp2_with fail
            refine bodyPost_ret (v := .tuple #[.agg #[.float .f32 0, .float .f32 0, .float .f32 0, .slice none 0 0, .slice none 0 0], .bool false]) (by first | (simp [results, Try.results85, go_sem, q0, q1, q2, q3, q4, f0, f1, f2, f3, f4, u0, u1, u2, u3, u4, v0, v1, v2, v3, v4]; done) | (simp (maxDischargeDepth := 12) [results, Try.results85, go_sem, q0, q1, q2, q3, q4, f0, f1, f2, f3, f4, u0, u1, u2, u3, u4, v0, v1, v2, v3, v4]; done) | (simp (maxDischargeDepth := 12) [results, Try.results85, go_sem, q0, q1, q2, q3, q4, f0, f1, f2, f3, f4, u0, u1, u2, u3, u4, v0, v1, v2, v3, v4]; rfl)) rfl ?_
            exact ⟨Y, Z, x0, k0, x1, k1, HV.out, HU.out, by rw [HCV.out]; rfl, (((((HA3.out.setFar (by simp [Value.ownBlock]; omega) _).setFar (by simp [Value.ownBlock]; omega) _).setFar (by simp [Value.ownBlock]; omega) _).setFar (by simp [Value.ownBlock]; omega) _).setFar (by simp [Value.ownBlock]; omega) _), (((((HZ3.out.setFar (by simp [Value.ownBlock]; omega) _).setFar (by simp [Value.ownBlock]; omega) _).setFar (by simp [Value.ownBlock]; omega) _).setFar (by simp [Value.ownBlock]; omega) _).setFar (by simp [Value.ownBlock]; omega) _), Hne.out, (by repeat (first | with_reducible exact HB3.out | with_reducible refine beld ?_ _ | (with_reducible refine Below.alloc ?_ ?_ _; rotate_left; exact (by first | (simp; done) | (simp; omega) | omega)) | (with_reducible refine Below.setCell ?_ ?_ _; rotate_left; exact (by first | (simp; done) | (simp; omega) | omega))))⟩
          · go_wp2_with fail
            refine bodyPost_ret (v := .tuple #[.agg #[.float .f32 n0, .float .f32 n1, .float .f32 n2, .slice (some ⟨x0, 0, none⟩) S.length k0, .slice (some ⟨x1, 0, none⟩) S.length k1], .bool true]) (by first | (simp [results, Try.results85, go_sem, q0, q1, q2, q3, q4, f0, f1, f2, f3, f4, u0, u1, u2, u3, u4, v0, v1, v2, v3, v4]; done) | (simp (maxDischargeDepth := 12) [results, Try.results85, go_sem, q0, q1, q2, q3, q4, f0, f1, f2, f3, f4, u0, u1, u2, u3, u4, v0, v1, v2, v3, v4]; done) | (simp (maxDischargeDepth := 12) [results, Try.results85, go_sem, q0, q1, q2, q3, q4, f0, f1, f2, f3, f4, u0, u1, u2, u3, u4, v0, v1, v2, v3, v4]; rfl)) rfl ?_
            exact ⟨Y, Z, x0, k0, x1, k1, HV.out, HU.out, by rw [HCV.out]; rfl, (((((HA3.out.setFar (by simp [Value.ownBlock]; omega) _).setFar (by simp [Value.ownBlock]; omega) _).setFar (by simp [Value.ownBlock]; omega) _).setFar (by simp [Value.ownBlock]; omega) _).setFar (by simp [Value.ownBlock]; omega) _), (((((HZ3.out.setFar (by simp [Value.ownBlock]; omega) _).setFar (by simp [Value.ownBlock]; omega) _).setFar (by simp [Value.ownBlock]; omega) _).setFar (by simp [Value.ownBlock]; omega) _).setFar (by simp [Value.ownBlock]; omega) _), Hne.out, (by repeat (first | with_reducible exact HB3.out | with_reducible refine beld ?_ _ | (with_reducible refine Below.alloc ?_ ?_ _; rotate_left; exact (by first | (simp; done) | (simp; omega) | omega)) | (with_reducible refine Below.setCell ?_ ?_ _; rotate_left; exact (by first | (simp; done) | (simp; omega) | omega))))⟩

end Go.Proofs.Ytgnkpppbhibfoaa
