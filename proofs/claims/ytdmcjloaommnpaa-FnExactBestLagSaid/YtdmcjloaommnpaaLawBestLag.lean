/- The walk of the law on BestLag. -/
import Derived.Test.YtdmcjloaommnpaaLagW
import Derived.Test.YtdmcjloaommnpaaTo
import Derived.Test.YtdmcjloaommnpaaSame
import Derived.Test.YtdmcjloaommnpaaEqF
import Derived.DataShut
namespace Go.Proofs.Ytdmcjloaommnpaa
open Go.RowKit
set_option linter.unusedVariables false
set_option linter.unusedSimpArgs false
attribute [local irreducible] wpV wpList Code.wp

set_option maxRecDepth 100000 in
set_option maxHeartbeats 8000000 in
theorem bestLagLaw_fits (a0 : Option Addr) (cap0 : Nat) (zs0 : List Nat) (a1 : Option Addr) (cap1 : Nat) (zs1 : List Nat) (m : Int) (w : World) (hr0 : RowF .f32 w a0 zs0) (hl0 : zs0.length ≤ 1048576) (hz0 : ∀ z ∈ zs0, z < 4294967296) (hr1 : RowF .f32 w a1 zs1) (hl1 : zs1.length ≤ 1048576) (hz1 : ∀ z ∈ zs1, z < 4294967296) (hnm : -9223372036854775808 ≤ m ∧ m ≤ 9223372036854775807) :
    Calls Try.prog 9 #[.slice a0 zs0.length cap0, .slice a1 zs1.length cap1, .int .i64 m] w fun e w' => e = .returned (.bool true) ∧ Below w.heap.size w w' := by
  obtain ⟨⟨rb, rx, B⟩, hR⟩ : ∃ R, lagO zs0 zs1 m = R := ⟨_, rfl⟩
  have cS : ∀ (a0 : Option Addr) (cap0 : Nat) (a1 : Option Addr) (cap1 : Nat) (W : World), RowF .f32 W a0 zs0 → zs0.length ≤ cap0 → RowF .f32 W a1 zs1 → zs1.length ≤ cap1 → Calls Try.prog 30 #[.slice a0 zs0.length cap0, .slice a1 zs1.length cap1, .int .i64 m] W (LagB ⟨rb, rx, B⟩ W) := by
    intro a0 cap0 a1 cap1 W h0' hc0' h1' hc1'
    have := bestLag_s a0 cap0 zs0 a1 cap1 zs1 m W h0' hl0 hz0 hc0' h1' hl1 hz1 hc1' hnm
    rw [hR] at this
    exact this
  have cI : ∀ (a0 : Option Addr) (cap0 : Nat) (a1 : Option Addr) (cap1 : Nat) (W : World), RowF .f32 W a0 zs0 → zs0.length ≤ cap0 → RowF .f32 W a1 zs1 → zs1.length ≤ cap1 → Calls Try.prog 31 #[.slice a0 zs0.length cap0, .slice a1 zs1.length cap1, .int .i64 m] W (LagB ⟨rb, rx, B⟩ W) := by
    intro a0 cap0 a1 cap1 W h0' hc0' h1' hc1'
    have := bestLag_i a0 cap0 zs0 a1 cap1 zs1 m W h0' hl0 hz0 hc0' h1' hl1 hz1 hc1' hnm
    rw [hR] at this
    exact this
  have HS := Lib.hid cS
  have HI := Lib.hid cI
  clear cS cI hR
  have H0 := Lib.hid hr0
  clear hr0 hz0
  have H1 := Lib.hid hr1
  clear hr1 hz1
  cases B
  all_goals
    go_enter Try.func9, Try.ntmps9
    go_wp2_with (first | ((with_reducible refine wpList_cv ?_); refine wpList_widen rfl _ _ _ rfl rfl (by kernel_rfl) Try.underlying30 (by assumption) ?_; intro y q hy) | (go_at_call 21; refine (sameFloat_true _ _ _ (by assumption) (by assumption) _).mono ?_; rintro e w' ⟨rfl, n3, rfl⟩))
    refine (copyN_any a0 cap0 zs0 _ (by first | exact (H0.out.below (Below.refl _ _) (Nat.le_refl _))) hl0).mono ?_
    rintro e w1 ⟨bS0, rfl, hb, hrow⟩
    have hb1 : Below w.heap.size w w1 := (by first | exact (Below.refl _ _).trans (hb.mono (by first | (simp; done) | omega | (simp; omega))) | exact (beld (Below.refl _ _) _).trans (hb.mono (by first | (simp; done) | omega | (simp; omega))))
    have hs1 : w.heap.size + 0 ≤ w1.heap.size := (by have := hb.size; (try simp at this); omega)
    have hz1 : w.heap.size ≤ w1.heap.size := (by have := hb.size; (try simp at this); omega)
    have RS01 := Lib.hid hrow
    have HB1 := Lib.hid hb1
    clear hb hb1 hrow
    go_wp2_with (first | ((with_reducible refine wpList_cv ?_); refine wpList_widen rfl _ _ _ rfl rfl (by kernel_rfl) Try.underlying30 (by assumption) ?_; intro y q hy) | (go_at_call 21; refine (sameFloat_true _ _ _ (by assumption) (by assumption) _).mono ?_; rintro e w' ⟨rfl, n3, rfl⟩))
    refine (copyN_any a1 cap1 zs1 _ (by first | exact (H1.out.below HB1.out (Nat.le_refl _)) | exact (H1.out.below (beld HB1.out _) (Nat.le_refl _)) | exact (H1.out.below (beld (beld HB1.out _) _) (Nat.le_refl _))) hl1).mono ?_
    rintro e w2 ⟨bS1, rfl, hb, hrow⟩
    have hb2 : Below w.heap.size w w2 := (by first | exact HB1.out.trans (hb.mono (by first | (simp; done) | omega | (simp; omega))) | exact (beld HB1.out _).trans (hb.mono (by first | (simp; done) | omega | (simp; omega))))
    have hs2 : w.heap.size + 0 ≤ w2.heap.size := (by have := hb.size; (try simp at this); omega)
    have hz2 : w1.heap.size ≤ w2.heap.size := (by have := hb.size; (try simp at this); omega)
    have RS02 : Hid (RowF .f32 w2 (some ⟨bS0, 0, none⟩) zs0) := (by first | exact (RS01.out.below hb (by first | exact Nat.le_refl _ | (simp; done) | (simp; omega))) | exact ((RS01.out.drewN _).below hb (by first | exact Nat.le_refl _ | (simp; done) | (simp; omega))))
    have RS12 := Lib.hid hrow
    have HB2 := Lib.hid hb2
    clear hb hb2 hrow
    go_wp2_with (first | ((with_reducible refine wpList_cv ?_); refine wpList_widen rfl _ _ _ rfl rfl (by kernel_rfl) Try.underlying30 (by assumption) ?_; intro y q hy) | (go_at_call 21; refine (sameFloat_true _ _ _ (by assumption) (by assumption) _).mono ?_; rintro e w' ⟨rfl, n3, rfl⟩))
    refine (HS.out (some ⟨bS0, 0, none⟩) zs0.length (some ⟨bS1, 0, none⟩) zs1.length _ (by exact RS02.out) (Nat.le_refl _) (by exact RS12.out) (Nat.le_refl _)).mono ?_
    rintro e w3 ⟨b, x, rfl, rfl, hx, hb⟩
    have hb3 : Below w.heap.size w w3 := (by first | exact HB2.out.trans (hb.mono (by first | (simp; done) | omega | (simp; omega))) | exact (beld HB2.out _).trans (hb.mono (by first | (simp; done) | omega | (simp; omega))))
    have hs3 : w.heap.size + 0 ≤ w3.heap.size := (by have := hb.size; (try simp at this); omega)
    have hz3 : w2.heap.size ≤ w3.heap.size := (by have := hb.size; (try simp at this); omega)
    have RS03 : Hid (RowF .f32 w3 (some ⟨bS0, 0, none⟩) zs0) := (by first | exact (RS02.out.below hb (by first | exact Nat.le_refl _ | (simp; done) | (simp; omega))) | exact ((RS02.out.drewN _).below hb (by first | exact Nat.le_refl _ | (simp; done) | (simp; omega))))
    have RS13 : Hid (RowF .f32 w3 (some ⟨bS1, 0, none⟩) zs1) := (by first | exact (RS12.out.below hb (by first | exact Nat.le_refl _ | (simp; done) | (simp; omega))) | exact ((RS12.out.drewN _).below hb (by first | exact Nat.le_refl _ | (simp; done) | (simp; omega))))
    have HB3 := Lib.hid hb3
    clear hb hb3
    go_wp2_with (first | ((with_reducible refine wpList_cv ?_); refine wpList_widen rfl _ _ _ rfl rfl (by kernel_rfl) Try.underlying30 (by assumption) ?_; intro y q hy) | (go_at_call 21; refine (sameFloat_true _ _ _ (by assumption) (by assumption) _).mono ?_; rintro e w' ⟨rfl, n3, rfl⟩))
    refine (copyN_any a0 cap0 zs0 _ (by first | exact (H0.out.below HB3.out (Nat.le_refl _)) | exact (H0.out.below (beld HB3.out _) (Nat.le_refl _)) | exact (H0.out.below (beld (beld HB3.out _) _) (Nat.le_refl _))) hl0).mono ?_
    rintro e w4 ⟨bX0, rfl, hb, hrow⟩
    have hb4 : Below w.heap.size w w4 := (by first | exact HB3.out.trans (hb.mono (by first | (simp; done) | omega | (simp; omega))) | exact (beld HB3.out _).trans (hb.mono (by first | (simp; done) | omega | (simp; omega))))
    have hs4 : w.heap.size + 0 ≤ w4.heap.size := (by have := hb.size; (try simp at this); omega)
    have hz4 : w3.heap.size ≤ w4.heap.size := (by have := hb.size; (try simp at this); omega)
    have RX04 := Lib.hid hrow
    have HB4 := Lib.hid hb4
    clear hb hb4 hrow
    go_wp2_with (first | ((with_reducible refine wpList_cv ?_); refine wpList_widen rfl _ _ _ rfl rfl (by kernel_rfl) Try.underlying30 (by assumption) ?_; intro y q hy) | (go_at_call 21; refine (sameFloat_true _ _ _ (by assumption) (by assumption) _).mono ?_; rintro e w' ⟨rfl, n3, rfl⟩))
    refine (copyN_any a1 cap1 zs1 _ (by first | exact (H1.out.below HB4.out (Nat.le_refl _)) | exact (H1.out.below (beld HB4.out _) (Nat.le_refl _)) | exact (H1.out.below (beld (beld HB4.out _) _) (Nat.le_refl _))) hl1).mono ?_
    rintro e w5 ⟨bX1, rfl, hb, hrow⟩
    have hb5 : Below w.heap.size w w5 := (by first | exact HB4.out.trans (hb.mono (by first | (simp; done) | omega | (simp; omega))) | exact (beld HB4.out _).trans (hb.mono (by first | (simp; done) | omega | (simp; omega))))
    have hs5 : w.heap.size + 0 ≤ w5.heap.size := (by have := hb.size; (try simp at this); omega)
    have hz5 : w4.heap.size ≤ w5.heap.size := (by have := hb.size; (try simp at this); omega)
    have RX05 : Hid (RowF .f32 w5 (some ⟨bX0, 0, none⟩) zs0) := (by first | exact (RX04.out.below hb (by first | exact Nat.le_refl _ | (simp; done) | (simp; omega))) | exact ((RX04.out.drewN _).below hb (by first | exact Nat.le_refl _ | (simp; done) | (simp; omega))))
    have RX15 := Lib.hid hrow
    have HB5 := Lib.hid hb5
    clear hb hb5 hrow
    go_wp2_with (first | ((with_reducible refine wpList_cv ?_); refine wpList_widen rfl _ _ _ rfl rfl (by kernel_rfl) Try.underlying30 (by assumption) ?_; intro y q hy) | (go_at_call 21; refine (sameFloat_true _ _ _ (by assumption) (by assumption) _).mono ?_; rintro e w' ⟨rfl, n3, rfl⟩))
    refine (HI.out (some ⟨bX0, 0, none⟩) zs0.length (some ⟨bX1, 0, none⟩) zs1.length _ (by exact RX05.out) (Nat.le_refl _) (by exact RX15.out) (Nat.le_refl _)).mono ?_
    rintro e w6 ⟨b, x, rfl, rfl, hx, hb⟩
    have hb6 : Below w.heap.size w w6 := (by first | exact HB5.out.trans (hb.mono (by first | (simp; done) | omega | (simp; omega))) | exact (beld HB5.out _).trans (hb.mono (by first | (simp; done) | omega | (simp; omega))))
    have hs6 : w.heap.size + 0 ≤ w6.heap.size := (by have := hb.size; (try simp at this); omega)
    have hz6 : w5.heap.size ≤ w6.heap.size := (by have := hb.size; (try simp at this); omega)
    have RX06 : Hid (RowF .f32 w6 (some ⟨bX0, 0, none⟩) zs0) := (by first | exact (RX05.out.below hb (by first | exact Nat.le_refl _ | (simp; done) | (simp; omega))) | exact ((RX05.out.drewN _).below hb (by first | exact Nat.le_refl _ | (simp; done) | (simp; omega))))
    have RX16 : Hid (RowF .f32 w6 (some ⟨bX1, 0, none⟩) zs1) := (by first | exact (RX15.out.below hb (by first | exact Nat.le_refl _ | (simp; done) | (simp; omega))) | exact ((RX15.out.drewN _).below hb (by first | exact Nat.le_refl _ | (simp; done) | (simp; omega))))
    have HB6 := Lib.hid hb6
    clear hb hb6
    go_wp2_with (first | ((with_reducible refine wpList_cv ?_); refine wpList_widen rfl _ _ _ rfl rfl (by kernel_rfl) Try.underlying30 (by assumption) ?_; intro y q hy) | (go_at_call 21; refine (sameFloat_true _ _ _ (by assumption) (by assumption) _).mono ?_; rintro e w' ⟨rfl, n3, rfl⟩))
    refine (copyN_any a0 cap0 zs0 _ (by first | exact (H0.out.below HB6.out (Nat.le_refl _)) | exact (H0.out.below (beld HB6.out _) (Nat.le_refl _)) | exact (H0.out.below (beld (beld HB6.out _) _) (Nat.le_refl _))) hl0).mono ?_
    rintro e w7 ⟨bE0, rfl, hb, hrow⟩
    have hb7 : Below w.heap.size w w7 := (by first | exact HB6.out.trans (hb.mono (by first | (simp; done) | omega | (simp; omega))) | exact (beld HB6.out _).trans (hb.mono (by first | (simp; done) | omega | (simp; omega))))
    have hs7 : w.heap.size + 0 ≤ w7.heap.size := (by have := hb.size; (try simp at this); omega)
    have hz7 : w6.heap.size ≤ w7.heap.size := (by have := hb.size; (try simp at this); omega)
    have RX07 : Hid (RowF .f32 w7 (some ⟨bX0, 0, none⟩) zs0) := (by first | exact (RX06.out.below hb (by first | exact Nat.le_refl _ | (simp; done) | (simp; omega))) | exact ((RX06.out.drewN _).below hb (by first | exact Nat.le_refl _ | (simp; done) | (simp; omega))))
    have RX17 : Hid (RowF .f32 w7 (some ⟨bX1, 0, none⟩) zs1) := (by first | exact (RX16.out.below hb (by first | exact Nat.le_refl _ | (simp; done) | (simp; omega))) | exact ((RX16.out.drewN _).below hb (by first | exact Nat.le_refl _ | (simp; done) | (simp; omega))))
    have RE07 := Lib.hid hrow
    have HB7 := Lib.hid hb7
    clear hb hb7 hrow
    go_wp2_with (first | ((with_reducible refine wpList_cv ?_); refine wpList_widen rfl _ _ _ rfl rfl (by kernel_rfl) Try.underlying30 (by assumption) ?_; intro y q hy) | (go_at_call 21; refine (sameFloat_true _ _ _ (by assumption) (by assumption) _).mono ?_; rintro e w' ⟨rfl, n3, rfl⟩))
    refine (eqFloat32S_any (some ⟨bX0, 0, none⟩) (some ⟨bE0, 0, none⟩) zs0.length zs0.length zs0 _ (by exact RX07.out) (by exact RE07.out) hl0).mono ?_
    rintro e w' ⟨rfl, n9, rfl⟩
    go_wp2_with (first | ((with_reducible refine wpList_cv ?_); refine wpList_widen rfl _ _ _ rfl rfl (by kernel_rfl) Try.underlying30 (by assumption) ?_; intro y q hy) | (go_at_call 21; refine (sameFloat_true _ _ _ (by assumption) (by assumption) _).mono ?_; rintro e w' ⟨rfl, n3, rfl⟩))
    refine (copyN_any a1 cap1 zs1 _ (by first | exact (H1.out.below HB7.out (Nat.le_refl _)) | exact (H1.out.below (beld HB7.out _) (Nat.le_refl _)) | exact (H1.out.below (beld (beld HB7.out _) _) (Nat.le_refl _))) hl1).mono ?_
    rintro e w8 ⟨bE1, rfl, hb, hrow⟩
    have hb8 : Below w.heap.size w w8 := (by first | exact HB7.out.trans (hb.mono (by first | (simp; done) | omega | (simp; omega))) | exact (beld HB7.out _).trans (hb.mono (by first | (simp; done) | omega | (simp; omega))))
    have hs8 : w.heap.size + 0 ≤ w8.heap.size := (by have := hb.size; (try simp at this); omega)
    have hz8 : w7.heap.size ≤ w8.heap.size := (by have := hb.size; (try simp at this); omega)
    have RX08 : Hid (RowF .f32 w8 (some ⟨bX0, 0, none⟩) zs0) := (by first | exact (RX07.out.below hb (by first | exact Nat.le_refl _ | (simp; done) | (simp; omega))) | exact ((RX07.out.drewN _).below hb (by first | exact Nat.le_refl _ | (simp; done) | (simp; omega))))
    have RX18 : Hid (RowF .f32 w8 (some ⟨bX1, 0, none⟩) zs1) := (by first | exact (RX17.out.below hb (by first | exact Nat.le_refl _ | (simp; done) | (simp; omega))) | exact ((RX17.out.drewN _).below hb (by first | exact Nat.le_refl _ | (simp; done) | (simp; omega))))
    have RE08 : Hid (RowF .f32 w8 (some ⟨bE0, 0, none⟩) zs0) := (by first | exact (RE07.out.below hb (by first | exact Nat.le_refl _ | (simp; done) | (simp; omega))) | exact ((RE07.out.drewN _).below hb (by first | exact Nat.le_refl _ | (simp; done) | (simp; omega))))
    have RE18 := Lib.hid hrow
    have HB8 := Lib.hid hb8
    clear hb hb8 hrow
    go_wp2_with (first | ((with_reducible refine wpList_cv ?_); refine wpList_widen rfl _ _ _ rfl rfl (by kernel_rfl) Try.underlying30 (by assumption) ?_; intro y q hy) | (go_at_call 21; refine (sameFloat_true _ _ _ (by assumption) (by assumption) _).mono ?_; rintro e w' ⟨rfl, n3, rfl⟩))
    refine (eqFloat32S_any (some ⟨bX1, 0, none⟩) (some ⟨bE1, 0, none⟩) zs1.length zs1.length zs1 _ (by exact RX18.out) (by exact RE18.out) hl1).mono ?_
    rintro e w' ⟨rfl, n9, rfl⟩
    go_wp2_with (first | ((with_reducible refine wpList_cv ?_); refine wpList_widen rfl _ _ _ rfl rfl (by kernel_rfl) Try.underlying30 (by assumption) ?_; intro y q hy) | (go_at_call 21; refine (sameFloat_true _ _ _ (by assumption) (by assumption) _).mono ?_; rintro e w' ⟨rfl, n3, rfl⟩))
    go_ret
    exact ⟨rfl, by first | exact HB8.out | exact beld HB8.out _ | exact beld (beld HB8.out _) _⟩

set_option maxHeartbeats 1000000 in
theorem walk_FnExactBestLag (a0 : Option Addr) (len0 cap0 : Nat) (zs0 : List Nat) (a1 : Option Addr) (len1 cap1 : Nat) (zs1 : List Nat) (m : Int) (w : World) (h0 : IsRowF .f32 w a0 len0 cap0 zs0) (h1 : IsRowF .f32 w a1 len1 cap1 zs1) (hwm : (Lit.int .i64 m).wf = true) :
    Calls Try.prog 9 #[.slice a0 len0 cap0, .slice a1 len1 cap1, .int .i64 m] w fun e w' => e = .returned (.bool true) ∧ Below w.heap.size w w' := by
  obtain ⟨rfl, hcap0, hmax0, hr0, hz0⟩ := h0
  obtain ⟨rfl, hcap1, hmax1, hr1, hz1⟩ := h1
  have hnm : -9223372036854775808 ≤ m ∧ m ≤ 9223372036854775807 := by have h9 := (Lit.wf_int_iff .i64 m).1 hwm; have e1 : IntKind.min .i64 = -9223372036854775808 := (by decide +kernel); have e2 : IntKind.max .i64 = 9223372036854775807 := (by decide +kernel); omega
  unfold maxLen at hmax0 hmax1
  by_cases hl0 : zs0.length ≤ 1048576
  · skip
    by_cases hl1 : zs1.length ≤ 1048576
    · exact bestLagLaw_fits a0 cap0 zs0 a1 cap1 zs1 m w hr0 hl0 hz0 hr1 hl1 hz1 hnm
    · have hg : 1048576 < (zs1.length : Int) := by omega
      clear hr0 hz0 hr1 hz1
      have hg0 : ¬ 1048576 < (zs0.length : Int) := by omega
      go_enter Try.func9, Try.ntmps9
      go_wp2_with fail
      go_ret
      exact ⟨rfl, (Below.refl _ _)⟩
  · have hg : 1048576 < (zs0.length : Int) := by omega
    clear hr0 hz0 hr1 hz1
    go_enter Try.func9, Try.ntmps9
    go_wp2_with fail
    go_ret
    exact ⟨rfl, (Below.refl _ _)⟩
end Go.Proofs.Ytdmcjloaommnpaa
