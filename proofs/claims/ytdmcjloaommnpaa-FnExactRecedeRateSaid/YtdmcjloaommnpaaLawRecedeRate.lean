/- The walk of the law on RecedeRate. -/
import Derived.Test.YtdmcjloaommnpaaRecS
import Derived.Test.YtdmcjloaommnpaaTo
import Derived.Test.YtdmcjloaommnpaaSame
import Derived.Test.YtdmcjloaommnpaaEqF
import Derived.DataShut
namespace Go.Proofs.Ytdmcjloaommnpaa
open Go.RowKit
set_option linter.unusedVariables false
set_option linter.unusedSimpArgs false
attribute [local irreducible] wpV wpList Code.wp

set_option maxRecDepth 100000 in
set_option maxHeartbeats 8000000 in
theorem recedeRateLaw_fits (a0 : Option Addr) (cap0 : Nat) (zs0 : List Nat) (w : World) (hr0 : RowF .f32 w a0 zs0) (hl0 : zs0.length ≤ 1048576) (hz0 : ∀ z ∈ zs0, z < 4294967296) :
    Calls Try.prog 7 #[.slice a0 zs0.length cap0] w fun e w' => e = .returned (.bool true) ∧ Below w.heap.size w w' := by
  obtain ⟨⟨X, B⟩, hR⟩ : ∃ R, recO zs0 = R := ⟨_, rfl⟩
  have cS : ∀ (a0 : Option Addr) (cap0 : Nat) (W : World), RowF .f32 W a0 zs0 → Calls Try.prog 26 #[.slice a0 zs0.length cap0] W (OnlyB (X, B)  W) := by
    intro a0 cap0 W h0'
    have := recedeRate_s a0 cap0 zs0 W h0' hl0 hz0
    rw [hR] at this
    exact this
  have cI : ∀ (a0 : Option Addr) (cap0 : Nat) (W : World), RowF .f32 W a0 zs0 → Calls Try.prog 27 #[.slice a0 zs0.length cap0] W (OnlyB (X, B)  W) := by
    intro a0 cap0 W h0'
    have := recedeRate_i a0 cap0 zs0 W h0' hl0 hz0
    rw [hR] at this
    exact this
  have HS := Lib.hid cS
  have HI := Lib.hid cI
  clear cS cI hR
  have H0 := Lib.hid hr0
  clear hr0 hz0
  cases B
  all_goals
    go_enter Try.func7, Try.ntmps7
    go_wp2_with (first | ((with_reducible refine wpList_cv ?_); refine wpList_widen rfl _ _ _ rfl rfl (by kernel_rfl) Try.underlying30 (by assumption) ?_; intro y q hy) | (go_at_call 21; refine (sameFloat_true _ _ _ (by assumption) (by assumption) _).mono ?_; rintro e w' ⟨rfl, n3, rfl⟩))
    refine (copyN_any a0 cap0 zs0 _ (by first | exact (H0.out.below (Below.refl _ _) (Nat.le_refl _))) hl0).mono ?_
    rintro e w1 ⟨bS0, rfl, hb, hrow⟩
    have hb1 : Below w.heap.size w w1 := (by first | exact (Below.refl _ _).trans (hb.mono (by first | (simp; done) | omega | (simp; omega))) | exact (beld (Below.refl _ _) _).trans (hb.mono (by first | (simp; done) | omega | (simp; omega))))
    have hs1 : w.heap.size + 0 ≤ w1.heap.size := (by have := hb.size; (try simp at this); omega)
    have hz1 : w.heap.size ≤ w1.heap.size := (by have := hb.size; (try simp at this); omega)
    have RS01 := Lib.hid hrow
    have HB1 := Lib.hid hb1
    clear hb hb1 hrow
    go_wp2_with (first | ((with_reducible refine wpList_cv ?_); refine wpList_widen rfl _ _ _ rfl rfl (by kernel_rfl) Try.underlying30 (by assumption) ?_; intro y q hy) | (go_at_call 21; refine (sameFloat_true _ _ _ (by assumption) (by assumption) _).mono ?_; rintro e w' ⟨rfl, n3, rfl⟩))
    refine (HS.out (some ⟨bS0, 0, none⟩) zs0.length _ (by exact RS01.out)).mono ?_
    rintro e w2 ⟨x, b, rfl, rfl, hx, hb⟩
    have hb2 : Below w.heap.size w w2 := (by first | exact HB1.out.trans (hb.mono (by first | (simp; done) | omega | (simp; omega))) | exact (beld HB1.out _).trans (hb.mono (by first | (simp; done) | omega | (simp; omega))))
    have hs2 : w.heap.size + 0 ≤ w2.heap.size := (by have := hb.size; (try simp at this); omega)
    have hz2 : w1.heap.size ≤ w2.heap.size := (by have := hb.size; (try simp at this); omega)
    have RS02 : Hid (RowF .f32 w2 (some ⟨bS0, 0, none⟩) zs0) := (by first | exact (RS01.out.below hb (by first | exact Nat.le_refl _ | (simp; done) | (simp; omega))) | exact ((RS01.out.drewN _).below hb (by first | exact Nat.le_refl _ | (simp; done) | (simp; omega))))
    have HB2 := Lib.hid hb2
    clear hb hb2
    go_wp2_with (first | ((with_reducible refine wpList_cv ?_); refine wpList_widen rfl _ _ _ rfl rfl (by kernel_rfl) Try.underlying30 (by assumption) ?_; intro y q hy) | (go_at_call 21; refine (sameFloat_true _ _ _ (by assumption) (by assumption) _).mono ?_; rintro e w' ⟨rfl, n3, rfl⟩))
    refine (copyN_any a0 cap0 zs0 _ (by first | exact (H0.out.below HB2.out (Nat.le_refl _)) | exact (H0.out.below (beld HB2.out _) (Nat.le_refl _)) | exact (H0.out.below (beld (beld HB2.out _) _) (Nat.le_refl _))) hl0).mono ?_
    rintro e w3 ⟨bX0, rfl, hb, hrow⟩
    have hb3 : Below w.heap.size w w3 := (by first | exact HB2.out.trans (hb.mono (by first | (simp; done) | omega | (simp; omega))) | exact (beld HB2.out _).trans (hb.mono (by first | (simp; done) | omega | (simp; omega))))
    have hs3 : w.heap.size + 0 ≤ w3.heap.size := (by have := hb.size; (try simp at this); omega)
    have hz3 : w2.heap.size ≤ w3.heap.size := (by have := hb.size; (try simp at this); omega)
    have RX03 := Lib.hid hrow
    have HB3 := Lib.hid hb3
    clear hb hb3 hrow
    go_wp2_with (first | ((with_reducible refine wpList_cv ?_); refine wpList_widen rfl _ _ _ rfl rfl (by kernel_rfl) Try.underlying30 (by assumption) ?_; intro y q hy) | (go_at_call 21; refine (sameFloat_true _ _ _ (by assumption) (by assumption) _).mono ?_; rintro e w' ⟨rfl, n3, rfl⟩))
    refine (HI.out (some ⟨bX0, 0, none⟩) zs0.length _ (by exact RX03.out)).mono ?_
    rintro e w4 ⟨x, b, rfl, rfl, hx, hb⟩
    have hb4 : Below w.heap.size w w4 := (by first | exact HB3.out.trans (hb.mono (by first | (simp; done) | omega | (simp; omega))) | exact (beld HB3.out _).trans (hb.mono (by first | (simp; done) | omega | (simp; omega))))
    have hs4 : w.heap.size + 0 ≤ w4.heap.size := (by have := hb.size; (try simp at this); omega)
    have hz4 : w3.heap.size ≤ w4.heap.size := (by have := hb.size; (try simp at this); omega)
    have RX04 : Hid (RowF .f32 w4 (some ⟨bX0, 0, none⟩) zs0) := (by first | exact (RX03.out.below hb (by first | exact Nat.le_refl _ | (simp; done) | (simp; omega))) | exact ((RX03.out.drewN _).below hb (by first | exact Nat.le_refl _ | (simp; done) | (simp; omega))))
    have HB4 := Lib.hid hb4
    clear hb hb4
    go_wp2_with (first | ((with_reducible refine wpList_cv ?_); refine wpList_widen rfl _ _ _ rfl rfl (by kernel_rfl) Try.underlying30 (by assumption) ?_; intro y q hy) | (go_at_call 21; refine (sameFloat_true _ _ _ (by assumption) (by assumption) _).mono ?_; rintro e w' ⟨rfl, n3, rfl⟩))
    refine (copyN_any a0 cap0 zs0 _ (by first | exact (H0.out.below HB4.out (Nat.le_refl _)) | exact (H0.out.below (beld HB4.out _) (Nat.le_refl _)) | exact (H0.out.below (beld (beld HB4.out _) _) (Nat.le_refl _))) hl0).mono ?_
    rintro e w5 ⟨bE0, rfl, hb, hrow⟩
    have hb5 : Below w.heap.size w w5 := (by first | exact HB4.out.trans (hb.mono (by first | (simp; done) | omega | (simp; omega))) | exact (beld HB4.out _).trans (hb.mono (by first | (simp; done) | omega | (simp; omega))))
    have hs5 : w.heap.size + 0 ≤ w5.heap.size := (by have := hb.size; (try simp at this); omega)
    have hz5 : w4.heap.size ≤ w5.heap.size := (by have := hb.size; (try simp at this); omega)
    have RX05 : Hid (RowF .f32 w5 (some ⟨bX0, 0, none⟩) zs0) := (by first | exact (RX04.out.below hb (by first | exact Nat.le_refl _ | (simp; done) | (simp; omega))) | exact ((RX04.out.drewN _).below hb (by first | exact Nat.le_refl _ | (simp; done) | (simp; omega))))
    have RE05 := Lib.hid hrow
    have HB5 := Lib.hid hb5
    clear hb hb5 hrow
    go_wp2_with (first | ((with_reducible refine wpList_cv ?_); refine wpList_widen rfl _ _ _ rfl rfl (by kernel_rfl) Try.underlying30 (by assumption) ?_; intro y q hy) | (go_at_call 21; refine (sameFloat_true _ _ _ (by assumption) (by assumption) _).mono ?_; rintro e w' ⟨rfl, n3, rfl⟩))
    refine (eqFloat32S_any (some ⟨bX0, 0, none⟩) (some ⟨bE0, 0, none⟩) zs0.length zs0.length zs0 _ (by exact RX05.out) (by exact RE05.out) hl0).mono ?_
    rintro e w' ⟨rfl, n9, rfl⟩
    go_wp2_with (first | ((with_reducible refine wpList_cv ?_); refine wpList_widen rfl _ _ _ rfl rfl (by kernel_rfl) Try.underlying30 (by assumption) ?_; intro y q hy) | (go_at_call 21; refine (sameFloat_true _ _ _ (by assumption) (by assumption) _).mono ?_; rintro e w' ⟨rfl, n3, rfl⟩))
    go_ret
    exact ⟨rfl, by first | exact HB5.out | exact beld HB5.out _ | exact beld (beld HB5.out _) _⟩

set_option maxHeartbeats 1000000 in
theorem walk_FnExactRecedeRate (a0 : Option Addr) (len0 cap0 : Nat) (zs0 : List Nat) (w : World) (h0 : IsRowF .f32 w a0 len0 cap0 zs0) :
    Calls Try.prog 7 #[.slice a0 len0 cap0] w fun e w' => e = .returned (.bool true) ∧ Below w.heap.size w w' := by
  obtain ⟨rfl, hcap0, hmax0, hr0, hz0⟩ := h0
  unfold maxLen at hmax0
  by_cases hl0 : zs0.length ≤ 1048576
  · exact recedeRateLaw_fits a0 cap0 zs0 w hr0 hl0 hz0
  · have hg : 1048576 < (zs0.length : Int) := by omega
    clear hr0 hz0
    go_enter Try.func7, Try.ntmps7
    go_wp2_with fail
    go_ret
    exact ⟨rfl, (Below.refl _ _)⟩
end Go.Proofs.Ytdmcjloaommnpaa
