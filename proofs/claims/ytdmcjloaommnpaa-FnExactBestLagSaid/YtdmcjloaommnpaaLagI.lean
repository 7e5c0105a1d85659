/- The best lag: the program and its model alike. -/
import Derived.Test.YtdmcjloaommnpaaLagV
namespace Go.Proofs.Ytdmcjloaommnpaa
open Go.RowKit
set_option linter.unusedVariables false
set_option linter.unusedSimpArgs false
set_option maxRecDepth 100000
attribute [local irreducible] wpV wpList Code.wp

def lagSp (A B : List Nat) (n : Nat) : Nat → LagT
  | 0 => ⟨-1, some 0⟩
  | k + 1 => lagUp A B n k
theorem lagSp_first {A B : List Nat} {n k : Nat} (h : (lagSp A B n k).b < 0) : lagSp A B n (k + 1) = ⟨k, lagM A B n k⟩ := by
  cases k with
  | zero => rfl
  | succ j => exact absurd h (by have := lagUp_nn A B n j; show ¬ (lagUp A B n j).b < 0; omega)
theorem lagSp_next {A B : List Nat} {n k : Nat} (h : ¬ (lagSp A B n k).b < 0) : lagSp A B n (k + 1) = if fcmp .gtr .f32 (lagM A B n k) (lagSp A B n k).x then ⟨k, lagM A B n k⟩ else lagSp A B n k := by
  cases k with
  | zero => exact absurd (show ((-1 : Int) < 0) by decide) h
  | succ j => rfl
theorem lagSp_bd (A B : List Nat) (n : Nat) : ∀ k, -1 ≤ (lagSp A B n k).b
  | 0 => Int.le_refl _
  | k + 1 => by have := lagUp_nn A B n k; show -1 ≤ (lagUp A B n k).b; omega
theorem lagMean_at (b0 o0 b1 o1 n cap0 cap1 lag : Nat) (kv : Int) (hk : kv = (lag : Int)) (A B : List Nat) (w : World) (hA : A.length = n) (hB : B.length = n) (h0 : RowF .f32 w (some ⟨b0, o0, none⟩) A) (h1 : RowF .f32 w (some ⟨b1, o1, none⟩) B) (hn : n ≤ 128) (hlag : lag < n) (hc0 : n ≤ cap0) (hc1 : n ≤ cap1) :
    Calls Try.prog 76 #[.slice (some ⟨b0, o0, none⟩) n cap0, .slice (some ⟨b1, o1, none⟩) n cap1, .int .i64 kv] w (NumQ (lagM A B n lag) w) := by
  subst hk; exact lagMean_any b0 o0 b1 o1 n cap0 cap1 lag A B w hA hB h0 h1 hn hlag hc0 hc1

set_option maxHeartbeats 8000000 in
theorem bestLag_i (a0 : Option Addr) (cap0 : Nat) (A : List Nat) (a1 : Option Addr) (cap1 : Nat) (B : List Nat) (most : Int) (w : World) (h0 : RowF .f32 w a0 A) (hl0 : A.length ≤ 1048576) (hz0 : ∀ z ∈ A, z < 4294967296) (hc0 : A.length ≤ cap0) (h1 : RowF .f32 w a1 B) (hl1 : B.length ≤ 1048576) (hz1 : ∀ z ∈ B, z < 4294967296) (hc1 : B.length ≤ cap1) (hmb : -9223372036854775808 ≤ most ∧ most ≤ 9223372036854775807) : Calls Try.prog 31 #[.slice a0 A.length cap0, .slice a1 B.length cap1, .int .i64 most] w (LagB (lagO A B most) w) := by
  have H0 := Lib.hid h0
  have H1 := Lib.hid h1
  have HZ0 := Lib.hid hz0
  have HZ1 := Lib.hid hz1
  clear h0 h1 hz0 hz1
  have Sno := Lib.hid (@lag_no A B most)
  have Sout := Lib.hid (@lag_out A B most)
  have Sgo := Lib.hid (@lag_go A B most)
  have HBp := Lib.hid (@bothB_parts A B)
  generalize lagO A B most = R at *
  have HAG := Lib.hid (areGauges_any a0 cap0 A a1 cap1 B w H0.out hl0 HZ0.out H1.out hl1 HZ1.out)
  by_cases hin : 0 ≤ most ∧ most < (A.length : Int)
  rotate_left
  · have HO := Lib.hid (Sout.out hin)
    by_cases h7 : most < 0
    all_goals
      go_enter Try.func31, Try.ntmps31
      go_wp2_with fail
      refine HAG.out.mono ?_
      rintro e w1 ⟨bb, hbb, rfl, hb⟩
      have HB1 := Lib.hid hb
      clear hb hbb
      cases bb
    · go_wp2_with fail
      go_ret3
      rw [HO.out]
      exact ⟨_, _, rfl, rfl, Is32.c (by decide), HB1.out⟩
    · go_wp2_with fail
      go_ret3
      rw [HO.out]
      exact ⟨_, _, rfl, rfl, Is32.c (by decide), HB1.out⟩
    · go_wp2_with fail
      go_ret3
      rw [HO.out]
      exact ⟨_, _, rfl, rfl, Is32.c (by decide), HB1.out⟩
    · have h8 : most ≥ (A.length : Int) := by omega
      go_wp2_with fail
      go_ret3
      rw [HO.out]
      exact ⟨_, _, rfl, rfl, Is32.c (by decide), HB1.out⟩
  go_enter Try.func31, Try.ntmps31
  go_wp2_with fail
  refine HAG.out.mono ?_
  rintro e w1 ⟨bb, hbb, rfl, hb⟩
  have HB1 := Lib.hid hb
  have Hbb := Lib.hid hbb
  have H0' := Lib.hid (H0.out.below hb (Nat.le_refl _))
  have H1' := Lib.hid (H1.out.below hb (Nat.le_refl _))
  clear hb hbb HAG
  cases bb
  · go_wp2_with fail
    go_ret3
    rw [Sno.out Hbb.out]
    exact ⟨_, _, rfl, rfl, Is32.c (by decide), HB1.out⟩
  obtain ⟨hg0, hg1, hlen⟩ := HBp.out Hbb.out
  have h128 := gauB_len hg1
  have hp1 := gauB_pos hg1
  clear hg0 hg1 HBp
  have hR := Sgo.out Hbb.out hin
  obtain ⟨M, hM⟩ : ∃ M : Nat, most = (M : Int) := ⟨most.toNat, by omega⟩
  subst hM
  obtain ⟨b0, o0, ha0⟩ := RowF.some9 H0'.out (by omega)
  obtain ⟨b1, o1, ha1⟩ := RowF.some9 H1'.out (by omega)
  subst ha0 ha1
  obtain ⟨n, hn⟩ : ∃ n, B.length = n := ⟨_, rfl⟩
  rw [hn] at hlen h128 hp1 hl1 hc1 ⊢
  rw [hlen] at hin hR hl0 hc0 ⊢
  have HA := Lib.hid hlen
  have HBn := Lib.hid hn
  clear hlen hn
  have hMn : M < n := by omega
  clear hin
  rw [Int.toNat_natCast] at hR
  have HR : Hid (R = lagF (lagUp A B n M)) := Lib.hid hR
  clear hR
  have h10 : (0 : Int) ≤ (M : Int) := by omega
  have h11 : ¬ (M : Int) < 0 := by omega
  have h12 : ¬ (M : Int) ≥ (n : Int) := by omega
  go_wp2_with fail
  refine (lagMean_at b0 o0 b1 o1 n cap0 cap1 0 _ rfl A B _ HA.out HBn.out H0'.out H1'.out (by omega) (by omega) (by omega) (by omega)).mono ?_
  rintro e w2 ⟨x0, rfl, hx0, n2, rfl⟩
  have HX0 := Lib.hid hx0
  clear hx0
  go_wp2_with fail
  go_loopw [9, 10, 11] (fun bv xv kv wr => ∃ j q x : Nat, j ≤ M ∧ kv = .int .i64 ((j : Int) + 1) ∧ bv = .int .i64 (lagUp A B n j).b ∧ xv = .float .f32 x ∧ Hid (Is32 (lagUp A B n j).x x) ∧ wr = w1.drewN q) (fun _ _ kv _ => M + 1 - (intOf kv).toNat)
  case atStart => exact ⟨0, n2, x0, Nat.zero_le _, by go_num, rfl, rfl, HX0, rfl⟩
  case round =>
    obtain ⟨j, q, x, hj, rfl, rfl, rfl, HXk, rfl⟩ := hrel
    by_cases hlt : j < M
    · have hle : (j : Int) + 1 ≤ (M : Int) := by omega
      have hst : Hid (lagUp A B n (j + 1) = if fcmp .gtr .f32 (lagM A B n (j + 1)) (lagUp A B n j).x then ⟨((j + 1 : Nat) : Int), lagM A B n (j + 1)⟩ else lagUp A B n j) := Lib.hid rfl
      have hcal := Lib.hid (lagMean_at b0 o0 b1 o1 n cap0 cap1 (j + 1) ((j : Int) + 1) (by omega) A B _ HA.out HBn.out (H0'.out.drewN q) (H1'.out.drewN q) (by omega) (by omega) (by omega) (by omega))
      generalize lagUp A B n j = t at *
      obtain ⟨tb, tx⟩ := t
      simp only at HXk ⊢
      generalize lagM A B n (j + 1) = Y at *
      go_wp2_with fail
      refine hcal.out.mono ?_
      rintro e w3 ⟨y, rfl, hy, n3, rfl⟩
      have hx9 := HXk.out
      go_wp2_with (first | ((with_reducible refine wpList_bin ?_); refine wpList_c32 rfl _ _ _ _ _ rfl rfl rfl (by decide) (by first | assumption | exact Is32.c (by decide)) (by first | assumption | exact Is32.c (by decide)) ?_; intro bb hbb; cases bb))
      all_goals
        go_roundw
        case rel => exact ⟨j + 1, _, _, by omega, by go_num, by (rw [hst.out, hbb]; first | rfl | (simp only [if_true]; congr 1; omega) | (simp; done)), rfl, Lib.hid (by (rw [hst.out, hbb]; first | exact hy | exact hx9)), by first | rfl | exact World.drewN_drewN _ _ _⟩
        case measure => simp [intOf]; omega
    · obtain rfl : j = M := by omega
      have hle : ¬ (j : Int) + 1 ≤ (j : Int) := by omega
      have hle2 : ((j : Int) + 1 ≤ (j : Int)) = False := eq_false hle
      generalize lagUp A B n j = t at *
      obtain ⟨tb, tx⟩ := t
      simp only at HXk ⊢
      have hx9 := HXk.out
      go_wp2_with fail
      refine (isFin_o _ hx9).mono ?_
      rintro e w' ⟨bb, hbb, rfl, rfl⟩
      have Hf := Lib.hid hbb
      clear hbb
      cases bb
      · go_wp2_with fail
        go_ret3
        rw [HR.out]
        unfold lagF
        rw [Hf.out]
        exact ⟨_, _, rfl, rfl, Is32.c (by decide), (by first | exact beld HB1.out _ | exact beld (beld HB1.out _) _)⟩
      · go_wp2_with fail
        go_ret3
        rw [HR.out]
        unfold lagF
        rw [Hf.out]
        exact ⟨_, _, rfl, rfl, hx9, (by first | exact beld HB1.out _ | exact beld (beld HB1.out _) _)⟩

end Go.Proofs.Ytdmcjloaommnpaa
