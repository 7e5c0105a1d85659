/- The longest dry run: the program and its model alike. -/
import Derived.Test.YtfdijbghikeddaaIsRain
namespace Go.Proofs.Ytfdijbghikeddaa
open Go.RowKit Go.Proofs
set_option linter.unusedVariables false
set_option linter.unusedSimpArgs false

/-- Where the longest run begins, how long it is, and how long the last one is. -/
structure DrySt where
  b : Int
  m : Int
  n : Int
def dryStep (d : Bool) (s : DrySt) (k : Nat) : DrySt := if d then (if s.m < s.n + 1 then ⟨(k : Int) + 1 - (s.n + 1), s.n + 1, s.n + 1⟩ else ⟨s.b, s.m, s.n + 1⟩) else ⟨s.b, s.m, 0⟩
def dryUp (lv : Option Nat) (zs : List Nat) : Nat → DrySt
  | 0 => ⟨0, 0, 0⟩
  | k + 1 => dryStep (fcmp .leq .f32 (some (zs.getD k 0)) lv) (dryUp lv zs k) k
theorem dryUp_bd (lv : Option Nat) (zs : List Nat) : ∀ k, 0 ≤ (dryUp lv zs k).b ∧ (dryUp lv zs k).b ≤ k ∧ 0 ≤ (dryUp lv zs k).m ∧ (dryUp lv zs k).m ≤ k ∧ 0 ≤ (dryUp lv zs k).n ∧ (dryUp lv zs k).n ≤ k
  | 0 => by simp [dryUp]
  | k + 1 => by
    have := dryUp_bd lv zs k
    simp only [dryUp, dryStep]
    generalize dryUp lv zs k = s at *
    split
    · split <;> simp only <;> omega
    · simp only; omega
theorem dryUp_mn (lv : Option Nat) (zs : List Nat) : ∀ k, (dryUp lv zs k).n ≤ (dryUp lv zs k).m
  | 0 => by simp [dryUp]
  | k + 1 => by
    have := dryUp_mn lv zs k
    have h := dryUp_bd lv zs k
    simp only [dryUp, dryStep]
    generalize dryUp lv zs k = s at *
    split
    · split <;> simp only <;> omega
    · simp only; omega
structure DryR where
  b : Int
  m : Int
  ok : Bool
def dryO (zs : List Nat) (lv : Option Nat) : DryR := if rainB zs then ⟨(dryUp lv zs zs.length).b, (dryUp lv zs zs.length).m, true⟩ else ⟨0, 0, false⟩
def DryB (r : DryR) (w : World) (e : Ending) (w' : World) : Prop := ∃ b, e = .returned (.tuple #[.int .i64 r.b, .int .i64 r.m, .bool b]) ∧ r.ok = b ∧ Below w.heap.size w w'
theorem rainB_len {zs : List Nat} (h : rainB zs = true) : zs.length ≤ 128 := by
  have := (Bool.and_eq_true_iff.1 h).1
  exact of_decide_eq_true this

set_option maxHeartbeats 4000000 in
theorem dryRun_i {LV : Option Nat} {lv : Nat} (a : Option Addr) (cap : Nat) (zs : List Nat) (w : World) (h : RowF .f32 w a zs) (hl : zs.length ≤ 1048576) (hz : ∀ z ∈ zs, z < 4294967296) (hlv : Is32 LV lv) :
    Calls Try.prog 33 #[.slice a zs.length cap, .float .f32 lv] w (DryB (dryO zs LV) w) := by
  have Hr := Lib.hid (isRain_i a cap zs w h hl hz)
  have H := Lib.hid h
  have Hz := Lib.hid hz
  clear h hz
  unfold dryO
  cases hv : rainB zs
  · rw [hv] at Hr
    clear hv
    go_enter Try.func33, Try.ntmps33
    go_wp2_with fail
    refine Hr.out.mono ?_
    rintro e w1 ⟨bb, hbb, rfl, hb⟩
    have Hb := Lib.hid hb
    subst hbb
    clear hb
    go_wp2_with fail
    go_ret3
    exact ⟨_, rfl, rfl, Hb.out⟩
  · have h128 := rainB_len hv
    rw [hv] at Hr
    clear hv
    obtain ⟨len, hlen⟩ : ∃ len, zs.length = len := ⟨_, rfl⟩
    rw [hlen] at hl h128 ⊢
    rw [hlen] at Hr
    have Hlen := Lib.hid hlen
    clear hlen
    go_enter Try.func33, Try.ntmps33
    go_wp2_with fail
    refine Hr.out.mono ?_
    rintro e w1 ⟨bb, hbb, rfl, hb⟩
    have Hb := Lib.hid hb
    have Hc := Lib.hid (H.out.below hb (Nat.le_refl _)).cells
    subst hbb
    clear hb
    go_wp2_with fail
    go_loop [7, 8, 9, 17] (fun b m n i => ∃ k : Nat, k ≤ len ∧ i = .int .i64 k ∧ b = .int .i64 (dryUp LV zs k).b ∧ m = .int .i64 (dryUp LV zs k).m ∧ n = .int .i64 (dryUp LV zs k).n) (fun _ _ _ i => len - (intOf i).toNat)
    case atStart => exact ⟨0, Nat.zero_le _, rfl, rfl, rfl, rfl⟩
    case round =>
      obtain ⟨k, hk, rfl, rfl, rfl, rfl⟩ := hrel
      have hbd := dryUp_bd LV zs k
      have hmn := dryUp_mn LV zs k
      by_cases hlt : k < len
      · obtain ⟨b, off, rfl, hc1⟩ := Hc.out k (by rw [Hlen.out]; exact hlt)
        have hzk : Is32 (some (zs.getD k 0)) (zs.getD k 0) := Is32.c (by
          rw [List.getD_eq_getElem?_getD, List.getElem?_eq_getElem (by rw [Hlen.out]; exact hlt)]
          exact Hz.out _ (List.getElem_mem _))
        have hst : Hid (dryUp LV zs (k + 1) = dryStep (fcmp .leq .f32 (some (zs.getD k 0)) LV) (dryUp LV zs k) k) := Lib.hid rfl
        generalize dryUp LV zs k = s at *
        obtain ⟨s0, s1, s2⟩ := s
        simp only at hbd hmn ⊢
        generalize zs.getD k 0 = z at *
        obtain ⟨q1, q2, q3, q4, q5, q6⟩ := hbd
        go_wp2_with (first | ((with_reducible refine wpList_bin ?_); refine wpList_c32 rfl _ _ _ _ _ rfl rfl rfl (by decide) (by first | assumption | exact Is32.c (by decide)) (by first | assumption | exact Is32.c (by decide)) ?_; intro bb hbb; cases bb))
        all_goals
          go_round
          case rel => exact ⟨k + 1, by omega, by go_num, by (rw [hst.out]; unfold dryStep; (first | rw [if_pos hbb] | rw [if_neg (by rw [hbb]; decide)]); all_goals (first | rfl | (split <;> first | rfl | (exfalso; simp at *; omega) | (simp; omega)))), by (rw [hst.out]; unfold dryStep; (first | rw [if_pos hbb] | rw [if_neg (by rw [hbb]; decide)]); all_goals (first | rfl | (split <;> first | rfl | (exfalso; simp at *; omega) | (simp; omega)))), by (rw [hst.out]; unfold dryStep; (first | rw [if_pos hbb] | rw [if_neg (by rw [hbb]; decide)]); all_goals (first | rfl | (split <;> first | rfl | (exfalso; simp at *; omega) | (simp; omega))))⟩
          case measure => simp [intOf]; omega
      · obtain rfl : k = len := by omega
        go_wp2_with fail
        go_ret3
        exact ⟨_, rfl, rfl, Hb.out⟩

set_option maxHeartbeats 4000000 in
theorem dryRun_s {LV : Option Nat} {lv : Nat} (a : Option Addr) (cap : Nat) (zs : List Nat) (w : World) (h : RowF .f32 w a zs) (hl : zs.length ≤ 1048576) (hz : ∀ z ∈ zs, z < 4294967296) (hlv : Is32 LV lv) :
    Calls Try.prog 32 #[.slice a zs.length cap, .float .f32 lv] w (DryB (dryO zs LV) w) := by
  have Hr := Lib.hid (l03IsRain_o a cap zs w h hl hz)
  have Hc := Lib.hid h.cells
  have Hz := Lib.hid hz
  clear h hz
  unfold dryO
  cases hv : rainB zs
  · rw [hv] at Hr
    clear hv
    go_enter Try.func32, Try.ntmps32
    go_wp2_with fail
    refine Hr.out.mono ?_
    rintro e w1 ⟨bb, hbb, rfl, n1, rfl⟩
    subst hbb
    go_wp2_with fail
    go_ret3
    exact ⟨_, rfl, rfl, beld (Below.refl _ _) _⟩
  · have h128 := rainB_len hv
    rw [hv] at Hr
    clear hv
    obtain ⟨len, hlen⟩ : ∃ len, zs.length = len := ⟨_, rfl⟩
    rw [hlen] at hl h128 ⊢
    rw [hlen] at Hr
    have Hlen := Lib.hid hlen
    clear hlen
    go_enter Try.func32, Try.ntmps32
    go_wp2_with fail
    refine Hr.out.mono ?_
    rintro e w1 ⟨bb, hbb, rfl, n1, rfl⟩
    subst hbb
    go_wp2_with fail
    go_loop [7, 8, 9, 16] (fun b m n i => ∃ k : Nat, k ≤ len ∧ i = .int .i64 k ∧ b = .int .i64 (dryUp LV zs k).b ∧ m = .int .i64 (dryUp LV zs k).m ∧ n = .int .i64 (dryUp LV zs k).n) (fun _ _ _ i => len - (intOf i).toNat)
    case atStart => exact ⟨0, Nat.zero_le _, rfl, rfl, rfl, rfl⟩
    case round =>
      obtain ⟨k, hk, rfl, rfl, rfl, rfl⟩ := hrel
      have hbd := dryUp_bd LV zs k
      by_cases hlt : k < len
      · obtain ⟨b, off, rfl, hc1⟩ := Hc.out k (by rw [Hlen.out]; exact hlt)
        have hzk : Is32 (some (zs.getD k 0)) (zs.getD k 0) := Is32.c (by
          rw [List.getD_eq_getElem?_getD, List.getElem?_eq_getElem (by rw [Hlen.out]; exact hlt)]
          exact Hz.out _ (List.getElem_mem _))
        have hst : Hid (dryUp LV zs (k + 1) = dryStep (fcmp .leq .f32 (some (zs.getD k 0)) LV) (dryUp LV zs k) k) := Lib.hid rfl
        generalize dryUp LV zs k = s at *
        obtain ⟨s0, s1, s2⟩ := s
        simp only at hbd ⊢
        generalize zs.getD k 0 = z at *
        obtain ⟨q1, q2, q3, q4, q5, q6⟩ := hbd
        have hk0 : (0 : Int) ≤ (k : Int) := by omega
        have hk1 : (k : Int) < (len : Int) := by omega
        go_wp2_with (first | ((with_reducible refine wpList_bin ?_); refine wpList_c32 rfl _ _ _ _ _ rfl rfl rfl (by decide) (by first | assumption | exact Is32.c (by decide)) (by first | assumption | exact Is32.c (by decide)) ?_; intro bb hbb; cases bb))
        all_goals
          go_round
          case rel => exact ⟨k + 1, by omega, by go_num, by (rw [hst.out]; unfold dryStep; (first | rw [if_pos hbb] | rw [if_neg (by rw [hbb]; decide)]); all_goals (first | rfl | (split <;> first | rfl | (exfalso; simp at *; omega) | (simp; omega)))), by (rw [hst.out]; unfold dryStep; (first | rw [if_pos hbb] | rw [if_neg (by rw [hbb]; decide)]); all_goals (first | rfl | (split <;> first | rfl | (exfalso; simp at *; omega) | (simp; omega)))), by (rw [hst.out]; unfold dryStep; (first | rw [if_pos hbb] | rw [if_neg (by rw [hbb]; decide)]); all_goals (first | rfl | (split <;> first | rfl | (exfalso; simp at *; omega) | (simp; omega))))⟩
          case measure => simp [intOf]; omega
      · obtain rfl : k = len := by omega
        go_wp2_with fail
        go_ret3
        exact ⟨_, rfl, rfl, beld (Below.refl _ _) _⟩
end Go.Proofs.Ytfdijbghikeddaa
