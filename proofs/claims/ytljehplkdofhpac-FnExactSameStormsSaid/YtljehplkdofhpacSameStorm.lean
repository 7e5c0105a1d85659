/- Lists of Storms that are the same. -/
import Derived.Test.YtljehplkdofhpacStormL
import Derived.Test.YtljehplkdofhpacSameI
import Derived.Test.YtljehplkdofhpacRainA
import Derived.StillTailTactics
import Derived.Deep.Cut
import Derived.Deep.QuietTactic
import Derived.BigQuiet
namespace Go.Proofs.Ytljehplkdofhpac
open Go.RowKit
set_option linter.unusedVariables false
set_option linter.unusedSimpArgs false
set_option maxRecDepth 100000
attribute [local irreducible] wpV wpList Code.wp

def sameFl (zs ys : List Nat) : Bool := decide (zs.length = ys.length) && (List.range zs.length).all (fun j => eqI (zs.getD j 0) (ys.getD j 0))
theorem sameFl_len {zs ys : List Nat} (h : ¬ zs.length = ys.length) : sameFl zs ys = false := by unfold sameFl; rw [decide_eq_false h]; rfl
theorem sameFl_no {zs ys : List Nat} {k : Nat} (hk : k < zs.length) (h : eqI (zs.getD k 0) (ys.getD k 0) = false) : sameFl zs ys = false := by
  unfold sameFl
  have : (List.range zs.length).all (fun j => eqI (zs.getD j 0) (ys.getD j 0)) = false := by
    rw [List.all_eq_false]
    exact ⟨k, List.mem_range.2 hk, by rw [h]; decide⟩
  rw [this, Bool.and_false]
theorem sameFl_yes {zs ys : List Nat} (hl : zs.length = ys.length) (h : ∀ j, j < zs.length → eqI (zs.getD j 0) (ys.getD j 0) = true) : sameFl zs ys = true := by
  unfold sameFl
  rw [decide_eq_true hl, Bool.true_and, List.all_eq_true]
  exact fun j hj => h j (List.mem_range.1 hj)
theorem sameNumber_o (x y : Nat) (w : World) (h1 : x < 4294967296) (h2 : y < 4294967296) : Calls Try.prog 97 #[.float .f32 x, .float .f32 y] w (SayS (eqI x y) w) := by
  go_enter Try.func97, Try.ntmps97
  go_wp2_with fail
  refine (bits_no x _ h1 _ (.inr rfl)).mono ?_; rintro e w' ⟨rfl, rfl⟩
  go_wp2_with fail
  refine (bits_no y _ h2 _ (.inr rfl)).mono ?_; rintro e w' ⟨rfl, rfl⟩
  go_wp2_with fail
  go_ret
  exact ⟨_, rfl, rfl, rfl⟩
set_option maxHeartbeats 4000000 in
theorem bitsOfStorm_any (a0 a1 a2 a3 : Nat) (ha0 : a0 < 4294967296) (ha1 : a1 < 4294967296) (ha2 : a2 < 4294967296) (ha3 : a3 < 4294967296) (w : World) :
    Calls Try.prog 108 #[.agg #[.float .f32 a0, .float .f32 a1, .float .f32 a2, .float .f32 a3]] w fun e w' => e = .returned (.agg #[.int .i64 (bitsI a0), .int .i64 (bitsI a1), .int .i64 (bitsI a2), .int .i64 (bitsI a3), .int .i64 0]) ∧ Below w.heap.size w w' := by
  go_enter Try.func108, Try.ntmps108
  go_wp2_with fail
  refine wp_region_still_tail 13 (by kernel_rfl) (by kernel_rfl) ?_
  simp only [List.take_succ_cons, List.take_zero, List.drop_succ_cons, List.drop_zero]
  change wpStill _ _ (World.drew _) (fun a' => wpList _ _ _ _ a' (World.drew _)) _ _
  repeat (first | still_call ((ibits_any _ _ (by assumption)).mono fun _ _ h => ⟨h.1, h.2.symm⟩) | still_step)
  refine wpStill_nil ?_
  go_wp2_with fail
  refine bodyPost_ret (v := .agg #[.int .i64 (bitsI a0), .int .i64 (bitsI a1), .int .i64 (bitsI a2), .int .i64 (bitsI a3), .int .i64 0]) (by simp [results, Try.results108, go_sem]) rfl ⟨rfl, ?_⟩
  repeat (first | exact bel2 _ _ _ | exact beld (bel2 _ _ _) 1 | refine Below.setCell ?_ (by first | (simp; done) | (simp; omega)) _)

set_option maxHeartbeats 4000000 in
theorem isSameStorm_n (a0 a1 a2 a3 c0 c1 c2 c3 : Nat) (ha0 : a0 < 4294967296) (ha1 : a1 < 4294967296) (ha2 : a2 < 4294967296) (ha3 : a3 < 4294967296) (hc0 : c0 < 4294967296) (hc1 : c1 < 4294967296) (hc2 : c2 < 4294967296) (hc3 : c3 < 4294967296) (w : World) :
    Calls Try.prog 107 #[.agg #[.float .f32 a0, .float .f32 a1, .float .f32 a2, .float .f32 a3], .agg #[.float .f32 c0, .float .f32 c1, .float .f32 c2, .float .f32 c3]] w (SayB (eqI a0 c0 && eqI a1 c1 && eqI a2 c2 && eqI a3 c3) w) := by
  go_enter Try.func107, Try.ntmps107
  go_wp2_with fail
  refine wp_region_B (vmap [(1, fun u => u = .agg #[.int .i64 (bitsI a0), .int .i64 (bitsI a1), .int .i64 (bitsI a2), .int .i64 (bitsI a3), .int .i64 0]), (3, fun u => u = .agg #[.int .i64 (bitsI c0), .int .i64 (bitsI c1), .int .i64 (bitsI c2), .int .i64 (bitsI c3), .int .i64 0])]) (by kernel_rfl) (by kernel_rfl) ?_
  refine wpV_none 1 rfl (v := .agg #[.float .f32 a0, .float .f32 a1, .float .f32 a2, .float .f32 a3]) rfl (fun w' hw' => ?_) rfl ?_
  · have bx : Bx w' (w.heap.size) [.float .f32 a0, .float .f32 a1, .float .f32 a2, .float .f32 a3] := by
      refine Bx.below ?_ hw' (by first | (simp; done) | (simp; omega))
      exact Bx.alloc (Bx.new _ _ _) _
    have k0 := bx.c 0 rfl
    have k1 := bx.c 1 rfl
    have k2 := bx.c 2 rfl
    have k3 := bx.c 3 rfl
    clear bx hw'
    go_simp
  go_simp
  refine wpV_callB 2 rfl rfl (run_call1 rfl (enters_of Try.func108 (by kernel_rfl) rfl) rfl) (fun w' hw' => (bitsOfStorm_any _ _ _ _ (by assumption) (by assumption) (by assumption) (by assumption) w').mono fun e w'' h => ⟨h.1, hw'.trans (h.2.mono (by have hz := hw'.size; simpa using hz))⟩) rfl ?_
  go_simp
  refine wpV_none 3 rfl (v := .agg #[.float .f32 c0, .float .f32 c1, .float .f32 c2, .float .f32 c3]) rfl (fun w' hw' => ?_) rfl ?_
  · have bx : Bx w' (w.heap.size + 1) [.float .f32 c0, .float .f32 c1, .float .f32 c2, .float .f32 c3] := by
      refine Bx.below ?_ hw' (by first | (simp; done) | (simp; omega))
      have hsz : w.heap.size + 1 = (w.alloc (.cells #[.float .f32 a0, .float .f32 a1, .float .f32 a2, .float .f32 a3] 127)).heap.size := by simp
      rw [hsz]
      exact Bx.new _ _ _
    have k0 := bx.c 0 rfl
    have k1 := bx.c 1 rfl
    have k2 := bx.c 2 rfl
    have k3 := bx.c 3 rfl
    clear bx hw'
    go_simp
  go_simp
  refine wpV_callB 4 rfl rfl (run_call1 rfl (enters_of Try.func108 (by kernel_rfl) rfl) rfl) (fun w' hw' => (bitsOfStorm_any _ _ _ _ (by assumption) (by assumption) (by assumption) (by assumption) w').mono fun e w'' h => ⟨h.1, hw'.trans (h.2.mono (by have hz := hw'.size; simpa using hz))⟩) rfl ?_
  go_simp
  refine wpV_none 5 rfl (v := .bool (eqI a0 c0 && eqI a1 c1 && eqI a2 c2 && eqI a3 c3)) rfl (fun w' hw' => ?_) rfl ?_
  · clear hw'
    go_simp
    unfold eqI
    by_cases e0 : bitsI a0 = bitsI c0
    all_goals by_cases e1 : bitsI a1 = bitsI c1
    all_goals by_cases e2 : bitsI a2 = bitsI c2
    all_goals by_cases e3 : bitsI a3 = bitsI c3
    all_goals simp [e0, e1, e2, e3]
  go_simp
  refine wpV_none 6 rfl (v := .bool (eqI a0 c0 && eqI a1 c1 && eqI a2 c2 && eqI a3 c3)) rfl (fun w' hw' => ?_) rfl ?_
  · clear hw'
    go_simp
  go_simp
  refine wpV_nil ?_
  intro w' hw'
  go_wp2_with fail
  go_ret
  exact ⟨_, rfl, rfl, (bel2 w _ _).trans (hw'.mono (by first | omega | (simp; done) | (simp; omega)))⟩

theorem isSame_any (x0 x1 x2 x3 y0 y1 y2 y3 : Nat) (w : World) (hx0 : x0 < 4294967296) (hy0 : y0 < 4294967296) (hx1 : x1 < 4294967296) (hy1 : y1 < 4294967296) (hx2 : x2 < 4294967296) (hy2 : y2 < 4294967296) (hx3 : x3 < 4294967296) (hy3 : y3 < 4294967296) : Calls Try.prog 107 #[.agg #[.float .f32 x0, .float .f32 x1, .float .f32 x2, .float .f32 x3], .agg #[.float .f32 y0, .float .f32 y1, .float .f32 y2, .float .f32 y3]] w fun e w' => e = .returned (.bool (eqI x0 y0 && eqI x1 y1 && eqI x2 y2 && eqI x3 y3)) ∧ Below w.heap.size w w' :=
  (isSameStorm_n x0 x1 x2 x3 y0 y1 y2 y3 hx0 hx1 hx2 hx3 hy0 hy1 hy2 hy3 w).mono (by rintro e w' ⟨b, h1, h2, h3⟩; rw [h1]; exact ⟨h2, h3⟩)

set_option maxHeartbeats 16000000 in
theorem sameStorm_s (a e : Option Addr) (c d n m : Nat) (M N : List Nat) (w : World) (ha : RowC w a (fc M)) (he : RowC w e (fc N)) (hM : M.length = n * 4) (hN : N.length = m * 4) (hl : n ≤ 1048576) (hl2 : m ≤ 1048576) (hzM : ∀ z ∈ M, z < 4294967296) (hzN : ∀ z ∈ N, z < 4294967296) :
    Calls Try.prog 47 #[.slice a n c, .slice e m d] w (fun e w' => e = .returned (.bool (sameFl M N)) ∧ Below w.heap.size w w') := by
  obtain ⟨v, hv⟩ : ∃ v, sameFl M N = v := ⟨_, rfl⟩
  rw [hv]
  have HV := Lib.hid hv
  clear hv
  have HM := Lib.hid hM
  have HN := Lib.hid hN
  have HA := Lib.hid ha
  have HE := Lib.hid he
  have HZM := Lib.hid hzM
  have HZN := Lib.hid hzN
  clear hM hN ha he hzM hzN
  by_cases hne : n = m
  · subst hne
    go_enter Try.func47, Try.ntmps47
    go_wp2_with fail
    go_loopw [13] (fun iv wr => ∃ k : Nat, k ≤ n ∧ iv = .int .i64 k ∧ Hid (∀ j, j < k * 4 → eqI (M.getD j 0) (N.getD j 0) = true) ∧ Hid (Below w.heap.size w wr)) (fun iv _ => n - (intOf iv).toNat)
    case atStart => exact ⟨0, Nat.zero_le _, rfl, Lib.hid (fun j hj => by omega), Lib.hid (Below.refl _ _)⟩
    case round =>
      obtain ⟨k, hk, rfl, HJ, HBk⟩ := hrel
      have hk0 : (0 : Int) ≤ (k : Int) := by omega
      by_cases hlt : k < n
      · have hk1 : (k : Int) < (n : Int) := by omega
        obtain ⟨bu, ou, rfl, hbzbu, hcbu⟩ : ∃ b o, a = some ⟨b, o, none⟩ ∧ b < w.heap.size ∧ ∀ i, i < M.length → w.cell? ⟨b, o + i, none⟩ = some (.float .f32 (M.getD i 0)) := by
          rcases HA.out.flos with h | h
          · have h9 := HM.out; rw [h, List.length_nil] at h9; omega
          · exact h
        obtain ⟨bv, ov, rfl, hbzbv, hcbv⟩ : ∃ b o, e = some ⟨b, o, none⟩ ∧ b < w.heap.size ∧ ∀ i, i < N.length → w.cell? ⟨b, o + i, none⟩ = some (.float .f32 (N.getD i 0)) := by
          rcases HE.out.flos with h | h
          · have h9 := HN.out; rw [h, List.length_nil] at h9; omega
          · exact h
        have xc0 : wr.cell? ⟨bu, ou + k * 4, none⟩ = some (.float .f32 (M.getD (k * 4) 0)) := (HBk.out.cell (p := ⟨bu, ou + k * 4, none⟩) hbzbu).trans (hcbu (k * 4) (by have := HM.out; omega))
        have xc1 : wr.cell? ⟨bu, ou + k * 4 + 1, none⟩ = some (.float .f32 (M.getD (k * 4 + 1) 0)) := (HBk.out.cell (p := ⟨bu, ou + k * 4 + 1, none⟩) hbzbu).trans (hcbu (k * 4 + 1) (by have := HM.out; omega))
        have xc2 : wr.cell? ⟨bu, ou + k * 4 + 2, none⟩ = some (.float .f32 (M.getD (k * 4 + 2) 0)) := (HBk.out.cell (p := ⟨bu, ou + k * 4 + 2, none⟩) hbzbu).trans (hcbu (k * 4 + 2) (by have := HM.out; omega))
        have xc3 : wr.cell? ⟨bu, ou + k * 4 + 3, none⟩ = some (.float .f32 (M.getD (k * 4 + 3) 0)) := (HBk.out.cell (p := ⟨bu, ou + k * 4 + 3, none⟩) hbzbu).trans (hcbu (k * 4 + 3) (by have := HM.out; omega))
        have yc0 : wr.cell? ⟨bv, ov + k * 4, none⟩ = some (.float .f32 (N.getD (k * 4) 0)) := (HBk.out.cell (p := ⟨bv, ov + k * 4, none⟩) hbzbv).trans (hcbv (k * 4) (by have := HN.out; omega))
        have yc1 : wr.cell? ⟨bv, ov + k * 4 + 1, none⟩ = some (.float .f32 (N.getD (k * 4 + 1) 0)) := (HBk.out.cell (p := ⟨bv, ov + k * 4 + 1, none⟩) hbzbv).trans (hcbv (k * 4 + 1) (by have := HN.out; omega))
        have yc2 : wr.cell? ⟨bv, ov + k * 4 + 2, none⟩ = some (.float .f32 (N.getD (k * 4 + 2) 0)) := (HBk.out.cell (p := ⟨bv, ov + k * 4 + 2, none⟩) hbzbv).trans (hcbv (k * 4 + 2) (by have := HN.out; omega))
        have yc3 : wr.cell? ⟨bv, ov + k * 4 + 3, none⟩ = some (.float .f32 (N.getD (k * 4 + 3) 0)) := (HBk.out.cell (p := ⟨bv, ov + k * 4 + 3, none⟩) hbzbv).trans (hcbv (k * 4 + 3) (by have := HN.out; omega))
        obtain ⟨x0, hx0⟩ : ∃ z, M.getD (k * 4) 0 = z := ⟨_, rfl⟩
        obtain ⟨y0, hy0⟩ : ∃ z, N.getD (k * 4) 0 = z := ⟨_, rfl⟩
        have lx0 : x0 < 4294967296 := by rw [← hx0]; exact getD_lt HZM.out _
        have ly0 : y0 < 4294967296 := by rw [← hy0]; exact getD_lt HZN.out _
        rw [hx0] at xc0
        rw [hy0] at yc0
        have Hx0 := Lib.hid hx0
        have Hy0 := Lib.hid hy0
        clear hx0 hy0
        obtain ⟨x1, hx1⟩ : ∃ z, M.getD (k * 4 + 1) 0 = z := ⟨_, rfl⟩
        obtain ⟨y1, hy1⟩ : ∃ z, N.getD (k * 4 + 1) 0 = z := ⟨_, rfl⟩
        have lx1 : x1 < 4294967296 := by rw [← hx1]; exact getD_lt HZM.out _
        have ly1 : y1 < 4294967296 := by rw [← hy1]; exact getD_lt HZN.out _
        rw [hx1] at xc1
        rw [hy1] at yc1
        have Hx1 := Lib.hid hx1
        have Hy1 := Lib.hid hy1
        clear hx1 hy1
        obtain ⟨x2, hx2⟩ : ∃ z, M.getD (k * 4 + 2) 0 = z := ⟨_, rfl⟩
        obtain ⟨y2, hy2⟩ : ∃ z, N.getD (k * 4 + 2) 0 = z := ⟨_, rfl⟩
        have lx2 : x2 < 4294967296 := by rw [← hx2]; exact getD_lt HZM.out _
        have ly2 : y2 < 4294967296 := by rw [← hy2]; exact getD_lt HZN.out _
        rw [hx2] at xc2
        rw [hy2] at yc2
        have Hx2 := Lib.hid hx2
        have Hy2 := Lib.hid hy2
        clear hx2 hy2
        obtain ⟨x3, hx3⟩ : ∃ z, M.getD (k * 4 + 3) 0 = z := ⟨_, rfl⟩
        obtain ⟨y3, hy3⟩ : ∃ z, N.getD (k * 4 + 3) 0 = z := ⟨_, rfl⟩
        have lx3 : x3 < 4294967296 := by rw [← hx3]; exact getD_lt HZM.out _
        have ly3 : y3 < 4294967296 := by rw [← hy3]; exact getD_lt HZN.out _
        rw [hx3] at xc3
        rw [hy3] at yc3
        have Hx3 := Lib.hid hx3
        have Hy3 := Lib.hid hy3
        clear hx3 hy3
        have Hcu := Lib.hid hcbu; have Hcv := Lib.hid hcbv; clear hcbu hcbv
        have HC0 : Hid (∀ b, eqI x0 y0 = b → ∀ q, Calls Try.prog 100 #[.float .f32 x0, .float .f32 y0] (wr.drewN q) fun en w' => en = .returned (.bool b) ∧ ∃ m, w' = (wr.drewN q).drewN m) := Lib.hid fun b hb q => (l01Same_o (wr.drewN q) (Is32.c lx0) (Is32.c ly0)).mono (by rintro en w' ⟨b', h1, rfl, rfl⟩; rw [h1] at hb; subst hb; exact ⟨rfl, 0, rfl⟩)
        have HC1 : Hid (∀ b, eqI x1 y1 = b → ∀ q, Calls Try.prog 100 #[.float .f32 x1, .float .f32 y1] (wr.drewN q) fun en w' => en = .returned (.bool b) ∧ ∃ m, w' = (wr.drewN q).drewN m) := Lib.hid fun b hb q => (l01Same_o (wr.drewN q) (Is32.c lx1) (Is32.c ly1)).mono (by rintro en w' ⟨b', h1, rfl, rfl⟩; rw [h1] at hb; subst hb; exact ⟨rfl, 0, rfl⟩)
        have HC2 : Hid (∀ b, eqI x2 y2 = b → ∀ q, Calls Try.prog 100 #[.float .f32 x2, .float .f32 y2] (wr.drewN q) fun en w' => en = .returned (.bool b) ∧ ∃ m, w' = (wr.drewN q).drewN m) := Lib.hid fun b hb q => (l01Same_o (wr.drewN q) (Is32.c lx2) (Is32.c ly2)).mono (by rintro en w' ⟨b', h1, rfl, rfl⟩; rw [h1] at hb; subst hb; exact ⟨rfl, 0, rfl⟩)
        have HC3 : Hid (∀ b, eqI x3 y3 = b → ∀ q, Calls Try.prog 100 #[.float .f32 x3, .float .f32 y3] (wr.drewN q) fun en w' => en = .returned (.bool b) ∧ ∃ m, w' = (wr.drewN q).drewN m) := Lib.hid fun b hb q => (l01Same_o (wr.drewN q) (Is32.c lx3) (Is32.c ly3)).mono (by rintro en w' ⟨b', h1, rfl, rfl⟩; rw [h1] at hb; subst hb; exact ⟨rfl, 0, rfl⟩)
        cases e0 : eqI x0 y0
        case false =>
          have hvf : v = false := by rw [← HV.out]; exact sameFl_no (k := k * 4) (by have := HM.out; omega) (by rw [Hx0.out, Hy0.out]; exact e0)
          have HVF := Lib.hid hvf
          have HD0 := Lib.hid (HC0.out _ e0)
          clear hvf e0
          go_wp2_with fail
          go_quiet (first | (go_at_call 100; with_reducible exact Calls.quiet_of (HD0.out _)) | (go_at_call 100; with_reducible exact Calls.quiet_of (HD1.out _)) | (go_at_call 100; with_reducible exact Calls.quiet_of (HD2.out _)) | (go_at_call 100; with_reducible exact Calls.quiet_of (HD3.out _)))
          go_wp2_with fail
          go_ret
          rw [HVF.out]
          exact ⟨rfl, (by repeat (first | with_reducible exact HBk.out | with_reducible refine beld ?_ _ | (with_reducible refine Below.alloc ?_ ?_ _; rotate_left; exact (by first | (simp; done) | (simp; omega) | omega)) | (with_reducible refine Below.setCell ?_ ?_ _; rotate_left; exact (by first | (simp; done) | (simp; omega) | omega))))⟩
        have HD0 := Lib.hid (HC0.out _ e0)
        have E0 := Lib.hid e0
        clear e0
        cases e1 : eqI x1 y1
        case false =>
          have hvf : v = false := by rw [← HV.out]; exact sameFl_no (k := (k * 4 + 1)) (by have := HM.out; omega) (by rw [Hx1.out, Hy1.out]; exact e1)
          have HVF := Lib.hid hvf
          have HD1 := Lib.hid (HC1.out _ e1)
          clear hvf e1
          go_wp2_with fail
          go_quiet (first | (go_at_call 100; with_reducible exact Calls.quiet_of (HD0.out _)) | (go_at_call 100; with_reducible exact Calls.quiet_of (HD1.out _)) | (go_at_call 100; with_reducible exact Calls.quiet_of (HD2.out _)) | (go_at_call 100; with_reducible exact Calls.quiet_of (HD3.out _)))
          go_wp2_with fail
          go_ret
          rw [HVF.out]
          exact ⟨rfl, (by repeat (first | with_reducible exact HBk.out | with_reducible refine beld ?_ _ | (with_reducible refine Below.alloc ?_ ?_ _; rotate_left; exact (by first | (simp; done) | (simp; omega) | omega)) | (with_reducible refine Below.setCell ?_ ?_ _; rotate_left; exact (by first | (simp; done) | (simp; omega) | omega))))⟩
        have HD1 := Lib.hid (HC1.out _ e1)
        have E1 := Lib.hid e1
        clear e1
        cases e2 : eqI x2 y2
        case false =>
          have hvf : v = false := by rw [← HV.out]; exact sameFl_no (k := (k * 4 + 2)) (by have := HM.out; omega) (by rw [Hx2.out, Hy2.out]; exact e2)
          have HVF := Lib.hid hvf
          have HD2 := Lib.hid (HC2.out _ e2)
          clear hvf e2
          go_wp2_with fail
          go_quiet (first | (go_at_call 100; with_reducible exact Calls.quiet_of (HD0.out _)) | (go_at_call 100; with_reducible exact Calls.quiet_of (HD1.out _)) | (go_at_call 100; with_reducible exact Calls.quiet_of (HD2.out _)) | (go_at_call 100; with_reducible exact Calls.quiet_of (HD3.out _)))
          go_wp2_with fail
          go_ret
          rw [HVF.out]
          exact ⟨rfl, (by repeat (first | with_reducible exact HBk.out | with_reducible refine beld ?_ _ | (with_reducible refine Below.alloc ?_ ?_ _; rotate_left; exact (by first | (simp; done) | (simp; omega) | omega)) | (with_reducible refine Below.setCell ?_ ?_ _; rotate_left; exact (by first | (simp; done) | (simp; omega) | omega))))⟩
        have HD2 := Lib.hid (HC2.out _ e2)
        have E2 := Lib.hid e2
        clear e2
        cases e3 : eqI x3 y3
        case false =>
          have hvf : v = false := by rw [← HV.out]; exact sameFl_no (k := (k * 4 + 3)) (by have := HM.out; omega) (by rw [Hx3.out, Hy3.out]; exact e3)
          have HVF := Lib.hid hvf
          have HD3 := Lib.hid (HC3.out _ e3)
          clear hvf e3
          go_wp2_with fail
          go_quiet (first | (go_at_call 100; with_reducible exact Calls.quiet_of (HD0.out _)) | (go_at_call 100; with_reducible exact Calls.quiet_of (HD1.out _)) | (go_at_call 100; with_reducible exact Calls.quiet_of (HD2.out _)) | (go_at_call 100; with_reducible exact Calls.quiet_of (HD3.out _)))
          go_wp2_with fail
          go_ret
          rw [HVF.out]
          exact ⟨rfl, (by repeat (first | with_reducible exact HBk.out | with_reducible refine beld ?_ _ | (with_reducible refine Below.alloc ?_ ?_ _; rotate_left; exact (by first | (simp; done) | (simp; omega) | omega)) | (with_reducible refine Below.setCell ?_ ?_ _; rotate_left; exact (by first | (simp; done) | (simp; omega) | omega))))⟩
        have HD3 := Lib.hid (HC3.out _ e3)
        have E3 := Lib.hid e3
        clear e3
        go_wp2_with fail
        go_quiet (first | (go_at_call 100; with_reducible exact Calls.quiet_of (HD0.out _)) | (go_at_call 100; with_reducible exact Calls.quiet_of (HD1.out _)) | (go_at_call 100; with_reducible exact Calls.quiet_of (HD2.out _)) | (go_at_call 100; with_reducible exact Calls.quiet_of (HD3.out _)))
        go_wp2_with fail
        go_roundw
        case rel =>
          refine ⟨k + 1, by omega, by go_num, Lib.hid (fun j hj => ?_), Lib.hid (by repeat (first | with_reducible exact HBk.out | with_reducible refine beld ?_ _ | (with_reducible refine Below.alloc ?_ ?_ _; rotate_left; exact (by first | (simp; done) | (simp; omega) | omega)) | (with_reducible refine Below.setCell ?_ ?_ _; rotate_left; exact (by first | (simp; done) | (simp; omega) | omega))))⟩
          by_cases hj2 : j < k * 4
          · exact HJ.out j hj2
          obtain ⟨i, rfl⟩ : ∃ i, j = k * 4 + i := ⟨j - k * 4, by omega⟩
          by_cases k0_ : i = 0
          · subst k0_; show eqI (M.getD (k * 4) 0) (N.getD (k * 4) 0) = true; rw [Hx0.out, Hy0.out]; exact E0.out
          by_cases k1_ : i = 1
          · subst k1_; show eqI (M.getD (k * 4 + 1) 0) (N.getD (k * 4 + 1) 0) = true; rw [Hx1.out, Hy1.out]; exact E1.out
          by_cases k2_ : i = 2
          · subst k2_; show eqI (M.getD (k * 4 + 2) 0) (N.getD (k * 4 + 2) 0) = true; rw [Hx2.out, Hy2.out]; exact E2.out
          by_cases k3_ : i = 3
          · subst k3_; show eqI (M.getD (k * 4 + 3) 0) (N.getD (k * 4 + 3) 0) = true; rw [Hx3.out, Hy3.out]; exact E3.out
          omega
        case measure => simp [intOf]; omega
      · obtain rfl : k = n := by omega
        have hvf : v = true := by rw [← HV.out]; exact sameFl_yes (by rw [HM.out, HN.out]) (fun j hj => HJ.out j (by have := HM.out; omega))
        have HVF := Lib.hid hvf
        clear hvf
        go_wp2_with fail
        go_ret
        rw [HVF.out]
        exact ⟨rfl, HBk.out⟩
  · have hvf : v = false := by rw [← HV.out]; exact sameFl_len (by rw [HM.out, HN.out]; omega)
    have HVF := Lib.hid hvf
    clear hvf
    have hne' : ¬ ((n : Nat) : Int) = ((m : Nat) : Int) := by omega
    go_enter Try.func47, Try.ntmps47
    go_wp2_with fail
    go_ret
    rw [HVF.out]
    exact ⟨rfl, Below.refl _ _⟩

set_option maxHeartbeats 16000000 in
theorem equalFuncStorm_any (a e : Option Addr) (c d n m : Nat) (M N : List Nat) (w : World) (ha : RowC w a (fc M)) (he : RowC w e (fc N)) (hM : M.length = n * 4) (hN : N.length = m * 4) (hl : n ≤ 1048576) (hl2 : m ≤ 1048576) (hzM : ∀ z ∈ M, z < 4294967296) (hzN : ∀ z ∈ N, z < 4294967296) :
    Calls Try.prog 106 #[.slice a n c, .slice e m d, .func (.func 107) #[] #[]] w (fun e w' => e = .returned (.bool (sameFl M N)) ∧ Below w.heap.size w w') := by
  obtain ⟨v, hv⟩ : ∃ v, sameFl M N = v := ⟨_, rfl⟩
  rw [hv]
  have HV := Lib.hid hv
  clear hv
  have HM := Lib.hid hM
  have HN := Lib.hid hN
  have HA := Lib.hid ha
  have HE := Lib.hid he
  have HZM := Lib.hid hzM
  have HZN := Lib.hid hzN
  clear hM hN ha he hzM hzN
  by_cases hne : n = m
  · subst hne
    go_enter Try.func106, Try.ntmps106
    go_wp2_with fail
    go_loopw [17] (fun iv wr => ∃ k : Nat, k ≤ n ∧ iv = .int .i64 k ∧ Hid (∀ j, j < k * 4 → eqI (M.getD j 0) (N.getD j 0) = true) ∧ Hid (Below w.heap.size w wr)) (fun iv _ => n - (intOf iv).toNat)
    case atStart => exact ⟨0, Nat.zero_le _, rfl, Lib.hid (fun j hj => by omega), Lib.hid (Below.refl _ _)⟩
    case round =>
      obtain ⟨k, hk, rfl, HJ, HBk⟩ := hrel
      have hk0 : (0 : Int) ≤ (k : Int) := by omega
      by_cases hlt : k < n
      · have hk1 : (k : Int) < (n : Int) := by omega
        obtain ⟨bu, ou, rfl, hbzbu, hcbu⟩ : ∃ b o, a = some ⟨b, o, none⟩ ∧ b < w.heap.size ∧ ∀ i, i < M.length → w.cell? ⟨b, o + i, none⟩ = some (.float .f32 (M.getD i 0)) := by
          rcases HA.out.flos with h | h
          · have h9 := HM.out; rw [h, List.length_nil] at h9; omega
          · exact h
        obtain ⟨bv, ov, rfl, hbzbv, hcbv⟩ : ∃ b o, e = some ⟨b, o, none⟩ ∧ b < w.heap.size ∧ ∀ i, i < N.length → w.cell? ⟨b, o + i, none⟩ = some (.float .f32 (N.getD i 0)) := by
          rcases HE.out.flos with h | h
          · have h9 := HN.out; rw [h, List.length_nil] at h9; omega
          · exact h
        have xc0 : wr.cell? ⟨bu, ou + k * 4, none⟩ = some (.float .f32 (M.getD (k * 4) 0)) := (HBk.out.cell (p := ⟨bu, ou + k * 4, none⟩) hbzbu).trans (hcbu (k * 4) (by have := HM.out; omega))
        have xc1 : wr.cell? ⟨bu, ou + k * 4 + 1, none⟩ = some (.float .f32 (M.getD (k * 4 + 1) 0)) := (HBk.out.cell (p := ⟨bu, ou + k * 4 + 1, none⟩) hbzbu).trans (hcbu (k * 4 + 1) (by have := HM.out; omega))
        have xc2 : wr.cell? ⟨bu, ou + k * 4 + 2, none⟩ = some (.float .f32 (M.getD (k * 4 + 2) 0)) := (HBk.out.cell (p := ⟨bu, ou + k * 4 + 2, none⟩) hbzbu).trans (hcbu (k * 4 + 2) (by have := HM.out; omega))
        have xc3 : wr.cell? ⟨bu, ou + k * 4 + 3, none⟩ = some (.float .f32 (M.getD (k * 4 + 3) 0)) := (HBk.out.cell (p := ⟨bu, ou + k * 4 + 3, none⟩) hbzbu).trans (hcbu (k * 4 + 3) (by have := HM.out; omega))
        have yc0 : wr.cell? ⟨bv, ov + k * 4, none⟩ = some (.float .f32 (N.getD (k * 4) 0)) := (HBk.out.cell (p := ⟨bv, ov + k * 4, none⟩) hbzbv).trans (hcbv (k * 4) (by have := HN.out; omega))
        have yc1 : wr.cell? ⟨bv, ov + k * 4 + 1, none⟩ = some (.float .f32 (N.getD (k * 4 + 1) 0)) := (HBk.out.cell (p := ⟨bv, ov + k * 4 + 1, none⟩) hbzbv).trans (hcbv (k * 4 + 1) (by have := HN.out; omega))
        have yc2 : wr.cell? ⟨bv, ov + k * 4 + 2, none⟩ = some (.float .f32 (N.getD (k * 4 + 2) 0)) := (HBk.out.cell (p := ⟨bv, ov + k * 4 + 2, none⟩) hbzbv).trans (hcbv (k * 4 + 2) (by have := HN.out; omega))
        have yc3 : wr.cell? ⟨bv, ov + k * 4 + 3, none⟩ = some (.float .f32 (N.getD (k * 4 + 3) 0)) := (HBk.out.cell (p := ⟨bv, ov + k * 4 + 3, none⟩) hbzbv).trans (hcbv (k * 4 + 3) (by have := HN.out; omega))
        obtain ⟨x0, hx0⟩ : ∃ z, M.getD (k * 4) 0 = z := ⟨_, rfl⟩
        obtain ⟨y0, hy0⟩ : ∃ z, N.getD (k * 4) 0 = z := ⟨_, rfl⟩
        have lx0 : x0 < 4294967296 := by rw [← hx0]; exact getD_lt HZM.out _
        have ly0 : y0 < 4294967296 := by rw [← hy0]; exact getD_lt HZN.out _
        rw [hx0] at xc0
        rw [hy0] at yc0
        have Hx0 := Lib.hid hx0
        have Hy0 := Lib.hid hy0
        clear hx0 hy0
        obtain ⟨x1, hx1⟩ : ∃ z, M.getD (k * 4 + 1) 0 = z := ⟨_, rfl⟩
        obtain ⟨y1, hy1⟩ : ∃ z, N.getD (k * 4 + 1) 0 = z := ⟨_, rfl⟩
        have lx1 : x1 < 4294967296 := by rw [← hx1]; exact getD_lt HZM.out _
        have ly1 : y1 < 4294967296 := by rw [← hy1]; exact getD_lt HZN.out _
        rw [hx1] at xc1
        rw [hy1] at yc1
        have Hx1 := Lib.hid hx1
        have Hy1 := Lib.hid hy1
        clear hx1 hy1
        obtain ⟨x2, hx2⟩ : ∃ z, M.getD (k * 4 + 2) 0 = z := ⟨_, rfl⟩
        obtain ⟨y2, hy2⟩ : ∃ z, N.getD (k * 4 + 2) 0 = z := ⟨_, rfl⟩
        have lx2 : x2 < 4294967296 := by rw [← hx2]; exact getD_lt HZM.out _
        have ly2 : y2 < 4294967296 := by rw [← hy2]; exact getD_lt HZN.out _
        rw [hx2] at xc2
        rw [hy2] at yc2
        have Hx2 := Lib.hid hx2
        have Hy2 := Lib.hid hy2
        clear hx2 hy2
        obtain ⟨x3, hx3⟩ : ∃ z, M.getD (k * 4 + 3) 0 = z := ⟨_, rfl⟩
        obtain ⟨y3, hy3⟩ : ∃ z, N.getD (k * 4 + 3) 0 = z := ⟨_, rfl⟩
        have lx3 : x3 < 4294967296 := by rw [← hx3]; exact getD_lt HZM.out _
        have ly3 : y3 < 4294967296 := by rw [← hy3]; exact getD_lt HZN.out _
        rw [hx3] at xc3
        rw [hy3] at yc3
        have Hx3 := Lib.hid hx3
        have Hy3 := Lib.hid hy3
        clear hx3 hy3
        have Hcu := Lib.hid hcbu; have Hcv := Lib.hid hcbv; clear hcbu hcbv
        have hbs := HBk.out.size
        have hlt9 : bv < wr.heap.size := by omega
        have yd0 : (wr.alloc (.cells #[.float .f32 x0, .float .f32 x1, .float .f32 x2, .float .f32 x3] 127)).cell? ⟨bv, ov + k * 4, none⟩ = some (.float .f32 y0) := by rw [((Below.refl wr.heap.size wr).alloc (Nat.le_refl _) _).cell (p := ⟨bv, ov + k * 4, none⟩) hlt9]; exact yc0
        have yd1 : (wr.alloc (.cells #[.float .f32 x0, .float .f32 x1, .float .f32 x2, .float .f32 x3] 127)).cell? ⟨bv, ov + k * 4 + 1, none⟩ = some (.float .f32 y1) := by rw [((Below.refl wr.heap.size wr).alloc (Nat.le_refl _) _).cell (p := ⟨bv, ov + k * 4 + 1, none⟩) hlt9]; exact yc1
        have yd2 : (wr.alloc (.cells #[.float .f32 x0, .float .f32 x1, .float .f32 x2, .float .f32 x3] 127)).cell? ⟨bv, ov + k * 4 + 2, none⟩ = some (.float .f32 y2) := by rw [((Below.refl wr.heap.size wr).alloc (Nat.le_refl _) _).cell (p := ⟨bv, ov + k * 4 + 2, none⟩) hlt9]; exact yc2
        have yd3 : (wr.alloc (.cells #[.float .f32 x0, .float .f32 x1, .float .f32 x2, .float .f32 x3] 127)).cell? ⟨bv, ov + k * 4 + 3, none⟩ = some (.float .f32 y3) := by rw [((Below.refl wr.heap.size wr).alloc (Nat.le_refl _) _).cell (p := ⟨bv, ov + k * 4 + 3, none⟩) hlt9]; exact yc3
        go_wp2_with fail
        refine (isSame_any x0 x1 x2 x3 y0 y1 y2 y3 _ lx0 ly0 lx1 ly1 lx2 ly2 lx3 ly3).mono ?_
        rintro en w2 ⟨rfl, hb⟩
        have HB2 : Hid (Below w.heap.size w w2) := Lib.hid (Below.trans (by repeat (first | with_reducible exact HBk.out | with_reducible refine beld ?_ _ | (with_reducible refine Below.alloc ?_ ?_ _; rotate_left; exact (by first | (simp; done) | (simp; omega) | omega)) | (with_reducible refine Below.setCell ?_ ?_ _; rotate_left; exact (by first | (simp; done) | (simp; omega) | omega)))) (hb.mono (by first | (simp; done) | (simp; omega) | omega)))
        clear hb xc0 yc0 yd0 xc1 yc1 yd1 xc2 yc2 yd2 xc3 yc3 yd3
        obtain ⟨bz, hbz⟩ : ∃ b, (eqI x0 y0 && eqI x1 y1 && eqI x2 y2 && eqI x3 y3) = b := ⟨_, rfl⟩
        rw [hbz]
        have HBZ := Lib.hid hbz
        clear hbz
        cases e0 : eqI x0 y0
        case false =>
          have hvf : v = false := by rw [← HV.out]; exact sameFl_no (k := k * 4) (by have := HM.out; omega) (by rw [Hx0.out, Hy0.out]; exact e0)
          have HVF := Lib.hid hvf
          have hall : bz = false := by rw [← HBZ.out]; simp [e0]
          rw [hall]
          clear hvf e0 hall
          go_wp2_with fail
          go_ret
          rw [HVF.out]
          exact ⟨rfl, HB2.out⟩
        have E0 := Lib.hid e0
        clear e0
        cases e1 : eqI x1 y1
        case false =>
          have hvf : v = false := by rw [← HV.out]; exact sameFl_no (k := (k * 4 + 1)) (by have := HM.out; omega) (by rw [Hx1.out, Hy1.out]; exact e1)
          have HVF := Lib.hid hvf
          have hall : bz = false := by rw [← HBZ.out]; simp [E0.out, e1]
          rw [hall]
          clear hvf e1 hall
          go_wp2_with fail
          go_ret
          rw [HVF.out]
          exact ⟨rfl, HB2.out⟩
        have E1 := Lib.hid e1
        clear e1
        cases e2 : eqI x2 y2
        case false =>
          have hvf : v = false := by rw [← HV.out]; exact sameFl_no (k := (k * 4 + 2)) (by have := HM.out; omega) (by rw [Hx2.out, Hy2.out]; exact e2)
          have HVF := Lib.hid hvf
          have hall : bz = false := by rw [← HBZ.out]; simp [E0.out, E1.out, e2]
          rw [hall]
          clear hvf e2 hall
          go_wp2_with fail
          go_ret
          rw [HVF.out]
          exact ⟨rfl, HB2.out⟩
        have E2 := Lib.hid e2
        clear e2
        cases e3 : eqI x3 y3
        case false =>
          have hvf : v = false := by rw [← HV.out]; exact sameFl_no (k := (k * 4 + 3)) (by have := HM.out; omega) (by rw [Hx3.out, Hy3.out]; exact e3)
          have HVF := Lib.hid hvf
          have hall : bz = false := by rw [← HBZ.out]; simp [E0.out, E1.out, E2.out, e3]
          rw [hall]
          clear hvf e3 hall
          go_wp2_with fail
          go_ret
          rw [HVF.out]
          exact ⟨rfl, HB2.out⟩
        have E3 := Lib.hid e3
        clear e3
        have hall : bz = true := by rw [← HBZ.out]; simp [E0.out, E1.out, E2.out, E3.out]
        rw [hall]
        clear hall
        go_wp2_with fail
        go_roundw
        case rel =>
          refine ⟨k + 1, by omega, by go_num, Lib.hid (fun j hj => ?_), Lib.hid (by repeat (first | with_reducible exact HB2.out | with_reducible refine beld ?_ _ | (with_reducible refine Below.alloc ?_ ?_ _; rotate_left; exact (by first | (simp; done) | (simp; omega) | omega)) | (with_reducible refine Below.setCell ?_ ?_ _; rotate_left; exact (by first | (simp; done) | (simp; omega) | omega))))⟩
          by_cases hj2 : j < k * 4
          · exact HJ.out j hj2
          obtain ⟨i, rfl⟩ : ∃ i, j = k * 4 + i := ⟨j - k * 4, by omega⟩
          by_cases k0_ : i = 0
          · subst k0_; show eqI (M.getD (k * 4) 0) (N.getD (k * 4) 0) = true; rw [Hx0.out, Hy0.out]; exact E0.out
          by_cases k1_ : i = 1
          · subst k1_; show eqI (M.getD (k * 4 + 1) 0) (N.getD (k * 4 + 1) 0) = true; rw [Hx1.out, Hy1.out]; exact E1.out
          by_cases k2_ : i = 2
          · subst k2_; show eqI (M.getD (k * 4 + 2) 0) (N.getD (k * 4 + 2) 0) = true; rw [Hx2.out, Hy2.out]; exact E2.out
          by_cases k3_ : i = 3
          · subst k3_; show eqI (M.getD (k * 4 + 3) 0) (N.getD (k * 4 + 3) 0) = true; rw [Hx3.out, Hy3.out]; exact E3.out
          omega
        case measure => simp [intOf]; omega
      · obtain rfl : k = n := by omega
        have hvf : v = true := by rw [← HV.out]; exact sameFl_yes (by rw [HM.out, HN.out]) (fun j hj => HJ.out j (by have := HM.out; omega))
        have HVF := Lib.hid hvf
        clear hvf
        go_wp2_with fail
        go_ret
        rw [HVF.out]
        exact ⟨rfl, HBk.out⟩
  · have hvf : v = false := by rw [← HV.out]; exact sameFl_len (by rw [HM.out, HN.out]; omega)
    have HVF := Lib.hid hvf
    clear hvf
    have hne' : ¬ ((n : Nat) : Int) = ((m : Nat) : Int) := by omega
    go_enter Try.func106, Try.ntmps106
    go_wp2_with fail
    go_ret
    rw [HVF.out]
    exact ⟨rfl, Below.refl _ _⟩

theorem sameStorm_i (a e : Option Addr) (c d n m : Nat) (M N : List Nat) (w : World) (ha : RowC w a (fc M)) (he : RowC w e (fc N)) (hM : M.length = n * 4) (hN : N.length = m * 4) (hl : n ≤ 1048576) (hl2 : m ≤ 1048576) (hzM : ∀ z ∈ M, z < 4294967296) (hzN : ∀ z ∈ N, z < 4294967296) :
    Calls Try.prog 49 #[.slice a n c, .slice e m d] w (fun e w' => e = .returned (.bool (sameFl M N)) ∧ Below w.heap.size w w') := by
  have HC := Lib.hid (equalFuncStorm_any a e c d n m M N w ha he hM hN hl hl2 hzM hzN)
  clear ha he hM hN hzM hzN
  go_enter Try.func49, Try.ntmps49
  go_wp2_with fail
  refine HC.out.mono ?_
  rintro en w2 ⟨rfl, hb⟩
  have HB := Lib.hid hb
  clear hb
  go_wp2_with fail
  go_ret
  exact ⟨rfl, HB.out⟩

end Go.Proofs.Ytljehplkdofhpac
