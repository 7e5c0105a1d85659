/- Powers and logarithms of eighths: the walk of the law on powers. -/
import Derived.Test.YtpaldmhlcgdmkaaPowV
import Derived.Test.YtpaldmhlcgdmkaaWid
import Derived.ProofKit
import Derived.OpenShut
import Derived.Below
namespace Go.Proofs.Ytpaldmhlcgdmkaa
open Go.RowKit

/-- A slice of integers that came in. -/
def IsRow (k : IntKind) (w : World) (a : Option Addr) (len cap : Nat) (zs : List Int) : Prop :=
  (a = none ∧ len = 0 ∧ cap = 0 ∧ zs = []) ∨ ∃ x, a = some x ∧ len ≤ cap ∧ cap ≤ maxLen ∧ zs.length = cap ∧ (∀ i, i < zs.length → w.cell? (x.add i) = some (.int k (zs.getD i 0))) ∧ ∀ n ∈ zs, (Lit.int k n).wf = true

theorem IsRow.len_le {k : IntKind} {w : World} {a : Option Addr} {len cap : Nat} {zs : List Int} (h : IsRow k w a len cap zs) : len ≤ maxLen := by
  rcases h with ⟨_, rfl, _⟩ | ⟨x, _, h1, h2, _⟩
  · exact Nat.zero_le _
  · exact Nat.le_trans h1 h2
theorem IsRow.drewN {k : IntKind} {w : World} {a : Option Addr} {len cap : Nat} {zs : List Int} (h : IsRow k w a len cap zs) (n : Nat) : IsRow k (w.drewN n) a len cap zs := h

def AtR (m : Nat) (w : World) (e : Ending) (w' : World) : Prop := ∃ n : Nat, n < m ∧ e = .returned (.int .i64 (n : Int)) ∧ w = w'
theorem ret_i {a b : Int} (h : a = b) : Ending.returned (Value.int .i64 a) = .returned (.int .i64 b) := by rw [h]

theorem row_head {w : World} {a : Option Addr} {len cap : Nat} {zs : List Int} (h : IsRow .u8 w a len cap zs) (h0 : 0 < len) : ∃ b off, ∃ z : Int, a = some ⟨b, off, none⟩ ∧ w.cell? ⟨b, off, none⟩ = some (.int .u8 z) ∧ 0 ≤ z ∧ z ≤ 255 := by
  rcases h with ⟨_, h1, _⟩ | ⟨x, rfl, h1, h2, h3, h4, h5⟩
  · omega
  · obtain ⟨b, off, spot⟩ := x
    have hc := h4 0 (by omega)
    have hspot : spot = none := by simpa [Addr.add] using World.cell?_spot hc
    subst hspot
    rw [Go.WideShapes.add_plain, Nat.add_zero] at hc
    have hm : zs.getD 0 0 ∈ zs := by
      rw [List.getD_eq_getElem?_getD, List.getElem?_eq_getElem (by omega)]
      exact List.getElem_mem _
    have hw := h5 _ hm
    have h6 : 0 ≤ zs.getD 0 0 ∧ zs.getD 0 0 ≤ 255 := by
      simpa [Lit.wf, IntKind.min, IntKind.max, IntKind.signed, IntKind.bits] using hw
    exact ⟨b, off, _, rfl, hc, h6.1, h6.2⟩

set_option maxHeartbeats 1000000 in
theorem b10At_65 (a : Option Addr) (len cap : Nat) (zs : List Int) (w : World) (h : IsRow .u8 w a len cap zs) :
    Calls Try.prog 11 #[.slice a len cap, .int .i64 0, .int .i64 65] w (AtR 65 w) := by
  have hl := h.len_le
  unfold maxLen at hl
  by_cases h0 : 0 < len
  · obtain ⟨b, off, z, rfl, hc, hz0, hz1⟩ := row_head h h0
    clear h
    go_enter Try.func11, Try.ntmps11
    go_wp2_with fail
    go_ret
    exact ⟨(z % 65).toNat, by omega, ret_i (by omega), rfl⟩
  · obtain rfl : len = 0 := by omega
    clear h h0 hl
    go_enter Try.func11, Try.ntmps11
    go_wp2_with fail
    go_ret
    exact ⟨11, by omega, ret_i (by decide), rfl⟩

set_option maxHeartbeats 400000 in
theorem b10Gap_any (a b g : Nat) (h : gapO a b = some g) (w : World) : Calls Try.prog 14 #[.float .f64 a, .float .f64 b] w fun e w' => e = .returned (.float .f64 g) ∧ w = w' := by
  unfold gapO at h
  cases ho : (FloatKind.f64.format.order a b == some .lt) with
  | true =>
    rw [ho, if_pos rfl] at h
    have hr := fl_run (P := Try.prog) h 27
    clear h
    go_enter Try.func14, Try.ntmps14
    go_wp2_with fail
    go_ret
    exact ⟨rfl, rfl⟩
  | false =>
    rw [ho, if_neg Bool.false_ne_true] at h
    have hr := fl_run (P := Try.prog) h 27
    clear h
    go_enter Try.func14, Try.ntmps14
    go_wp2_with fail
    go_ret
    exact ⟨rfl, rfl⟩

theorem xpP_next {r j t p a b z : Nat} (ht : Rp .f64 (xpT r) t) (hp : Rp .f64 (xpP r j) p) (ha : Rp .f64 (floatBits .mul .f64 t p) a) (hb : Rp .f64 (floatBits .quo .f64 a (floatOfInt .f64 (12 - (j : Int)))) b) (hz : Rp .f64 (floatBits .add .f64 oneW b) z) : Rp .f64 (xpP r (j + 1)) z :=
  Rp.fop (Rp.refl _ _) (Rp.fop (ht.fop hp ha) (Rp.refl _ _) hb) hz
theorem xpS_next {r j p z : Nat} (hp : Rp .f64 (xpS r j) p) (hz : Rp .f64 (floatBits .mul .f64 p p) z) : Rp .f64 (xpS r (j + 1)) z := hp.fop hp hz

set_option maxHeartbeats 1000000 in
theorem exp_at (v u i : Nat) (hi : i < 129) (hv : tw i = v) (hu : te i = u) (w : World) : Calls Try.prog 29 #[.float .f32 v] w fun e w' => e = .returned (.float .f32 u) ∧ ∃ n, w' = w.drewN n := by
  obtain ⟨hc, hg, hl⟩ := x_of i hi
  obtain ⟨he, hn, hn2, _⟩ := e_of i hi
  rw [hv] at hc hg hl
  rw [hu] at hn2
  clear hv hu hi
  generalize xw i = r at *
  generalize pw i = q at *
  have hrun := run_cvt_some (P := Try.prog) (by decide) hc (widen_ok v) 28 27 (by kernel_rfl) Try.underlying27
  have hnar := run_cvt_some (P := Try.prog) (by decide) hn2 hn 27 28 (by kernel_rfl) Try.underlying28
  have HE := Lib.hid he
  clear hc he hn hn2
  go_enter Try.func29, Try.ntmps29
  go_wp2_with (first | (refine wpList_cvt_eq rfl _ _ _ rfl rfl hrun ?_) | (refine wpList_fl rfl _ _ _ _ _ rfl .f64 _ _ rfl rfl (by decide) ?_; intro z n hz))
  have HT := Lib.hid (show Rp .f64 (xpT r) z from Rp.fop (Rp.refl _ _) (Rp.refl _ _) hz)
  clear hz hg hl hrun
  go_loopw [4, 5] (fun p k wr => ∃ (j m x : Nat), j ≤ 12 ∧ k = .int .i64 (12 - (j : Int)) ∧ p = .float .f64 x ∧ Hid (Rp .f64 (xpP r j) x) ∧ wr = w.drewN m) (fun _ k _ => (intOf k).toNat)
  case atStart => exact ⟨0, _, _, by omega, rfl, rfl, Lib.hid rfl, rfl⟩
  case round =>
    obtain ⟨j, m, p, hj, rfl, rfl, HP, rfl⟩ := hrel
    by_cases hlt : j < 12
    · go_wp2_with (refine wpList_fl rfl _ _ _ _ _ rfl .f64 _ _ rfl rfl (by decide) ?_; intro z n hz)
      exact ⟨⟨j + 1, _, z, by omega, int_congr (by omega), rfl, Lib.hid (xpP_next HT.out HP.out (by assumption) (by assumption) (by assumption)), rfl⟩, by simp [intOf]; omega⟩
    · obtain rfl : j = 12 := by omega
      rw [show (12 : Int) - ((12 : Nat) : Int) = 0 from rfl]
      go_wp2_with fail
      have HS0 := Lib.hid (show Rp .f64 (xpS r 0) p from HP.out)
      clear HP hlt hj
      go_loopw [4, 26] (fun p k wr => ∃ (j m x : Nat), j ≤ 8 ∧ k = .int .i64 (j : Int) ∧ p = .float .f64 x ∧ Hid (Rp .f64 (xpS r j) x) ∧ wr = w.drewN m) (fun _ k _ => (8 - intOf k).toNat)
      case atStart => exact ⟨0, _, _, by omega, rfl, rfl, HS0, rfl⟩
      case round =>
        obtain ⟨j, m, p, hj, rfl, rfl, HP, rfl⟩ := hrel
        by_cases hlt : j < 8
        · go_wp2_with (refine wpList_fl rfl _ _ _ _ _ rfl .f64 _ _ rfl rfl (by decide) ?_; intro z n hz)
          exact ⟨⟨j + 1, _, z, by omega, by go_num, rfl, Lib.hid (xpS_next HP.out (by assumption)), rfl⟩, by simp [intOf]; omega⟩
        · obtain rfl : j = 8 := by omega
          have hp := HP.out
          rw [HE.out] at hp
          obtain rfl : p = q := hp
          clear HP hlt hj HS0 HE HT
          go_wp2_with (first | (go_at_call 47; go_in) | go_back | (refine wpList_cvt_eq rfl _ _ _ rfl rfl hnar ?_))
          go_ret
          exact ⟨rfl, _, rfl⟩

set_option maxHeartbeats 1000000 in
theorem log_at (v u i : Nat) (hi : i < 65) (hv : te (i + 32) = v) (hu : tl i = u) (w : World) : Calls Try.prog 30 #[.float .f32 v] w fun e w' => e = .returned (.float .f32 u) ∧ ∃ n, w' = w.drewN n := by
  obtain ⟨hr1, hr2, hl, _⟩ := l_of i hi
  obtain ⟨_, _, _, hc⟩ := e_of (i + 32) (by omega)
  rw [hv] at hc
  rw [hu] at hl
  clear hv hu hi
  generalize ew (i + 32) = r at *
  have hrun := run_cvt_some (P := Try.prog) (by decide) hc (widen_ok v) 28 27 (by kernel_rfl) Try.underlying27
  have hself := ord_self_pos hr1 hr2
  have hzero := ord_zero_pos hr1 hr2
  have hmax := ord_max_pos hr1 hr2
  have Hn := Lib.hid (fun z hz => narrow_smo (z := z) (logV_sm (xOf_range r).1 (xOf_range r).2 (eOf r) (eOf_range r hr2)) (by decide) hz)
  have Hr1 := Lib.hid hr1
  have Hr2 := Lib.hid hr2
  have HL := Lib.hid hl
  clear hc hr1 hr2 hl
  go_enter Try.func30, Try.ntmps30
  go_wp2_with (first | (refine wpList_cvt_eq rfl _ _ _ rfl rfl hrun ?_) | (go_at_call 40; go_in) | go_back)
  refine (wideLog_any r Hr1.out Hr2.out _).mono ?_
  rintro e w' ⟨v2, n2, rfl, rfl, hv2⟩
  have Hv2 := Lib.hid hv2; clear hv2
  go_wp2_with (first | (go_at_call 47; go_in) | (refine wpList_cvt rfl _ _ _ rfl .f64 .f32 _ rfl (by kernel_rfl) Try.underlying28 (Hn.out _ Hv2.out) ?_; intro z2 q2 hz2; have hz3 := Rp.cvtF (by decide) Hv2.out hz2; rw [HL.out] at hz3; obtain rfl : z2 = u := hz3; clear hz2) | go_back)
  go_ret
  exact ⟨rfl, _, rfl⟩
end Go.Proofs.Ytpaldmhlcgdmkaa
