/- The walk of the law on powers. -/
import Derived.Test.YtpaldmhlcgdmkaaPow
namespace Go.Proofs.Ytpaldmhlcgdmkaa
open Go.RowKit

set_option maxHeartbeats 4000000 in
theorem powers_main (a0 : Option Addr) (len0 cap0 : Nat) (zs0 : List Int) (a1 : Option Addr) (len1 cap1 : Nat) (zs1 : List Int) (w : World) (h0 : IsRow .u8 w a0 len0 cap0 zs0) (h1 : IsRow .u8 w a1 len1 cap1 zs1) (hl0 : len0 ≤ 1048576) (hl1 : len1 ≤ 1048576) :
    Calls Try.prog 5 #[.slice a0 len0 cap0, .slice a1 len1 cap1] w fun e w' => e = .returned (.bool true) ∧ Below w.heap.size w w' := by
  have H0 := Lib.hid (b10At_65 a0 len0 cap0 zs0 w h0)
  have H1 := Lib.hid (b10At_65 a1 len1 cap1 zs1 w h1)
  clear h0 h1
  go_enter Try.func5, Try.ntmps5
  go_wp2_with (first | (go_at_call 10; go_in) | go_back)
  refine H0.out.mono ?_
  rintro e w' ⟨n, hn, rfl, rfl⟩
  have rx := fl_run (P := Try.prog) (d_of n hn) 28
  go_wp2_with fail
  refine H1.out.mono ?_
  rintro e w' ⟨m, hm, rfl, rfl⟩
  have ry := fl_run (P := Try.prog) (d_of m hm) 28
  go_wp2_with fail
  refine (exp_at _ _ (n + 32) (by omega) rfl rfl _).mono ?_
  rintro e w' ⟨rfl, n1, rfl⟩
  go_wp2_with fail
  refine (exp_at _ _ (m + 32) (by omega) rfl rfl _).mono ?_
  rintro e w' ⟨rfl, n2, rfl⟩
  have rs := fl_run (P := Try.prog) (s_of n m hn hm) 28
  go_wp2_with fail
  refine (exp_at _ _ (n + m) (by omega) rfl rfl _).mono ?_
  rintro e w' ⟨rfl, n3, rfl⟩
  clear rx ry rs
  go_wp2_with fail
  refine (log_at _ _ n hn rfl rfl _).mono ?_
  rintro e w' ⟨rfl, n4, rfl⟩
  have cL := run_cvt_some (P := Try.prog) (by decide) (l_of n hn).2.2.2 (widen_ok _) 28 27 (by kernel_rfl) Try.underlying27
  have cX := run_cvt_some (P := Try.prog) (by decide) (x_of (n + 32) (by omega)).1 (widen_ok _) 28 27 (by kernel_rfl) Try.underlying27
  have cA := run_cvt_some (P := Try.prog) (by decide) (e_of (n + 32) (by omega)).2.2.2 (widen_ok _) 28 27 (by kernel_rfl) Try.underlying27
  have cB := run_cvt_some (P := Try.prog) (by decide) (e_of (m + 32) (by omega)).2.2.2 (widen_ok _) 28 27 (by kernel_rfl) Try.underlying27
  have cC := run_cvt_some (P := Try.prog) (by decide) (e_of (n + m) (by omega)).2.2.2 (widen_ok _) 28 27 (by kernel_rfl) Try.underlying27
  obtain ⟨⟨g, hg, og⟩, ogt⟩ := g_of n hn
  obtain ⟨p, l, g2, hp, hl, hg2, og2⟩ := p_of n m hn hm
  have rm := fl_run (P := Try.prog) hp 27
  have rl := fl_run (P := Try.prog) hl 27
  have Hg := Lib.hid hg
  have Hg2 := Lib.hid hg2
  have o1 : FloatKind.f32.format.order 1065353216 1065353216 = some .eq := by decide +kernel
  have o0 : FloatKind.f32.format.order 0 0 = some .eq := by decide +kernel
  clear hp hl hg hg2
  go_wp2_with fail
  refine (b10Gap_any _ _ _ Hg.out _).mono ?_
  rintro e w' ⟨rfl, rfl⟩
  go_wp2_with fail
  refine (b10Gap_any _ _ _ Hg2.out _).mono ?_
  rintro e w' ⟨rfl, rfl⟩
  go_wp2_with fail
  refine (exp_at 0 1065353216 64 (by decide) rfl rfl _).mono ?_
  rintro e w' ⟨rfl, n5, rfl⟩
  go_wp2_with fail
  refine (log_at 1065353216 0 32 (by decide) rfl rfl _).mono ?_
  rintro e w' ⟨rfl, n6, rfl⟩
  go_wp2_with fail
  go_ret
  exact ⟨rfl, ⟨rfl, rfl, rfl, Nat.le_refl _, fun _ _ => rfl⟩⟩

set_option maxHeartbeats 1000000 in
theorem walk_FnPowers (a0 : Option Addr) (len0 cap0 : Nat) (zs0 : List Int) (a1 : Option Addr) (len1 cap1 : Nat) (zs1 : List Int) (w : World) (h0 : IsRow .u8 w a0 len0 cap0 zs0) (h1 : IsRow .u8 w a1 len1 cap1 zs1) :
    Calls Try.prog 5 #[.slice a0 len0 cap0, .slice a1 len1 cap1] w fun e w' => e = .returned (.bool true) ∧ Below w.heap.size w w' := by
  by_cases hl0 : len0 ≤ 1048576
  · by_cases hl1 : len1 ≤ 1048576
    · exact powers_main a0 len0 cap0 zs0 a1 len1 cap1 zs1 w h0 h1 hl0 hl1
    · have m0 := h0.len_le
      have m1 := h1.len_le
      unfold maxLen at m0 m1
      clear h0 h1
      go_enter Try.func5, Try.ntmps5
      go_wp2_with (first | (go_at_call 10; go_in) | go_back)
      go_ret
      exact ⟨rfl, Below.refl _ _⟩
  · have m0 := h0.len_le
    have m1 := h1.len_le
    unfold maxLen at m0 m1
    clear h0 h1
    go_enter Try.func5, Try.ntmps5
    go_wp2_with (first | (go_at_call 10; go_in) | go_back)
    go_ret
    exact ⟨rfl, Below.refl _ _⟩
end Go.Proofs.Ytpaldmhlcgdmkaa
