/- How ground rises along a line: the program's walk, the model's. -/
import Derived.Test.YtdpnkpgfepckdaaTiltV
import Derived.Deep.Cut
import Derived.Lib.MinMax
namespace Go.Proofs.Ytdpnkpgfepckdaa
open Go.RowKit
set_option linter.unusedVariables false
set_option linter.unusedSimpArgs false
set_option maxRecDepth 100000
attribute [local irreducible] wpV wpList Code.wp

set_option maxHeartbeats 4000000 in
theorem riseAt_any (a : Option Addr) (cap x : Nat) (ln : List Nat) (w : World) (h : RowF .f32 w a ln) (hl : ln.length ≤ 16) (hx : x < ln.length) (hz9 : ∀ z ∈ ln, z < 4294967296) :
    Calls Try.prog 56 #[.slice a ln.length cap, .int .i64 (x : Int)] w (NumQ (riseL ln x ln.length) w) := by
  have H := Lib.hid h
  obtain ⟨n, hn⟩ : ∃ n, ln.length = n := ⟨_, rfl⟩
  have hzz : ∀ j, j < ln.length → ln.getD j 0 < 4294967296 := fun j hj => by rw [List.getD_eq_getElem?_getD, List.getElem?_eq_getElem hj]; exact hz9 _ (List.getElem_mem _)
  have Hn := Lib.hid hn
  rw [hn] at hl hx hzz ⊢
  obtain ⟨p, hp⟩ : ∃ p, x - 1 = p := ⟨_, rfl⟩
  obtain ⟨q, hq⟩ : ∃ q, hiN x n = q := ⟨_, rfl⟩
  have hqn : q < n := by rw [← hq]; exact hiN_lt hx
  have hpx : p ≤ x := by omega
  have hpq : p ≤ q := Nat.le_trans hpx (by rw [← hq]; exact hiN_ge _ _)
  have hmx : max ((x : Int) - 1) 0 = (p : Int) := by rw [← hp]; exact loN_max x
  have hmn : min ((x : Int) + 1) ((n : Int) - 1) = (q : Int) := by rw [← hq]; exact hiN_min hx
  have hi1 : IntKind.i64.wrap ((x : Int) - 1) = (x : Int) - 1 := IntWalk.i64_in _ (by omega)
  have hi2 : IntKind.i64.wrap ((x : Int) + 1) = (x : Int) + 1 := IntWalk.i64_in _ (by omega)
  have hi3 : IntKind.i64.wrap ((n : Int) - 1) = (n : Int) - 1 := IntWalk.i64_in _ (by omega)
  obtain ⟨R, hR⟩ : ∃ R, riseL ln x n = R := ⟨_, rfl⟩
  rw [hR]
  have hv : riseV (ln.getD q 0) (ln.getD p 0) (q - p) = R := by rw [← hR]; unfold riseL; rw [hp, hq]
  obtain ⟨zq, hzq⟩ : ∃ z, ln.getD q 0 = z := ⟨_, rfl⟩
  obtain ⟨zp, hzp⟩ : ∃ z, ln.getD p 0 = z := ⟨_, rfl⟩
  rw [hzq, hzp] at hv
  have hiq : Is32 (some zq) zq := Is32.c (by rw [← hzq]; exact hzz q hqn)
  have hip : Is32 (some zp) zp := Is32.c (by rw [← hzp]; exact hzz p (by omega))
  obtain ⟨b, off, rfl, hcq⟩ := H.out.cells q (by rw [Hn.out]; exact hqn)
  have hcp : w.cell? ⟨b, off + p, none⟩ = some (.float .f32 zp) := by obtain ⟨b', o', h1, h2⟩ := H.out.cells p (by rw [Hn.out]; omega); cases h1; rw [← hzp]; exact h2
  rw [hzq] at hcq
  have HV := Lib.hid hv
  clear hv hR hzq hzp hp hq hzz hz9 h hn
  have hp0 : (0 : Int) ≤ (p : Int) := by omega
  have hp1 : (p : Int) < (n : Int) := by omega
  have hq0 : (0 : Int) ≤ (q : Int) := by omega
  have hq1 : (q : Int) < (n : Int) := by omega
  by_cases e : p = q
  · subst e
    have e1 : ((p : Int) == (p : Int)) = true := by simp
    go_enter Try.func56, Try.ntmps56
    go_wp2_with fail
    have hv : R = some 0 := by rw [← HV.out]; unfold riseV; rw [if_pos (Nat.sub_self _)]
    go_ret
    exact ⟨_, rfl, by rw [hv]; exact Is32.c (by decide), 0, rfl⟩
  have e' : ((p : Int) == (q : Int)) = false := by simp; omega
  obtain ⟨far, hfar⟩ : ∃ f, q - p = f := ⟨_, rfl⟩
  have hf0 : ¬ far = 0 := by omega
  have hfi : (q : Int) - (p : Int) = (far : Int) := by omega
  have hw6 : IntKind.i64.wrap (far : Int) = (far : Int) := IntWalk.i64_in _ (by omega)
  have hv : R = fop .quo .f32 (fop .sub .f32 (some zq) (some zp)) (some (iF (far : Int))) := by rw [← HV.out, hfar]; unfold riseV; rw [if_neg hf0]
  have hff : Is32 (some (iF (far : Int))) (floatOfInt .f32 (far : Int)) := iF_is _
  have HVx := Lib.hid hv
  clear hv hfar
  go_enter Try.func56, Try.ntmps56
  go_wp2_with fail
  any_goals apply wp_region_V (id := 4) (vmap [(8, V32k _), (13, V32k _)]) (by kernel_rfl) (by kernel_rfl)
  any_goals (refine wpV_go 1 rfl (fun K hK => ?_); go_simp; refine hK.out _ ?_; clear hK K)
  any_goals (refine wpV_go 2 rfl (fun K hK => ?_); go_simp; refine hK.out _ ?_; clear hK K)
  any_goals (refine wpV_go 3 rfl (fun K hK => ?_); go_simp; refine hK.out _ ?_; clear hK K)
  any_goals (refine wpV_go 4 rfl (fun K hK => ?_); go_simp; refine hK.out _ ?_; clear hK K)
  any_goals (refine wpV_go 5 rfl (fun K hK => ?_); go_simp; refine hK.out _ ?_; clear hK K)
  any_goals (refine wpV_go 6 rfl (fun K hK => ?_); go_simp; refine hK.out _ ?_; clear hK K)
  any_goals (refine wpV_go 7 rfl (fun K hK => ?_); go_simp; refine hK.out _ ?_; clear hK K)
  any_goals (refine wpV_go 8 rfl (fun K hK => ?_); go_simp; refine hK.out _ ?_; clear hK K)
  any_goals (first | (refine wpV_f32 9 rfl (drewC _) _ _ _ _ _ rfl rfl rfl rfl (by decide) (by first | assumption | exact Is32.c (by decide)) (by first | assumption | exact Is32.c (by decide)) rfl ?_; intro z hz) | (refine wpV_go 9 rfl (fun K hK => ?_); go_simp; refine hK.out _ ?_; clear hK K))
  any_goals (refine wpV_go 10 rfl (fun K hK => ?_); go_simp; refine hK.out _ ?_; clear hK K)
  any_goals (refine wpV_go 11 rfl (fun K hK => ?_); go_simp; refine hK.out _ ?_; clear hK K)
  any_goals (refine wpV_go 12 rfl (fun K hK => ?_); go_simp; refine hK.out _ ?_; clear hK K)
  any_goals (refine wpV_go 13 rfl (fun K hK => ?_); go_simp; refine hK.out _ ?_; clear hK K)
  any_goals (first | (refine wpV_f32 14 rfl (drewC _) _ _ _ _ _ rfl rfl rfl rfl (by decide) (by first | assumption | exact Is32.c (by decide)) (by first | assumption | exact Is32.c (by decide)) rfl ?_; intro z hz) | (refine wpV_go 14 rfl (fun K hK => ?_); go_simp; refine hK.out _ ?_; clear hK K))
  any_goals (refine wpV_go 15 rfl (fun K hK => ?_); go_simp; refine hK.out _ ?_; clear hK K)
  any_goals (refine wpV_nil ?_; intro q)
  go_wp2_with fail
  go_ret
  exact ⟨_, rfl, by rw [HVx.out]; exact hz, _, rfl⟩

end Go.Proofs.Ytdpnkpgfepckdaa
