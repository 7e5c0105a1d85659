/- How ground rises between two cells: the model's walk. -/
import Derived.Test.YtdpnkpgfepckdaaTiltV
import Derived.Deep.Cut
namespace Go.Proofs.Ytdpnkpgfepckdaa
open Go.RowKit
set_option linter.unusedVariables false
set_option linter.unusedSimpArgs false
set_option maxRecDepth 100000
attribute [local irreducible] wpV wpList Code.wp

set_option maxHeartbeats 4000000 in
theorem l02Rise_any (bh : Nat) (a : Option Addr) (cap p q far : Nat) (zs : List Nat) (w : World) (c2 : w.cell? ⟨bh, 2, none⟩ = some (.slice a zs.length cap)) (h : RowF .f32 w a zs) (hp : p < zs.length) (hq : q < zs.length) (hz9 : ∀ z ∈ zs, z < 4294967296) :
    Calls Try.prog 84 #[.pointer (some ⟨bh, 0, none⟩), .int .i64 (p : Int), .int .i64 (q : Int), .int .i64 (far : Int)] w (NumQ (riseV (zs.getD q 0) (zs.getD p 0) far) w) := by
  have H := Lib.hid h
  have hzz : ∀ j, j < zs.length → zs.getD j 0 < 4294967296 := fun j hj => by rw [List.getD_eq_getElem?_getD, List.getElem?_eq_getElem hj]; exact hz9 _ (List.getElem_mem _)
  obtain ⟨R, hR⟩ : ∃ R, riseV (zs.getD q 0) (zs.getD p 0) far = R := ⟨_, rfl⟩
  rw [hR]
  obtain ⟨zq, hzq⟩ : ∃ z, zs.getD q 0 = z := ⟨_, rfl⟩
  obtain ⟨zp, hzp⟩ : ∃ z, zs.getD p 0 = z := ⟨_, rfl⟩
  rw [hzq, hzp] at hR
  have hiq : Is32 (some zq) zq := Is32.c (by rw [← hzq]; exact hzz q hq)
  have hip : Is32 (some zp) zp := Is32.c (by rw [← hzp]; exact hzz p hp)
  obtain ⟨b, off, rfl, hcq⟩ := H.out.cells q hq
  have hcp : w.cell? ⟨b, off + p, none⟩ = some (.float .f32 zp) := by obtain ⟨b', o', h1, h2⟩ := H.out.cells p hp; cases h1; rw [← hzp]; exact h2
  rw [hzq] at hcq
  have HV := Lib.hid hR
  clear hR hzq hzp hzz hz9 h
  have hp0 : (0 : Int) ≤ (p : Int) := by omega
  have hp1 : (p : Int) < (zs.length : Int) := by omega
  have hq0 : (0 : Int) ≤ (q : Int) := by omega
  have hq1 : (q : Int) < (zs.length : Int) := by omega
  by_cases e : far = 0
  · subst e
    have e1 : (((0 : Nat) : Int) == 0) = true := rfl
    go_enter Try.func84, Try.ntmps84
    go_wp2_with fail
    have hv : R = some 0 := by rw [← HV.out]; rfl
    go_ret
    exact ⟨_, rfl, by rw [hv]; exact Is32.c (by decide), 0, rfl⟩
  have e' : ((far : Int) == 0) = false := by simp; omega
  have hv : R = fop .quo .f32 (fop .sub .f32 (some zq) (some zp)) (some (iF (far : Int))) := by rw [← HV.out]; unfold riseV; rw [if_neg e]
  have hff : Is32 (some (iF (far : Int))) (floatOfInt .f32 (far : Int)) := iF_is _
  have HVx := Lib.hid hv
  clear hv
  go_enter Try.func84, Try.ntmps84
  go_wp2_with fail
  any_goals apply wp_region_V (id := 3) (vmap [(14, V32k _), (17, V32k _)]) (by kernel_rfl) (by kernel_rfl)
  any_goals (refine wpV_go 1 rfl (fun K hK => ?_); go_simp; refine hK.out _ ?_; clear hK K)
  any_goals (refine wpV_go 2 rfl (fun K hK => ?_); go_simp; refine hK.out _ ?_; clear hK K)
  any_goals (refine wpV_go 3 rfl (fun K hK => ?_); go_simp; refine hK.out _ ?_; clear hK K)
  any_goals (refine wpV_go 4 rfl (fun K hK => ?_); go_simp; refine hK.out _ ?_; clear hK K)
  any_goals (refine wpV_go 5 rfl (fun K hK => ?_); go_simp; refine hK.out _ ?_; clear hK K)
  any_goals (refine wpV_go 6 rfl (fun K hK => ?_); go_simp; refine hK.out _ ?_; clear hK K)
  any_goals (refine wpV_go 7 rfl (fun K hK => ?_); go_simp; refine hK.out _ ?_; clear hK K)
  any_goals (refine wpV_go 8 rfl (fun K hK => ?_); go_simp; refine hK.out _ ?_; clear hK K)
  any_goals (refine wpV_go 9 rfl (fun K hK => ?_); go_simp; refine hK.out _ ?_; clear hK K)
  any_goals (refine wpV_go 10 rfl (fun K hK => ?_); go_simp; refine hK.out _ ?_; clear hK K)
  any_goals (refine wpV_go 11 rfl (fun K hK => ?_); go_simp; refine hK.out _ ?_; clear hK K)
  any_goals (refine wpV_go 12 rfl (fun K hK => ?_); go_simp; refine hK.out _ ?_; clear hK K)
  any_goals (refine wpV_go 13 rfl (fun K hK => ?_); go_simp; refine hK.out _ ?_; clear hK K)
  any_goals (refine wpV_go 14 rfl (fun K hK => ?_); go_simp; refine hK.out _ ?_; clear hK K)
  any_goals (first | (refine wpV_f32 15 rfl (drewC _) _ _ _ _ _ rfl rfl rfl rfl (by decide) (by first | assumption | exact Is32.c (by decide)) (by first | assumption | exact Is32.c (by decide)) rfl ?_; intro z hz) | (refine wpV_go 15 rfl (fun K hK => ?_); go_simp; refine hK.out _ ?_; clear hK K))
  any_goals (refine wpV_go 16 rfl (fun K hK => ?_); go_simp; refine hK.out _ ?_; clear hK K)
  any_goals (refine wpV_go 17 rfl (fun K hK => ?_); go_simp; refine hK.out _ ?_; clear hK K)
  any_goals (first | (refine wpV_f32 18 rfl (drewC _) _ _ _ _ _ rfl rfl rfl rfl (by decide) (by first | assumption | exact Is32.c (by decide)) (by first | assumption | exact Is32.c (by decide)) rfl ?_; intro z hz) | (refine wpV_go 18 rfl (fun K hK => ?_); go_simp; refine hK.out _ ?_; clear hK K))
  any_goals (refine wpV_go 19 rfl (fun K hK => ?_); go_simp; refine hK.out _ ?_; clear hK K)
  any_goals (refine wpV_nil ?_; intro q)
  go_wp2_with fail
  go_ret
  exact ⟨_, rfl, by rw [HVx.out]; exact hz, _, rfl⟩

end Go.Proofs.Ytdpnkpgfepckdaa
