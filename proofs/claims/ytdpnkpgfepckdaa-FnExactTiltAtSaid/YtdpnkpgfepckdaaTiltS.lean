/- The tilt at a cell: the model's walk. -/
import Derived.Test.YtdpnkpgfepckdaaTiltB
import Derived.Deep.Cut
import Derived.Laws.Cover3
namespace Go.Proofs.Ytdpnkpgfepckdaa
open Go.RowKit
set_option linter.unusedVariables false
set_option linter.unusedSimpArgs false
set_option maxRecDepth 100000
attribute [local irreducible] wpV wpList Code.wp

set_option maxHeartbeats 8000000 in
theorem l02Tilt_any (bh : Nat) (a : Option Addr) (cap wn hn ni : Nat) (zs : List Nat) (w : World) (c0 : w.cell? ⟨bh, 0, none⟩ = some (.int .i64 (wn : Int))) (c1 : w.cell? ⟨bh, 1, none⟩ = some (.int .i64 (hn : Int))) (c2 : w.cell? ⟨bh, 2, none⟩ = some (.slice a zs.length cap)) (h : RowF .f32 w a zs) (hw0 : 0 < wn) (hw1 : wn ≤ 16) (hh1 : hn ≤ 16) (hlw : zs.length = wn * hn) (hi : ni < zs.length) (hz9 : ∀ z ∈ zs, z < 4294967296) :
    Calls Try.prog 51 #[.pointer (some ⟨bh, 0, none⟩), .int .i64 (ni : Int)] w (CoP (tiltX wn zs (ni % wn) (ni / wn)) (tiltY wn hn zs (ni % wn) (ni / wn)) w) := by
  have H := Lib.hid h
  have HZ := Lib.hid hz9
  have hzl : zs.length ≤ 256 := by rw [hlw]; exact Nat.le_trans (Nat.mul_le_mul hw1 hh1) (by decide)
  have hil : ni < zs.length := hi
  obtain ⟨x, hx⟩ : ∃ x, ni % wn = x := ⟨_, rfl⟩
  obtain ⟨y, hy⟩ : ∃ y, ni / wn = y := ⟨_, rfl⟩
  rw [hx, hy]
  have hxw : x < wn := by rw [← hx]; exact Nat.mod_lt _ hw0
  have hyh : y < hn := by rw [← hy]; exact Nat.div_lt_of_lt_mul (by rw [← hlw]; exact hi)
  have hwz : ¬ (wn : Int) = 0 := by omega
  have hw0' : ((wn : Int) == 0) = false := by simp; omega
  have hwm : ¬ (wn : Int) = -1 := by omega
  have hwnn : ¬ wn = 0 := by omega
  have hd1 : (ni : Int) / (wn : Int) = (y : Int) := by rw [← hy]; exact (Int.natCast_ediv _ _).symm
  have ht1 : Int.tmod (ni : Int) (wn : Int) = (x : Int) := by rw [← hx, Int.tmod_eq_emod_of_nonneg (by omega)]; exact (Int.natCast_emod _ _).symm
  have hm1 : Int.emod (ni : Int) (wn : Int) = (x : Int) := by rw [← hx]; exact (Int.natCast_emod _ _).symm
  have hm2 : (ni : Int) % (wn : Int) = (x : Int) := hm1
  have hd2 : Int.tdiv (ni : Int) (wn : Int) = (y : Int) := by rw [Int.tdiv_eq_ediv_of_nonneg (by omega)]; exact hd1
  have hwx : IntKind.i64.wrap (x : Int) = (x : Int) := IntWalk.i64_in _ (by omega)
  have hwy : IntKind.i64.wrap (y : Int) = (y : Int) := IntWalk.i64_in _ (by omega)
  obtain ⟨X, hX⟩ : ∃ X, tiltX wn zs x y = X := ⟨_, rfl⟩
  obtain ⟨Y, hY⟩ : ∃ Y, tiltY wn hn zs x y = Y := ⟨_, rfl⟩
  rw [hX, hY]
  unfold tiltX at hX
  unfold tiltY at hY
  have hxe0 := hiN_lt hxw
  have hye0 := hiN_lt hyh
  have hxe1 := hiN_ge x wn
  have hye1 := hiN_ge y hn
  have hmn1 := hiN_min' hxw
  have hmn2 := hiN_min' hyh
  have hmx1 := loN_max' x
  have hmx2 := loN_max' y
  obtain ⟨xe, hxe⟩ : ∃ v, hiN x wn = v := ⟨_, rfl⟩
  obtain ⟨ye, hye⟩ : ∃ v, hiN y hn = v := ⟨_, rfl⟩
  obtain ⟨xw, hxv⟩ : ∃ v, x - 1 = v := ⟨_, rfl⟩
  obtain ⟨yn, hyn⟩ : ∃ v, y - 1 = v := ⟨_, rfl⟩
  rw [hxe] at hX hxe0 hxe1 hmn1
  rw [hye] at hY hye0 hye1 hmn2
  rw [hxv] at hX hmx1
  rw [hyn] at hY hmx2
  have hxv2 : xw ≤ x := by omega
  have hyn2 : yn ≤ y := by omega
  obtain ⟨ra, hra⟩ : ∃ r, y * wn = r := ⟨_, rfl⟩
  have hram : (y : Int) * (wn : Int) = (ra : Int) := by rw [← hra]; exact (Int.natCast_mul _ _).symm
  obtain ⟨rc, hrc⟩ : ∃ r, yn * wn = r := ⟨_, rfl⟩
  have hrcm : (yn : Int) * (wn : Int) = (rc : Int) := by rw [← hrc]; exact (Int.natCast_mul _ _).symm
  obtain ⟨rd, hrd⟩ : ∃ r, ye * wn = r := ⟨_, rfl⟩
  have hrdm : (ye : Int) * (wn : Int) = (rd : Int) := by rw [← hrd]; exact (Int.natCast_mul _ _).symm
  obtain ⟨pa, hpa⟩ : ∃ p, y * wn + xw = p := ⟨_, rfl⟩
  have hpal : pa < zs.length := by rw [← hpa, hlw]; exact cell_in (by omega) (by omega)
  have hpaa : (ra : Int) + (xw : Int) = (pa : Int) := by omega
  have hpaw : IntKind.i64.wrap (pa : Int) = (pa : Int) := IntWalk.i64_in _ (by omega)
  obtain ⟨pb, hpb⟩ : ∃ p, y * wn + xe = p := ⟨_, rfl⟩
  have hpbl : pb < zs.length := by rw [← hpb, hlw]; exact cell_in (by omega) (by omega)
  have hpba : (ra : Int) + (xe : Int) = (pb : Int) := by omega
  have hpbw : IntKind.i64.wrap (pb : Int) = (pb : Int) := IntWalk.i64_in _ (by omega)
  obtain ⟨pc, hpc⟩ : ∃ p, yn * wn + x = p := ⟨_, rfl⟩
  have hpcl : pc < zs.length := by rw [← hpc, hlw]; exact cell_in (by omega) (by omega)
  have hpca : (rc : Int) + (x : Int) = (pc : Int) := by omega
  have hpcw : IntKind.i64.wrap (pc : Int) = (pc : Int) := IntWalk.i64_in _ (by omega)
  obtain ⟨pd, hpd⟩ : ∃ p, ye * wn + x = p := ⟨_, rfl⟩
  have hpdl : pd < zs.length := by rw [← hpd, hlw]; exact cell_in (by omega) (by omega)
  have hpda : (rd : Int) + (x : Int) = (pd : Int) := by omega
  have hpdw : IntKind.i64.wrap (pd : Int) = (pd : Int) := IntWalk.i64_in _ (by omega)
  have hraw : IntKind.i64.wrap (ra : Int) = (ra : Int) := IntWalk.i64_in _ (by omega)
  have hrcw : IntKind.i64.wrap (rc : Int) = (rc : Int) := IntWalk.i64_in _ (by omega)
  have hrdw : IntKind.i64.wrap (rd : Int) = (rd : Int) := IntWalk.i64_in _ (by omega)
  rw [hpa, hpb] at hX
  rw [hpc, hpd] at hY
  obtain ⟨fx, hfx⟩ : ∃ v, xe - xw = v := ⟨_, rfl⟩
  obtain ⟨fy, hfy⟩ : ∃ v, ye - yn = v := ⟨_, rfl⟩
  rw [hfx] at hX
  rw [hfy] at hY
  have hfxi : (xe : Int) - (xw : Int) = (fx : Int) := by omega
  have hfyi : (ye : Int) - (yn : Int) = (fy : Int) := by omega
  have hfxw : IntKind.i64.wrap (fx : Int) = (fx : Int) := IntWalk.i64_in _ (by omega)
  have hfyw : IntKind.i64.wrap (fy : Int) = (fy : Int) := IntWalk.i64_in _ (by omega)
  have hs1 : IntKind.i64.wrap ((x : Int) - 1) = (x : Int) - 1 := IntWalk.i64_in _ (by omega)
  have hs2 : IntKind.i64.wrap ((y : Int) - 1) = (y : Int) - 1 := IntWalk.i64_in _ (by omega)
  have hs3 : IntKind.i64.wrap ((wn : Int) - 1) = (wn : Int) - 1 := IntWalk.i64_in _ (by omega)
  have hs4 : IntKind.i64.wrap ((hn : Int) - 1) = (hn : Int) - 1 := IntWalk.i64_in _ (by omega)
  have hs5 : IntKind.i64.wrap ((x : Int) + 1) = (x : Int) + 1 := IntWalk.i64_in _ (by omega)
  have hs6 : IntKind.i64.wrap ((y : Int) + 1) = (y : Int) + 1 := IntWalk.i64_in _ (by omega)
  have HM1 := Lib.hid hmx1
  have HM2 := Lib.hid hmx2
  have HM3 := Lib.hid hmn1
  have HM4 := Lib.hid hmn2
  have HCX : Hid (∀ n1 : Nat, (∃ z, Is32 X z) ∧ ∀ W', (∃ n, W' = (w.drewN n1).drewN n) → Calls Try.prog 84 #[.pointer (some ⟨bh, 0, none⟩), .int .i64 (pa : Int), .int .i64 (pb : Int), .int .i64 (fx : Int)] W' (NumQ X W')) := Lib.hid fun n1 => ⟨by rw [← hX]; exact riseV_ne _ _ _, fun W' ⟨n, hW⟩ => by rw [← hX, hW]; exact l02Rise_any bh a cap pa pb fx zs _ c2 ((H.out.drewN n1).drewN n) hpal hpbl HZ.out⟩
  have HCY : Hid (∀ n1 : Nat, (∃ z, Is32 Y z) ∧ ∀ W', (∃ n, W' = (w.drewN n1).drewN n) → Calls Try.prog 84 #[.pointer (some ⟨bh, 0, none⟩), .int .i64 (pc : Int), .int .i64 (pd : Int), .int .i64 (fy : Int)] W' (NumQ Y W')) := Lib.hid fun n1 => ⟨by rw [← hY]; exact riseV_ne _ _ _, fun W' ⟨n, hW⟩ => by rw [← hY, hW]; exact l02Rise_any bh a cap pc pd fy zs _ c2 ((H.out.drewN n1).drewN n) hpcl hpdl HZ.out⟩
  clear h hz9 hX hY hx hy hmx1 hmx2 hmn1 hmn2 hpa hpb hpc hpd hra hrc hrd hxe hye hxv hyn hfx hfy hlw hi c2
  have P7 := Lib.hid (And.intro hram (And.intro hraw (And.intro hpaa (And.intro hpaw (And.intro hpba (And.intro hpbw (And.intro hfxi hfxw)))))))
  have P8 := Lib.hid (And.intro hrcm (And.intro hrcw (And.intro hrdm (And.intro hrdw (And.intro hpca (And.intro hpcw (And.intro hpda (And.intro hpdw (And.intro hfyi hfyw)))))))))
  clear hram hraw hpaa hpaw hpba hpbw hfxi hfxw hrcm hrcw hrdm hrdw hpca hpcw hpda hpdw hfyi hfyw
  clear hw1 hh1 hzl hil hxw hyh hwnn hxe0 hye0 hxe1 hye1 hxv2 hyn2 hpal hpbl hpcl hpdl
  go_enter Try.func51, Try.ntmps51
  go_wp2_with fail
  refine (l00Max_a _ _ _ _ HM1.out).mono ?_
  rintro e w1 ⟨rfl, rfl⟩
  go_wp2_with fail
  refine (l00Min_a _ _ _ _ HM3.out).mono ?_
  rintro e w1 ⟨rfl, rfl⟩
  go_wp2_with fail
  refine (l00Max_a _ _ _ _ HM2.out).mono ?_
  rintro e w1 ⟨rfl, rfl⟩
  go_wp2_with fail
  refine (l00Min_a _ _ _ _ HM4.out).mono ?_
  rintro e w1 ⟨rfl, rfl⟩
  go_wp2_with fail
  obtain ⟨hram, hraw, hpaa, hpaw, hpba, hpbw, hfxi, hfxw⟩ := P7.out
  clear hs1 hs2 hs3 hs4 hs5 hs6 hd1 ht1 hm1 hm2 hd2 hwx hwy hwz hw0' hwm hw0
  any_goals apply wp_region_V (id := 7) (vmap [(20, V32k _)]) (by kernel_rfl) (by kernel_rfl)
  any_goals (refine wpV_go 1 rfl (fun K hK => ?_); go_simp; refine hK.out _ ?_; clear hK K)
  any_goals (refine wpV_go 2 rfl (fun K hK => ?_); go_simp; refine hK.out _ ?_; clear hK K)
  any_goals (refine wpV_go 3 rfl (fun K hK => ?_); go_simp; refine hK.out _ ?_; clear hK K)
  any_goals (refine wpV_go 4 rfl (fun K hK => ?_); go_simp; refine hK.out _ ?_; clear hK K)
  any_goals (refine wpV_go 5 rfl (fun K hK => ?_); go_simp; refine hK.out _ ?_; clear hK K)
  any_goals (refine wpV_go 6 rfl (fun K hK => ?_); go_simp; refine hK.out _ ?_; clear hK K)
  any_goals (refine wpV_go 7 rfl (fun K hK => ?_); go_simp; refine hK.out _ ?_; clear hK K)
  any_goals (refine wpV_go 8 rfl (fun K hK => ?_); go_simp; refine hK.out _ ?_; clear hK K)
  any_goals (refine wpV_go 9 rfl (fun K hK => ?_); go_simp; refine hK.out _ ?_; clear hK K)
  any_goals (refine wpV_go 10 rfl (fun K hK => ?_); go_simp; refine hK.out _ ?_; clear hK K)
  any_goals (refine wpV_go 11 rfl (fun K hK => ?_); go_simp; refine hK.out _ ?_; clear hK K)
  any_goals (refine wpV_go 12 rfl (fun K hK => ?_); go_simp; refine hK.out _ ?_; clear hK K)
  any_goals (refine wpV_go 13 rfl (fun K hK => ?_); go_simp; refine hK.out _ ?_; clear hK K)
  any_goals (refine wpV_go 14 rfl (fun K hK => ?_); go_simp; refine hK.out _ ?_; clear hK K)
  any_goals (refine wpV_go 15 rfl (fun K hK => ?_); go_simp; refine hK.out _ ?_; clear hK K)
  any_goals (refine wpV_go 16 rfl (fun K hK => ?_); go_simp; refine hK.out _ ?_; clear hK K)
  any_goals (refine wpV_go 17 rfl (fun K hK => ?_); go_simp; refine hK.out _ ?_; clear hK K)
  any_goals (refine wpV_go 18 rfl (fun K hK => ?_); go_simp; refine hK.out _ ?_; clear hK K)
  any_goals (refine wpV_go 19 rfl (fun K hK => ?_); go_simp; refine hK.out _ ?_; clear hK K)
  any_goals (refine wpV_go 20 rfl (fun K hK => ?_); go_simp; refine hK.out _ ?_; clear hK K)
  any_goals (refine wpV_num4 21 rfl (drewC _) rfl (enters_of Try.func84 (by kernel_rfl) rfl) rfl rfl rfl rfl rfl (by have h9 := HCX.out 0; rw [World.drewN_zero] at h9; exact h9) rfl ?_; intro z1 hz1)
  any_goals (refine wpV_go 22 rfl (fun K hK => ?_); go_simp; refine hK.out _ ?_; clear hK K)
  any_goals (refine wpV_nil ?_; intro q7)
  go_wp2_with fail
  obtain ⟨hrcm, hrcw, hrdm, hrdw, hpca, hpcw, hpda, hpdw, hfyi, hfyw⟩ := P8.out
  clear hram hraw hpaa hpaw hpba hpbw hfxi hfxw
  any_goals apply wp_region_V (id := 8) (vmap [(21, V32k _)]) (by kernel_rfl) (by kernel_rfl)
  any_goals (refine wpV_go 1 rfl (fun K hK => ?_); go_simp; refine hK.out _ ?_; clear hK K)
  any_goals (refine wpV_go 2 rfl (fun K hK => ?_); go_simp; refine hK.out _ ?_; clear hK K)
  any_goals (refine wpV_go 3 rfl (fun K hK => ?_); go_simp; refine hK.out _ ?_; clear hK K)
  any_goals (refine wpV_go 4 rfl (fun K hK => ?_); go_simp; refine hK.out _ ?_; clear hK K)
  any_goals (refine wpV_go 5 rfl (fun K hK => ?_); go_simp; refine hK.out _ ?_; clear hK K)
  any_goals (refine wpV_go 6 rfl (fun K hK => ?_); go_simp; refine hK.out _ ?_; clear hK K)
  any_goals (refine wpV_go 7 rfl (fun K hK => ?_); go_simp; refine hK.out _ ?_; clear hK K)
  any_goals (refine wpV_go 8 rfl (fun K hK => ?_); go_simp; refine hK.out _ ?_; clear hK K)
  any_goals (refine wpV_go 9 rfl (fun K hK => ?_); go_simp; refine hK.out _ ?_; clear hK K)
  any_goals (refine wpV_go 10 rfl (fun K hK => ?_); go_simp; refine hK.out _ ?_; clear hK K)
  any_goals (refine wpV_go 11 rfl (fun K hK => ?_); go_simp; refine hK.out _ ?_; clear hK K)
  any_goals (refine wpV_go 12 rfl (fun K hK => ?_); go_simp; refine hK.out _ ?_; clear hK K)
  any_goals (refine wpV_go 13 rfl (fun K hK => ?_); go_simp; refine hK.out _ ?_; clear hK K)
  any_goals (refine wpV_go 14 rfl (fun K hK => ?_); go_simp; refine hK.out _ ?_; clear hK K)
  any_goals (refine wpV_go 15 rfl (fun K hK => ?_); go_simp; refine hK.out _ ?_; clear hK K)
  any_goals (refine wpV_go 16 rfl (fun K hK => ?_); go_simp; refine hK.out _ ?_; clear hK K)
  any_goals (refine wpV_go 17 rfl (fun K hK => ?_); go_simp; refine hK.out _ ?_; clear hK K)
  any_goals (refine wpV_go 18 rfl (fun K hK => ?_); go_simp; refine hK.out _ ?_; clear hK K)
  any_goals (refine wpV_go 19 rfl (fun K hK => ?_); go_simp; refine hK.out _ ?_; clear hK K)
  any_goals (refine wpV_go 20 rfl (fun K hK => ?_); go_simp; refine hK.out _ ?_; clear hK K)
  any_goals (refine wpV_go 21 rfl (fun K hK => ?_); go_simp; refine hK.out _ ?_; clear hK K)
  any_goals (refine wpV_num4 22 rfl (drewC _) rfl (enters_of Try.func84 (by kernel_rfl) rfl) rfl rfl rfl rfl rfl (HCY.out _) rfl ?_; intro z2 hz2)
  any_goals (refine wpV_go 23 rfl (fun K hK => ?_); go_simp; refine hK.out _ ?_; clear hK K)
  any_goals (refine wpV_go 24 rfl (fun K hK => ?_); go_simp; refine hK.out _ ?_; clear hK K)
  any_goals (refine wpV_nil ?_; intro q8)
  go_wp2_with fail
  go_ret
  exact ⟨z1, z2, rfl, hz1, hz2, _, by rw [World.drewN_drewN]⟩

end Go.Proofs.Ytdpnkpgfepckdaa
