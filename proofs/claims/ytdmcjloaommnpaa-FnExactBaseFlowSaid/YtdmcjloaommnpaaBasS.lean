/- Base flows: the model. -/
import Derived.Test.YtdmcjloaommnpaaBasI
namespace Go.Proofs.Ytdmcjloaommnpaa
open Go.RowKit
set_option linter.unusedVariables false
set_option linter.unusedSimpArgs false
set_option maxRecDepth 100000
attribute [local irreducible] wpV wpList Code.wp

set_option maxHeartbeats 16000000 in
theorem baseFlow_s {K : Option Nat} {kp : Nat} (a : Option Addr) (cap : Nat) (zs : List Nat) (w : World) (h : RowF .f32 w a zs) (hl : zs.length ≤ 1048576) (hz : ∀ z ∈ zs, z < 4294967296) (hk : Is32 K kp) : Calls Try.prog 32 #[.slice a zs.length cap, .float .f32 kp] w (ListB (baseO zs K) w) := by
  have Hr := Lib.hid (l07Gauge_o a cap zs w h hl hz)
  have H := Lib.hid h
  have Hz := Lib.hid hz
  clear h hz
  have Bno := Lib.hid (@base_no zs K)
  have Bout := Lib.hid (@base_out zs K)
  have Bgo := Lib.hid (@base_go zs K)
  generalize baseO zs K = R at *
  go_enter Try.func32, Try.ntmps32
  go_wp2_with fail
  refine Hr.out.mono ?_
  rintro e w1 ⟨bb, hbb, rfl, n1, rfl⟩
  have HB1 : Hid (Below w.heap.size w (w.drewN n1)) := Lib.hid (beld (Below.refl _ _) _)
  generalize w.drewN n1 = w1 at *
  have Hbb := Lib.hid hbb
  clear hbb Hr
  cases bb
  · go_wp2_with fail
    go_ret2
    rw [Bno.out Hbb.out]
    exact ListB.no (by first | exact HB1.out | exact beld HB1.out _ | exact beld (beld HB1.out _) _)
  go_wp2_with fail
  refine (l02Share_o _ hk).mono ?_
  rintro e w' ⟨bb, hbb, rfl, rfl⟩
  have Hs := Lib.hid hbb
  clear hbb
  cases bb
  · go_wp2_with fail
    go_ret2
    rw [Bout.out Hs.out]
    exact ListB.no (by first | exact HB1.out | exact beld HB1.out _ | exact beld (beld HB1.out _) _)
  have HR := Lib.hid (Bgo.out Hbb.out Hs.out)
  have hlen128 := gauB_len Hbb.out
  have hpos := gauB_pos Hbb.out
  have H1 := Lib.hid (H.out.below HB1.out (Nat.le_refl _))
  have Hnn := Lib.hid (baQ_nn Hz.out hk Hs.out Hbb.out)
  have Hmx := Lib.hid (baQ_max Hz.out hk Hs.out Hbb.out)
  have Hfi := Lib.hid (baL_fin Hz.out hk Hs.out Hbb.out _ (Nat.le_refl _))
  obtain ⟨b, off, ha⟩ : ∃ b off, a = some ⟨b, off, none⟩ := by rcases H.out with h9 | ⟨b', o', h1, _, _⟩; exact absurd h9 (by intro h8; rw [h8] at hpos; simp at hpos); exact ⟨b', o', h1⟩
  subst ha
  have hc1 := H1.out.cells 0 (by omega)
  obtain ⟨b8, o8, h8, hc1⟩ := hc1
  cases h8
  rw [Nat.add_zero] at hc1
  have hx0 : zs.getD 0 0 < 4294967296 := getD_lt Hz.out 0 (by omega)
  have HN := Lib.hid (rfl : zs.length = zs.length)
  obtain ⟨n, hn⟩ : ∃ n, zs.length = n := ⟨_, rfl⟩
  rw [hn] at hl hlen128 hpos HR Hfi HN ⊢
  have Hn := Lib.hid hn
  clear hn HN
  obtain ⟨x00, hx00⟩ : ∃ x, zs.getD 0 0 = x := ⟨_, rfl⟩
  rw [hx00] at hc1 hx0
  have Hx00 := Lib.hid hx00
  have Hx0 := Lib.hid hx0
  clear hx00 hx0
  have hn0 : (0 : Int) < (n : Int) := by omega
  have hlit : RowO (w1.alloc (.cells #[.float .f32 x00] 26)) w.heap.size (.slice (some ⟨w1.heap.size, 0, none⟩) 1 1) [x00] := World.ownsRow_lit (base := w.heap.size) (e := 26) (size := 1) w1 #[.float .f32 x00] 1 HB1.out.size (by decide) rfl
  have HLit := Lib.hid hlit
  have HBL : Hid (Below w.heap.size w (w1.alloc (.cells #[.float .f32 x00] 26))) := Lib.hid (HB1.out.alloc HB1.out.size _)
  clear hlit
  go_wp2_with (first | ((with_reducible refine wpList_bin ?_); refine wpList_f32 rfl _ _ _ _ _ rfl rfl rfl (by decide) (by first | assumption | exact Is32.c (by decide)) (by first | assumption | exact Is32.c (by decide)) ?_; intro z n9 hz))
  have HP : Hid (Is32 (baP K) z) := Lib.hid hz
  clear hz hc1
  go_loopw [6, 7, 9] (fun vv qv kv wr => ∃ (j : Nat) (ls : List Nat) (q : Nat) (v : Value), j + 1 ≤ n ∧ v = vv ∧ kv = .int .i64 ((j : Int) + 1) ∧ qv = .float .f32 q ∧ Hid (Is32 (baQ K zs j) q) ∧ Hid (ls.length = j + 1) ∧ Hid (Is32s (baL K zs (j + 1)) ls) ∧ Hid (RowO wr w.heap.size v ls) ∧ Hid (Below w.heap.size w wr)) (fun _ _ kv _ => n - (intOf kv).toNat)
  case atStart => exact ⟨0, [x00], 0, _, by omega, rfl, by go_num, rfl, Lib.hid (Is32.c (by decide)), Lib.hid rfl, Lib.hid (Is32s.snoc Is32s.nil (by rw [show baX K zs 0 = some x00 by rw [← Hx00.out]; rfl]; exact Is32.c Hx0.out)), Lib.hid (by first | exact HLit.out | exact HLit.out.drewN _), Lib.hid (by first | exact HBL.out | exact beld HBL.out _)⟩
  case round =>
    obtain ⟨j, ls, q, v, hj, hvv, rfl, rfl, HQx, HLk, HIl, HRw, HBk⟩ := hrel
    subst hvv
    by_cases hlt : j + 1 < n
    · have hk1 : (j : Int) + 1 < (n : Int) := by omega
      have hk0 : (0 : Int) ≤ (j : Int) + 1 := by omega
      have hj0 : (0 : Int) ≤ (j : Int) := by omega
      have hj1 : (j : Int) < (n : Int) := by omega
      have hw9 : IntKind.i64.wrap (j : Int) = (j : Int) := IntWalk.i64_in _ (by omega)
      have htn : ((j : Int) + 1).toNat = j + 1 := by omega
      obtain ⟨b8, o8, h8, hc1⟩ := ((H.out.below HBk.out (Nat.le_refl _)).cells) (j + 1) (by rw [Hn.out]; exact hlt)
      cases h8
      obtain ⟨b8, o8, h8, hc0⟩ := ((H.out.below HBk.out (Nat.le_refl _)).cells) j (by rw [Hn.out]; omega)
      cases h8
      have hz1 : Is32 (some (zs.getD (j + 1) 0)) (zs.getD (j + 1) 0) := Is32.c (getD_lt Hz.out _ (by rw [Hn.out]; exact hlt))
      have hz0 : Is32 (some (zs.getD j 0)) (zs.getD j 0) := Is32.c (getD_lt Hz.out _ (by rw [Hn.out]; omega))
      have HRaw : Hid (fop .add .f32 (fop .mul .f32 K (baQ K zs j)) (fop .mul .f32 (baP K) (fop .sub .f32 (some (zs.getD (j + 1) 0)) (some (zs.getD j 0)))) = baR K (baQ K zs j) zs j) := Lib.hid rfl
      have HQn : Hid (baQ K zs (j + 1) = posq (baR K (baQ K zs j) zs j)) := Lib.hid rfl
      have HXn : Hid (baX K zs (j + 1) = clampO (fop .sub .f32 (some (zs.getD (j + 1) 0)) (baQ K zs (j + 1)))) := Lib.hid rfl
      have HLn := Lib.hid (baL_succ K zs (j + 1))
      generalize baR K (baQ K zs j) zs j = W at *
      generalize baX K zs (j + 1) = Z at *
      generalize hQ2 : baQ K zs (j + 1) = Q2 at *
      have HQ2 := Lib.hid hQ2
      clear hQ2
      generalize baQ K zs j = Q at *
      generalize zs.getD (j + 1) 0 = x at *
      generalize zs.getD j 0 = x0 at *
      have hq9 := HQx.out
      have hp9 := HP.out
      have HLo : Hid (w.heap.size ≤ wr.heap.size) := Lib.hid HBk.out.size
      go_wp2_with fail
      apply wp_region_V (id := 9) (vmap [(2, V32k (fop .mul .f32 K Q)), (13, V32k (fop .sub .f32 (some x) (some x0))), (14, V32k (fop .mul .f32 (baP K) (fop .sub .f32 (some x) (some x0)))), (15, V32k (fop .add .f32 (fop .mul .f32 K Q) (fop .mul .f32 (baP K) (fop .sub .f32 (some x) (some x0)))))]) (by kernel_rfl) (by kernel_rfl)
      (refine wpV_go 1 rfl (fun K hK => ?_); go_simp; refine hK.out _ ?_; clear hK K)
      (refine wpV_go 2 rfl (fun K hK => ?_); go_simp; refine hK.out _ ?_; clear hK K)
      (refine wpV_f32 3 rfl (drewC _) _ _ _ _ _ rfl rfl rfl rfl (by decide) (by first | assumption | exact Is32.c (by decide)) (by first | assumption | exact Is32.c (by decide)) rfl ?_; intro zw hz)
      (refine wpV_go 4 rfl (fun K hK => ?_); go_simp; refine hK.out _ ?_; clear hK K)
      (refine wpV_go 5 rfl (fun K hK => ?_); go_simp; refine hK.out _ ?_; clear hK K)
      (refine wpV_go 6 rfl (fun K hK => ?_); go_simp; refine hK.out _ ?_; clear hK K)
      (refine wpV_go 7 rfl (fun K hK => ?_); go_simp; refine hK.out _ ?_; clear hK K)
      (refine wpV_go 8 rfl (fun K hK => ?_); go_simp; refine hK.out _ ?_; clear hK K)
      (refine wpV_go 9 rfl (fun K hK => ?_); go_simp; refine hK.out _ ?_; clear hK K)
      (refine wpV_go 10 rfl (fun K hK => ?_); go_simp; refine hK.out _ ?_; clear hK K)
      (refine wpV_go 11 rfl (fun K hK => ?_); go_simp; refine hK.out _ ?_; clear hK K)
      (refine wpV_go 12 rfl (fun K hK => ?_); go_simp; refine hK.out _ ?_; clear hK K)
      (refine wpV_go 13 rfl (fun K hK => ?_); go_simp; refine hK.out _ ?_; clear hK K)
      (refine wpV_f32 14 rfl (drewC _) _ _ _ _ _ rfl rfl rfl rfl (by decide) (by first | assumption | exact Is32.c (by decide)) (by first | assumption | exact Is32.c (by decide)) rfl ?_; intro zw hz)
      (refine wpV_f32 15 rfl (drewC _) _ _ _ _ _ rfl rfl rfl rfl (by decide) (by first | assumption | exact Is32.c (by decide)) (by first | assumption | exact Is32.c (by decide)) rfl ?_; intro zw hz)
      (refine wpV_f32 16 rfl (drewC _) _ _ _ _ _ rfl rfl rfl rfl (by decide) (by first | assumption | exact Is32.c (by decide)) (by first | assumption | exact Is32.c (by decide)) rfl ?_; intro zw hz)
      (refine wpV_go 17 rfl (fun K hK => ?_); go_simp; refine hK.out _ ?_; clear hK K)
      (refine wpV_nil ?_; intro q9)
      have hq1 : Is32 W zw := by rw [← HRaw.out]; exact hz
      clear hz hq9 hp9 hz0
      go_upto_region 12 with (first | ((with_reducible refine wpList_bin ?_); refine wpList_c32 rfl _ _ _ _ _ rfl rfl rfl (by decide) (by first | assumption | exact Is32.c (by decide)) (by first | assumption | exact Is32.c (by decide)) ?_; intro bb hbb; cases bb))
      · have HQe : Hid (Q2 = some 0) := Lib.hid (by rw [HQn.out]; unfold posq; rw [hbb]; rfl)
        clear hbb
        go_wp2_with (first | ((with_reducible refine wpList_bin ?_); refine wpList_f32 rfl _ _ _ _ _ rfl rfl rfl (by decide) (by first | assumption | exact Is32.c (by decide)) (by first | assumption | exact Is32.c (by decide)) ?_; intro z n9 hz) | ((with_reducible refine wpList_bin ?_); refine wpList_c32 rfl _ _ _ _ _ rfl rfl rfl (by decide) (by first | assumption | exact Is32.c (by decide)) (by first | assumption | exact Is32.c (by decide)) ?_; intro bb hbb; cases bb) | (at_builtin; refine push_any rfl rfl _ _ rfl (lo := w.heap.size) (v := v) rfl (by first | exact (HRw.out.drewN _).alloc _ | exact ((HRw.out.drewN _).drewN _).alloc _) _ _ _ rfl (Bx.new _ [.float .f32 _] _ |> fun h => h.c 0 rfl) (by rw [HLk.out]; omega) (by have := HLo.out; simp; omega) ?_; intro gn kn w8 hr8 hp8; have HB8 := Lib.hid (Below.pushed (Below.alloc (by first | exact beld HBk.out _ | exact beld (beld HBk.out _) _ : Below w.heap.size w _) (by have := HLo.out; simp; omega) _) hp8 (by first | exact (HRw.out.drewN _).alloc _ | exact ((HRw.out.drewN _).drewN _).alloc _) (Nat.le_refl _) (by have := HLo.out; simp; omega)); have HR8 := Lib.hid hr8; clear hr8 hp8))
        all_goals
          go_roundw
          case rel => first | exact ⟨j + 1, ls ++ [z], _, _, by omega, rfl, by go_num, rfl, Lib.hid (by rw [HQ2.out, HQe.out]; first | exact hq1 | exact Is32.c (by decide)), Lib.hid (by rw [List.length_append, List.length_singleton, HLk.out]), Lib.hid (by rw [HLn.out]; refine HIl.out.snoc ?_; rw [HXn.out, HQe.out]; unfold clampO; rw [hbb]; exact hz), HR8, HB8⟩ | exact ⟨j + 1, ls ++ [0], _, _, by omega, rfl, by go_num, rfl, Lib.hid (by rw [HQ2.out, HQe.out]; first | exact hq1 | exact Is32.c (by decide)), Lib.hid (by rw [List.length_append, List.length_singleton, HLk.out]), Lib.hid (by rw [HLn.out]; refine HIl.out.snoc ?_; rw [HXn.out, HQe.out]; unfold clampO; rw [hbb]; exact Is32.c (by decide)), HR8, HB8⟩
          case measure => simp [intOf]; omega
      · have HQe : Hid (Q2 = W) := Lib.hid (by rw [HQn.out]; unfold posq; rw [hbb]; rfl)
        clear hbb
        go_wp2_with (first | ((with_reducible refine wpList_bin ?_); refine wpList_f32 rfl _ _ _ _ _ rfl rfl rfl (by decide) (by first | assumption | exact Is32.c (by decide)) (by first | assumption | exact Is32.c (by decide)) ?_; intro z n9 hz) | ((with_reducible refine wpList_bin ?_); refine wpList_c32 rfl _ _ _ _ _ rfl rfl rfl (by decide) (by first | assumption | exact Is32.c (by decide)) (by first | assumption | exact Is32.c (by decide)) ?_; intro bb hbb; cases bb) | (at_builtin; refine push_any rfl rfl _ _ rfl (lo := w.heap.size) (v := v) rfl (by first | exact (HRw.out.drewN _).alloc _ | exact ((HRw.out.drewN _).drewN _).alloc _) _ _ _ rfl (Bx.new _ [.float .f32 _] _ |> fun h => h.c 0 rfl) (by rw [HLk.out]; omega) (by have := HLo.out; simp; omega) ?_; intro gn kn w8 hr8 hp8; have HB8 := Lib.hid (Below.pushed (Below.alloc (by first | exact beld HBk.out _ | exact beld (beld HBk.out _) _ : Below w.heap.size w _) (by have := HLo.out; simp; omega) _) hp8 (by first | exact (HRw.out.drewN _).alloc _ | exact ((HRw.out.drewN _).drewN _).alloc _) (Nat.le_refl _) (by have := HLo.out; simp; omega)); have HR8 := Lib.hid hr8; clear hr8 hp8))
        all_goals
          go_roundw
          case rel => first | exact ⟨j + 1, ls ++ [z], _, _, by omega, rfl, by go_num, rfl, Lib.hid (by rw [HQ2.out, HQe.out]; first | exact hq1 | exact Is32.c (by decide)), Lib.hid (by rw [List.length_append, List.length_singleton, HLk.out]), Lib.hid (by rw [HLn.out]; refine HIl.out.snoc ?_; rw [HXn.out, HQe.out]; unfold clampO; rw [hbb]; exact hz), HR8, HB8⟩ | exact ⟨j + 1, ls ++ [0], _, _, by omega, rfl, by go_num, rfl, Lib.hid (by rw [HQ2.out, HQe.out]; first | exact hq1 | exact Is32.c (by decide)), Lib.hid (by rw [List.length_append, List.length_singleton, HLk.out]), Lib.hid (by rw [HLn.out]; refine HIl.out.snoc ?_; rw [HXn.out, HQe.out]; unfold clampO; rw [hbb]; exact Is32.c (by decide)), HR8, HB8⟩
          case measure => simp [intOf]; omega
    · obtain rfl : j + 1 = n := by omega
      have hk1 : ¬ (j : Int) + 1 < ((j + 1 : Nat) : Int) := by omega
      have hfin := Hfi.out
      have hls := HIl.out.exact hfin
      have HQ : Hid (R = (ls, true)) := Lib.hid (by rw [HR.out, hls])
      obtain ⟨av, cv, hav⟩ := HRw.out.len
      subst hav
      have HF := Lib.hid (l02Finite_9 av cv ls.length ls wr (FRow.mk HRw.out).row rfl (by rw [HLk.out]; exact hl) (by rw [HIl.out.fin]; exact hfin))
      clear hfin hls
      go_wp2_with fail
      refine HF.out.mono ?_
      rintro e w9 ⟨rfl, m9, rfl⟩
      go_wp2_with fail
      go_ret2
      rw [HQ.out]
      exact ListB.yes (HRw.out.drewN m9) (Nat.le_refl _) (by rw [HLk.out]; exact hl) (beld HBk.out m9)

end Go.Proofs.Ytdmcjloaommnpaa
