/- Base flows: the program and its model alike. -/
import Derived.Test.YtdmcjloaommnpaaBasV
import Derived.Test.YtdmcjloaommnpaaClone5
import Derived.Test.YtdmcjloaommnpaaRegionI
import Derived.Deep.Cut
namespace Go.Proofs.Ytdmcjloaommnpaa
open Go.RowKit
set_option linter.unusedVariables false
set_option linter.unusedSimpArgs false
set_option maxRecDepth 100000
attribute [local irreducible] wpV wpList Code.wp

section
variable {P : Program} {ops : Array Oper} {C : World → Prop} {V : Nat → Option (Value → Prop)} {Q : Act → Prop} {a : Act} {rest : List Oper} {o : Oper} {i : Nat}
theorem wpV_max (j : Nat) (hj : i + 1 = j) (hC : ∀ w n, C w → C (w.drewN n)) (l r : Operand) (ats : Array TypeId) (hop : o.op = .call { callee := .builtin .max, args := #[l, r], argTypes := ats }) {X Y : Option Nat} {x y : Nat} (hw : Region.wanted o (yielded ops a.tmps) = true)
    (hl : a.eval l = .float .f32 x) (hr : a.eval r = .float .f32 y) (hx : Is32 X x) (hy : Is32 Y y) (hV : V i = some (V32k (maxO X Y)))
    (hK : ∀ z, Is32 (maxO X Y) z → wpV P ops C V Q j rest (a.put o.dst (.float .f32 z))) : wpV P ops C V Q i (o :: rest) a := by
  subst hj
  unfold wpV
  rw [if_pos hw, hV]
  refine ⟨?_, fun w hCw => ?_, ?_⟩
  · obtain ⟨z, n, _, hz⟩ := run_max32 (P := P) default ats o.type hx hy
    exact ⟨_, z, rfl, hz⟩
  · obtain ⟨z, n, hrun, hz⟩ := run_max32 (P := P) w ats o.type hx hy
    simp [execOp, hop, resolve, invoke, builtin, Sem.run_bind, Sem.run_pure, Result.andThen_ok, hl, hr, hrun, Result.andThen, someUpon]
    exact ⟨hC _ _ hCw, z, rfl, hz⟩
  · rintro v ⟨z, rfl, hz⟩
    exact hK z hz
end
theorem drop_one (zs : List Nat) (h : 0 < zs.length) : [zs.getD 0 0] ++ zs.drop 1 = zs := by
  cases zs with
  | nil => simp at h
  | cons a l => rfl
theorem all_not9 (zs : List Nat) (k : Nat) (h : k < zs.length) (hf : fin32 (zs.getD k 0) = false) : zs.all fin32 = false := by
  rw [List.all_eq_false]
  refine ⟨zs[k], List.getElem_mem h, ?_⟩
  rw [List.getD_eq_getElem?_getD, List.getElem?_eq_getElem h] at hf
  simpa using hf
set_option maxHeartbeats 1000000 in
theorem l02Finite_9 (a : Option Addr) (cap n : Nat) (zs : List Nat) (w : World) (h : RowF .f32 w a zs) (hn : zs.length = n) (hl : n ≤ 1048576) (hall : zs.all fin32 = true) :
    Calls Try.prog 78 #[.slice a n cap] w fun e w' => e = .returned (.bool true) ∧ ∃ n, w' = w.drewN n := by
  subst hn
  have Hc := Lib.hid h.cells
  have Ha := Lib.hid hall
  clear h hall
  obtain ⟨len, hlen⟩ : ∃ len, zs.length = len := ⟨_, rfl⟩
  rw [hlen] at hl ⊢
  have Hlen := Lib.hid hlen
  clear hlen
  go_enter Try.func78, Try.ntmps78
  go_wp2_with fail
  go_loopw [3] (fun i wr => ∃ k n : Nat, k ≤ len ∧ i = .int .i64 k ∧ wr = w.drewN n) (fun i _ => len - (intOf i).toNat)
  case atStart => exact ⟨0, 0, Nat.zero_le _, rfl, rfl⟩
  case round =>
    obtain ⟨k, n, hk, rfl, rfl⟩ := hrel
    by_cases hlt : k < len
    · obtain ⟨b, off, rfl, h1⟩ := Hc.out k (by rw [Hlen.out]; exact hlt)
      have Hf : Hid (fin32 (zs.getD k 0) = true) := Lib.hid (by
        have := List.all_eq_true.1 Ha.out (zs.getD k 0) (by rw [List.getD_eq_getElem?_getD, List.getElem?_eq_getElem (by rw [Hlen.out]; exact hlt)]; exact List.getElem_mem (by rw [Hlen.out]; exact hlt))
        exact this)
      generalize zs.getD k 0 = z at *
      have hk0 : (0 : Int) ≤ (k : Int) := by omega
      have hk1 : (k : Int) < (len : Int) := by omega
      go_wp2_with (go_at_call 56; refine ((show fin32 z = true from Hf.out) ▸ l01Finite_any z _ : Calls Try.prog 56 #[.float .f32 z] _ fun e w' => e = .returned (.bool true) ∧ ∃ n, w' = World.drewN _ n).mono ?_; rintro e w' ⟨rfl, m, rfl⟩)
      go_roundw
      case rel => exact ⟨k + 1, _, by omega, by go_num, by first | rfl | exact World.drewN_drewN _ _ _⟩
      case measure => simp [intOf]; omega
    · obtain rfl : k = len := by omega
      go_wp2_with fail
      go_ret
      exact ⟨rfl, _, rfl⟩

set_option maxHeartbeats 16000000 in
theorem baseFlow_i {K : Option Nat} {kp : Nat} (a : Option Addr) (cap : Nat) (zs : List Nat) (w : World) (h : RowF .f32 w a zs) (hl : zs.length ≤ 1048576) (hz : ∀ z ∈ zs, z < 4294967296) (hk : Is32 K kp) : Calls Try.prog 33 #[.slice a zs.length cap, .float .f32 kp] w (ListB (baseO zs K) w) := by
  have Hr := Lib.hid (isGauge_i a cap zs w h hl hz)
  have H := Lib.hid h
  have Hz := Lib.hid hz
  clear h hz
  have Bno := Lib.hid (@base_no zs K)
  have Bout := Lib.hid (@base_out zs K)
  have Bgo := Lib.hid (@base_go zs K)
  generalize baseO zs K = R at *
  go_enter Try.func33, Try.ntmps33
  go_wp2_with fail
  refine Hr.out.mono ?_
  rintro e w1 ⟨bb, hbb, rfl, hb⟩
  have HB1 := Lib.hid hb
  clear hb
  have Hbb := Lib.hid hbb
  clear hbb Hr
  cases bb
  · go_wp2_with fail
    go_ret2
    rw [Bno.out Hbb.out]
    exact ListB.no (by first | exact HB1.out | exact beld HB1.out _ | exact beld (beld HB1.out _) _)
  go_wp2_with fail
  refine (isShare_o _ hk).mono ?_
  rintro e w' ⟨bb, hbb, rfl, rfl⟩
  have Hs := Lib.hid hbb
  clear hbb
  cases bb
  · go_wp2_with fail
    go_ret2
    rw [Bout.out Hs.out]
    exact ListB.no (by first | exact HB1.out | exact beld HB1.out _ | exact beld (beld HB1.out _) _)
  have HR := Lib.hid (Bgo.out Hbb.out Hs.out)
  have hlen128 := gauB_len Hbb.out
  have hpos := gauB_pos Hbb.out
  have H1 := Lib.hid (H.out.below HB1.out (Nat.le_refl _))
  have Hnn := Lib.hid (baQ_nn Hz.out hk Hs.out Hbb.out)
  have Hmx := Lib.hid (baQ_max Hz.out hk Hs.out Hbb.out)
  have Hfi := Lib.hid (baL_fin Hz.out hk Hs.out Hbb.out _ (Nat.le_refl _))
  go_wp2_with fail
  refine (clone_f a cap zs _ H1.out hl (by omega)).mono ?_
  rintro e w2 ⟨gb, gc, rfl, hown, hb⟩
  have HB2 := Lib.hid (HB1.out.trans (hb.mono HB1.out.size))
  have HG : Hid (w.heap.size ≤ gb) := Lib.hid (Nat.le_trans HB1.out.size (hown.lo gb rfl).1)
  have HRow := Lib.hid hown
  clear hown hb
  have HN := Lib.hid (rfl : zs.length = zs.length)
  obtain ⟨n, hn⟩ : ∃ n, zs.length = n := ⟨_, rfl⟩
  rw [hn] at hl hlen128 hpos HR Hfi HN ⊢
  have Hn := Lib.hid hn
  clear hn HN
  go_wp2_with (first | ((with_reducible refine wpList_bin ?_); refine wpList_f32 rfl _ _ _ _ _ rfl rfl rfl (by decide) (by first | assumption | exact Is32.c (by decide)) (by first | assumption | exact Is32.c (by decide)) ?_; intro z n9 hz))
  have HP : Hid (Is32 (baP K) z) := Lib.hid hz
  clear hz
  generalize hW3 : World.drewN w2 _ = W3
  have HB3 : Hid (Below w.heap.size w W3) := Lib.hid (by rw [← hW3]; exact beld HB2.out _)
  have HR3 : Hid (RowO W3 w1.heap.size (.slice (some ⟨gb, 0, none⟩) n gc) zs) := Lib.hid (by have h9 := HRow.out; rw [Hn.out] at h9; rw [← hW3]; exact h9.drewN _)
  clear hW3
  obtain ⟨lo, hlo⟩ : ∃ lo, w1.heap.size = lo := ⟨_, rfl⟩
  have Hlo : Hid (w.heap.size ≤ lo) := Lib.hid (by rw [← hlo]; exact HB1.out.size)
  rw [hlo] at HR3
  clear hlo HRow
  go_loopw [8, 9] (fun qv kv wr => ∃ (j : Nat) (ls : List Nat) (q : Nat), j + 1 ≤ n ∧ kv = .int .i64 ((j : Int) + 1) ∧ qv = .float .f32 q ∧ Hid (Is32 (baQ K zs j) q) ∧ Hid (ls.length = j + 1) ∧ Hid (Is32s (baL K zs (j + 1)) ls) ∧ Hid (RowO wr lo (.slice (some ⟨gb, 0, none⟩) n gc) (ls ++ zs.drop (j + 1))) ∧ Hid (Below w.heap.size w wr)) (fun _ kv _ => n - (intOf kv).toNat)
  case atStart => exact ⟨0, [zs.getD 0 0], 0, by omega, by go_num, rfl, Lib.hid (Is32.c (by decide)), Lib.hid rfl, Lib.hid (Is32s.snoc Is32s.nil (Is32.c (getD_lt Hz.out 0 (by rw [Hn.out]; omega)))), Lib.hid (by have e9 := drop_one zs (by rw [Hn.out]; omega); show RowO _ _ _ ([zs.getD 0 0] ++ zs.drop 1); rw [e9]; exact HR3.out), HB3⟩
  case round =>
    obtain ⟨j, ls, q, hj, rfl, rfl, HQx, HLk, HIl, HRw, HBk⟩ := hrel
    by_cases hlt : j + 1 < n
    · have hk1 : (j : Int) + 1 < (n : Int) := by omega
      have hk0 : (0 : Int) ≤ (j : Int) + 1 := by omega
      have hj0 : (0 : Int) ≤ (j : Int) := by omega
      have hj1 : (j : Int) < (n : Int) := by omega
      have hw9 : IntKind.i64.wrap (j : Int) = (j : Int) := IntWalk.i64_in _ (by omega)
      have htn : ((j : Int) + 1).toNat = j + 1 := by omega
      obtain ⟨b, off, rfl, hc1⟩ := ((H.out.below HBk.out (Nat.le_refl _)).cells) (j + 1) (by rw [Hn.out]; exact hlt)
      obtain ⟨b8, o8, h8, hc0⟩ := ((H.out.below HBk.out (Nat.le_refl _)).cells) j (by rw [Hn.out]; omega)
      cases h8
      have hz1 : Is32 (some (zs.getD (j + 1) 0)) (zs.getD (j + 1) 0) := Is32.c (getD_lt Hz.out _ (by rw [Hn.out]; exact hlt))
      have hz0 : Is32 (some (zs.getD j 0)) (zs.getD j 0) := Is32.c (getD_lt Hz.out _ (by rw [Hn.out]; omega))
      have HRaw : Hid (fop .add .f32 (fop .mul .f32 K (baQ K zs j)) (fop .mul .f32 (baP K) (fop .sub .f32 (some (zs.getD (j + 1) 0)) (some (zs.getD j 0)))) = baR K (baQ K zs j) zs j) := Lib.hid rfl
      have HQn : Hid (baQ K zs (j + 1) = posq (baR K (baQ K zs j) zs j)) := Lib.hid rfl
      have HXn : Hid (baX K zs (j + 1) = clampO (fop .sub .f32 (some (zs.getD (j + 1) 0)) (baQ K zs (j + 1)))) := Lib.hid rfl
      have HLn := Lib.hid (baL_succ K zs (j + 1))
      have Hm9 := Lib.hid (Hmx.out j (by rw [Hn.out]; exact hlt))
      generalize baR K (baQ K zs j) zs j = W at *
      generalize baX K zs (j + 1) = Z at *
      generalize hQ2 : baQ K zs (j + 1) = Q2 at *
      have HQ2 := Lib.hid hQ2
      clear hQ2
      generalize baQ K zs j = Q at *
      generalize zs.getD (j + 1) 0 = x at *
      generalize zs.getD j 0 = x0 at *
      have hq9 := HQx.out
      have hp9 := HP.out
      have hrl : (ls ++ zs.drop (j + 1)).length = n := by rw [List.length_append, List.length_drop, HLk.out, Hn.out]; omega
      have HRl := Lib.hid hrl
      clear hrl
      obtain ⟨hcell, hfz⟩ := HRw.out.at HRl.out.symm (j + 1) (by rw [HRl.out]; exact hlt)
      go_wp2_with fail
      apply wp_region_V (id := 9) (vmap [(2, V32k (fop .mul .f32 K Q)), (13, V32k (fop .sub .f32 (some x) (some x0))), (14, V32k (fop .mul .f32 (baP K) (fop .sub .f32 (some x) (some x0)))), (15, V32k (fop .add .f32 (fop .mul .f32 K Q) (fop .mul .f32 (baP K) (fop .sub .f32 (some x) (some x0))))), (16, V32k (maxO (some 0) (fop .add .f32 (fop .mul .f32 K Q) (fop .mul .f32 (baP K) (fop .sub .f32 (some x) (some x0))))))]) (by kernel_rfl) (by kernel_rfl)
      (refine wpV_go 1 rfl (fun K hK => ?_); go_simp; refine hK.out _ ?_; clear hK K)
      (refine wpV_go 2 rfl (fun K hK => ?_); go_simp; refine hK.out _ ?_; clear hK K)
      (refine wpV_f32 3 rfl (drewC _) _ _ _ _ _ rfl rfl rfl rfl (by decide) (by first | assumption | exact Is32.c (by decide)) (by first | assumption | exact Is32.c (by decide)) rfl ?_; intro z hz)
      (refine wpV_go 4 rfl (fun K hK => ?_); go_simp; refine hK.out _ ?_; clear hK K)
      (refine wpV_go 5 rfl (fun K hK => ?_); go_simp; refine hK.out _ ?_; clear hK K)
      (refine wpV_go 6 rfl (fun K hK => ?_); go_simp; refine hK.out _ ?_; clear hK K)
      (refine wpV_go 7 rfl (fun K hK => ?_); go_simp; refine hK.out _ ?_; clear hK K)
      (refine wpV_go 8 rfl (fun K hK => ?_); go_simp; refine hK.out _ ?_; clear hK K)
      (refine wpV_go 9 rfl (fun K hK => ?_); go_simp; refine hK.out _ ?_; clear hK K)
      (refine wpV_go 10 rfl (fun K hK => ?_); go_simp; refine hK.out _ ?_; clear hK K)
      (refine wpV_go 11 rfl (fun K hK => ?_); go_simp; refine hK.out _ ?_; clear hK K)
      (refine wpV_go 12 rfl (fun K hK => ?_); go_simp; refine hK.out _ ?_; clear hK K)
      (refine wpV_go 13 rfl (fun K hK => ?_); go_simp; refine hK.out _ ?_; clear hK K)
      (refine wpV_f32 14 rfl (drewC _) _ _ _ _ _ rfl rfl rfl rfl (by decide) (by first | assumption | exact Is32.c (by decide)) (by first | assumption | exact Is32.c (by decide)) rfl ?_; intro z hz)
      (refine wpV_f32 15 rfl (drewC _) _ _ _ _ _ rfl rfl rfl rfl (by decide) (by first | assumption | exact Is32.c (by decide)) (by first | assumption | exact Is32.c (by decide)) rfl ?_; intro z hz)
      (refine wpV_f32 16 rfl (drewC _) _ _ _ _ _ rfl rfl rfl rfl (by decide) (by first | assumption | exact Is32.c (by decide)) (by first | assumption | exact Is32.c (by decide)) rfl ?_; intro z hz)
      (refine wpV_max 17 rfl (drewC _) _ _ _ rfl rfl rfl rfl (by first | assumption | exact Is32.c (by decide)) (by first | assumption | exact Is32.c (by decide)) rfl ?_; intro zq hz)
      (refine wpV_go 18 rfl (fun K hK => ?_); go_simp; refine hK.out _ ?_; clear hK K)
      (refine wpV_nil ?_; intro q9)
      have hq2 : Is32 Q2 zq := by rw [← Hm9.out, ← HRaw.out]; exact hz
      clear hz hq9 hp9 hz0
      go_wp2_with (first | ((with_reducible refine wpList_bin ?_); refine wpList_f32 rfl _ _ _ _ _ rfl rfl rfl (by decide) (by first | assumption | exact Is32.c (by decide)) (by first | assumption | exact Is32.c (by decide)) ?_; intro z n9 hz) | ((with_reducible refine wpList_bin ?_); refine wpList_c32 rfl _ _ _ _ _ rfl rfl rfl (by decide) (by first | assumption | exact Is32.c (by decide)) (by first | assumption | exact Is32.c (by decide)) ?_; intro bb hbb; cases bb))
      all_goals
        go_roundw
        case rel => first | exact ⟨j + 1, ls ++ [z], _, by omega, by go_num, rfl, Lib.hid (by rw [HQ2.out]; exact hq2), Lib.hid (by rw [List.length_append, List.length_singleton, HLk.out]), Lib.hid (by rw [HLn.out]; refine HIl.out.snoc ?_; rw [HXn.out]; unfold clampO; rw [hbb]; exact hz), Lib.hid (by rw [← drop_set ls zs (j + 1) z HLk.out (by rw [Hn.out]; exact hlt)]; exact (HRw.out.drewN _).store HRl.out.symm (j + 1) z), Lib.hid ((beld HBk.out _).setCell (by exact HG.out) _)⟩ | exact ⟨j + 1, ls ++ [0], _, by omega, by go_num, rfl, Lib.hid (by rw [HQ2.out]; exact hq2), Lib.hid (by rw [List.length_append, List.length_singleton, HLk.out]), Lib.hid (by rw [HLn.out]; refine HIl.out.snoc ?_; rw [HXn.out]; unfold clampO; rw [hbb]; exact Is32.c (by decide)), Lib.hid (by rw [← drop_set ls zs (j + 1) 0 HLk.out (by rw [Hn.out]; exact hlt)]; have h9 := fun m => (((HRw.out.drewN m).store HRl.out.symm (j + 1) z)).store (by rw [List.length_set]; exact HRl.out.symm) (j + 1) 0; simp only [List.set_set] at h9; exact h9 _), Lib.hid (((beld HBk.out _).setCell (by exact HG.out) _).setCell (by exact HG.out) _)⟩
        case measure => simp [intOf]; omega
    · obtain rfl : j + 1 = n := by omega
      have hk1 : ¬ (j : Int) + 1 < ((j + 1 : Nat) : Int) := by omega
      have hfin := Hfi.out
      have hls := HIl.out.exact hfin
      have HQ : Hid (R = (ls, true)) := Lib.hid (by rw [HR.out, hls])
      have hrw : RowO wr lo (.slice (some ⟨gb, 0, none⟩) (j + 1) gc) ls := by have h9 := HRw.out; rw [List.drop_of_length_le (by rw [Hn.out]; exact Nat.le_refl _), List.append_nil] at h9; exact h9
      have HRW := Lib.hid hrw
      clear hfin hls hrw
      go_wp2_with fail
      go_ret2
      rw [HQ.out]
      exact ListB.yes HRW.out Hlo.out (by rw [HLk.out]; exact hl) HBk.out

end Go.Proofs.Ytdmcjloaommnpaa
