/- How fast gauges recede: values, logarithms of lists. -/
import Derived.Test.YtdmcjloaommnpaaFitF
import Derived.Test.YtdmcjloaommnpaaNegO
import Derived.Test.YtdmcjloaommnpaaPushZ
import Derived.Test.YtdmcjloaommnpaaRegionI
import Derived.Deep.Cut
namespace Go.Proofs.Ytdmcjloaommnpaa
open Go.RowKit
set_option linter.unusedVariables false
set_option linter.unusedSimpArgs false
set_option maxRecDepth 100000
attribute [local irreducible] wpV wpList Code.wp

theorem Gd.start {n j : Nat} {p : Prop} : Gd (Array.replicate n false) j p := fun h => by rw [getD_replicate_false] at h; cases h
theorem Ng.start {l : Array Bool} {j : Nat} {p : Prop} (h : p) : Ng l j p := fun _ => h
theorem Gd.undone {l : Array Bool} {i j : Nat} {p : Prop} (h : l.getD j false = false) (hne : i ≠ j) : Gd (l.setIfInBounds i true) j p := fun h9 => by rw [set_ne hne, h] at h9; cases h9
theorem StepAll.cons {P : Program} {l : List Oper} {Inv : Array Bool → Act → World → Prop} {k : Nat} {o : Oper} {rest : List Oper} (j : Nat) (hj : k + 1 = j)
    (h : ∀ d a w, d.size = l.length → Closed l d → Inv d a w → d.getD k false = false → Deps d o.after.toList → wpList P l.toArray (QI fun a' w' => Inv (d.setIfInBounds k true) a' w') [o] a w) (hr : StepAll P l Inv j rest) : StepAll P l Inv k (o :: rest) := by
  subst hj; exact ⟨h, hr⟩

theorem logO_l {X : Option Nat} {x : Nat} (h : Is32 X x) : logO (some x) = logO X := by
  cases X with
  | some b => obtain rfl := h.eq; rfl
  | none =>
    have h2 := h.1.1
    rw [nan32_iff, decide_eq_true_eq] at h2
    unfold logO
    simp only [Option.bind_some, Option.bind_none]
    rw [if_pos (by unfold rg; exact h2)]
def posG (z : Nat) : Bool := posO (some z)
def recX (zs : List Nat) (j : Nat) : Option Nat := fop .quo .f32 (some (zs.getD (j + 1) 0)) (some (zs.getD j 0))
def recC (zs : List Nat) (j : Nat) : Bool := fcmp .lss .f32 (some (zs.getD (j + 1) 0)) (some (zs.getD j 0))
/-- The quotients of all numbers less than the one before, of the first k. -/
def recL (zs : List Nat) : Nat → List (Option Nat)
  | 0 => []
  | 1 => []
  | j + 2 => if recC zs j then recL zs (j + 1) ++ [recX zs j] else recL zs (j + 1)
theorem recL_len (zs : List Nat) : ∀ k, (recL zs k).length ≤ k
  | 0 => Nat.le_refl _
  | 1 => Nat.zero_le _
  | j + 2 => by
    have := recL_len zs (j + 1)
    unfold recL
    split
    · rw [List.length_append, List.length_singleton]; omega
    · omega
def slO (Xs : List (Option Nat)) : Option Nat := Xs.foldl (fun s X => fop .add .f32 s (logO X)) (some 0)
theorem slO_snoc (Xs : List (Option Nat)) (X : Option Nat) : slO (Xs ++ [X]) = fop .add .f32 (slO Xs) (logO X) := by unfold slO; rw [List.foldl_append]; rfl
theorem slO_ne (Xs : List (Option Nat)) : ∃ z, Is32 (slO Xs) z := by
  rcases List.eq_nil_or_concat Xs with rfl | ⟨l, b, rfl⟩
  · exact ⟨0, Is32.c (by decide)⟩
  · rw [List.concat_eq_append, slO_snoc]; exact Is32.nef (by decide) _ _
theorem slO_sum {Xs : List (Option Nat)} {ls : List Nat} (h : Is32s Xs ls) : ∀ k, k ≤ ls.length → sumO (mapL (fun z => logO (some z)) ls ls.length) k = slO (Xs.take k)
  | 0, _ => rfl
  | k + 1, hk => by
    have hx := h.2 k (by omega)
    rw [sumO, slO_sum h k (by omega), mapL_get (by omega), logO_l hx, List.take_succ_eq_append_getElem (by rw [h.1]; omega), slO_snoc]
    rw [List.getD_eq_getElem?_getD, List.getElem?_eq_getElem (by rw [h.1]; omega)]; rfl
theorem slO_all {Xs : List (Option Nat)} {ls ms : List Nat} (h : Is32s Xs ls) (h2 : Is32s (mapL (fun z => logO (some z)) ls ls.length) ms) : fsum ms = slO Xs := by
  have hl : ms.length = ls.length := by rw [← h2.1]; exact mapL_len _ _ _
  rw [sum_all h2, hl, slO_sum h _ (Nat.le_refl _), List.take_of_length_le (by rw [h.1]; exact Nat.le_refl _)]
def recF (Xs : List (Option Nat)) : Option Nat × Bool := if Xs.length = 0 then (some 0, false) else onlyO (negO (meanO (slO Xs) Xs.length))
def recO (zs : List Nat) : Option Nat × Bool := if gauB zs && decide (2 ≤ zs.length) && zs.all posG then recF (recL zs zs.length) else (some 0, false)
theorem rec_no {zs : List Nat} (h : gauB zs = false) : recO zs = (some 0, false) := by unfold recO; rw [h]; rfl
theorem rec_few {zs : List Nat} (h : ¬ 2 ≤ zs.length) : recO zs = (some 0, false) := by unfold recO; rw [decide_eq_false h, Bool.and_false]; rfl
theorem rec_neg {zs : List Nat} (h : zs.all posG = false) : recO zs = (some 0, false) := by unfold recO; rw [h, Bool.and_false]; rfl
theorem rec_go {zs : List Nat} (h : gauB zs = true) (h2 : 2 ≤ zs.length) (h3 : zs.all posG = true) : recO zs = recF (recL zs zs.length) := by unfold recO; rw [h, decide_eq_true h2, h3]; rfl
theorem recF_none {Xs : List (Option Nat)} (h : Xs.length = 0) : recF Xs = (some 0, false) := by unfold recF; rw [if_pos h]
theorem recF_some {Xs : List (Option Nat)} (h : ¬ Xs.length = 0) : recF Xs = onlyO (negO (meanO (slO Xs) Xs.length)) := by unfold recF; rw [if_neg h]
theorem is_lt {Xs : List (Option Nat)} {zs : List Nat} (h : Is32s Xs zs) : ∀ z ∈ zs, z < 4294967296 := by
  intro z hz
  obtain ⟨i, hi, rfl⟩ := List.getElem_of_mem hz
  have := (h.2 i hi).2
  rwa [List.getD_eq_getElem?_getD, List.getElem?_eq_getElem hi] at this
theorem gtr_pos {z : Nat} (h : amtO (some z) = true) : posG z = fcmp .gtr .f32 (some z) (some 0) := by
  unfold posG posO
  unfold amtO at h
  rw [Bool.and_eq_true] at h
  rw [h.2, Bool.and_true]

structure rcInvS (w0 : World) (x x0 b off j n cap lo : Nat) (v : Value) (rs : List Nat) (t0_ t1_ t2_ t3_ t5_ t6_ t7_ t8_ t9_ t10_ t11_ t12_ t13_ t14_ t15_ t16_ t17_ t18_ t19_ t20_ t21_ t22_ t23_ t24_ t25_ t26_ t27_ t28_ t29_ t30_ t31_ t32_ t33_ t34_ t48_ t49_ t50_ t51_ t52_ t53_ t54_ t55_ t56_ t57_ : Value) (d : Array Bool) (a : Act) (w : World) where
  u4 : Value
  u35 : Value
  u36 : Value
  u37 : Value
  u38 : Value
  u39 : Value
  u40 : Value
  u41 : Value
  u42 : Value
  u43 : Value
  u44 : Value
  u45 : Value
  u46 : Value
  u47 : Value
  y9 : Nat
  p9 : Nat
  g9 : Nat
  c9 : Nat
  ea : a = ⟨#[t0_, t1_, t2_, t3_, u4, t5_, t6_, t7_, t8_, t9_, t10_, t11_, t12_, t13_, t14_, t15_, t16_, t17_, t18_, t19_, t20_, t21_, t22_, t23_, t24_, t25_, t26_, t27_, t28_, t29_, t30_, t31_, t32_, t33_, t34_, u35, u36, u37, u38, u39, u40, u41, u42, u43, u44, u45, u46, u47, t48_, t49_, t50_, t51_, t52_, t53_, t54_, t55_, t56_, t57_], []⟩
  f0 : Gd d 0 (u35 = v)
  f1 : Gd d 1 (u36 = .slice (some ⟨b, off, none⟩) n cap)
  f2 : Gd d 2 (u37 = .int .i64 ((j : Int) + 1))
  f3 : Gd d 3 (u38 = .pointer (some ⟨b, off + (j + 1), none⟩))
  f4 : Gd d 4 (u39 = .float .f32 x)
  f5 : Gd d 5 (u40 = .slice (some ⟨b, off, none⟩) n cap)
  f6 : Gd d 6 (u41 = .int .i64 ((j : Int) + 1))
  f7 : Gd d 7 (u42 = .int .i64 (j : Int))
  f8 : Gd d 8 (u43 = .pointer (some ⟨b, off + j, none⟩))
  f9 : Gd d 9 (u44 = .float .f32 x0)
  f10 : Gd d 10 (u45 = .float .f32 y9 ∧ Is32 (fop .quo .f32 (some x) (some x0)) y9)
  f11 : Gd d 11 (u46 = .slice (some ⟨p9, 0, none⟩) 1 1)
  f12 : Gd d 12 (u47 = .slice (some ⟨g9, 0, none⟩) (rs.length + 1) c9)
  fz : Ng d 13 (u4 = v)
  fa : Gd d 13 (u4 = .slice (some ⟨g9, 0, none⟩) (rs.length + 1) c9)
  fc : Gd d 11 (Ng d 12 (w.cell? ⟨p9, 0, none⟩ = some (.float .f32 y9)))
  own : Ng d 12 (RowO w lo v rs)
  gr : Gd d 12 (RowO w lo (.slice (some ⟨g9, 0, none⟩) (rs.length + 1) c9) (rs ++ [y9]))
  hbel : Below lo w0 w
def rcInv (w0 : World) (x x0 b off j n cap lo : Nat) (v : Value) (rs : List Nat) (t0_ t1_ t2_ t3_ t5_ t6_ t7_ t8_ t9_ t10_ t11_ t12_ t13_ t14_ t15_ t16_ t17_ t18_ t19_ t20_ t21_ t22_ t23_ t24_ t25_ t26_ t27_ t28_ t29_ t30_ t31_ t32_ t33_ t34_ t48_ t49_ t50_ t51_ t52_ t53_ t54_ t55_ t56_ t57_ : Value) (d : Array Bool) (a : Act) (w : World) : Prop := Nonempty (rcInvS w0 x x0 b off j n cap lo v rs t0_ t1_ t2_ t3_ t5_ t6_ t7_ t8_ t9_ t10_ t11_ t12_ t13_ t14_ t15_ t16_ t17_ t18_ t19_ t20_ t21_ t22_ t23_ t24_ t25_ t26_ t27_ t28_ t29_ t30_ t31_ t32_ t33_ t34_ t48_ t49_ t50_ t51_ t52_ t53_ t54_ t55_ t56_ t57_ d a w)

set_option maxHeartbeats 16000000 in
theorem recedeRate_i (a : Option Addr) (cap : Nat) (zs : List Nat) (w : World) (h : RowF .f32 w a zs) (hl : zs.length ≤ 1048576) (hz : ∀ z ∈ zs, z < 4294967296) : Calls Try.prog 27 #[.slice a zs.length cap] w (OnlyB (recO zs) w) := by
  have Hr := Lib.hid (isGauge_i a cap zs w h hl hz)
  have H := Lib.hid h
  have Hz := Lib.hid hz
  clear h hz
  have Rno := Lib.hid (@rec_no zs)
  have Rfew := Lib.hid (@rec_few zs)
  have Rneg := Lib.hid (@rec_neg zs)
  have Rgo := Lib.hid (@rec_go zs)
  have Glen := Lib.hid (@gauB_len zs)
  generalize recO zs = R at *
  go_enter Try.func27, Try.ntmps27
  go_wp2_with fail
  refine Hr.out.mono ?_
  rintro e w1 ⟨bb, hbb, rfl, hb⟩
  have HB1 := Lib.hid hb
  have H1 := Lib.hid (H.out.below hb (Nat.le_refl _))
  have Hbb := Lib.hid hbb
  clear hb hbb Hr
  cases bb
  · go_wp2_with fail
    go_ret2
    rw [Rno.out Hbb.out]
    exact ⟨_, _, rfl, rfl, Is32.c (by decide), HB1.out⟩
  have h128 := Glen.out Hbb.out
  by_cases h2 : ((zs.length : Nat) : Int) < 2
  · go_wp2_with fail
    go_ret2
    rw [Rfew.out (by omega)]
    exact ⟨_, _, rfl, rfl, Is32.c (by decide), HB1.out⟩
  go_wp2_with fail
  refine (allOf_f 72 posG (enters_of Try.func72 (by kernel_rfl) rfl) a cap zs _ (fun z hz W => isPositive_o W (Is32.c hz)) H1.out hl Hz.out).mono ?_
  rintro e w2 ⟨bb, hbb, rfl, hb⟩
  have HB2 := Lib.hid (HB1.out.trans (hb.mono HB1.out.size))
  have Hp := Lib.hid hbb
  clear hb hbb
  have HB1 := HB2
  cases bb
  · go_wp2_with fail
    go_ret2
    rw [Rneg.out Hp.out]
    exact ⟨_, _, rfl, rfl, Is32.c (by decide), HB1.out⟩
  have hR := Rgo.out Hbb.out (by omega) Hp.out
  have HR := Lib.hid hR
  clear hR
  have H2 := Lib.hid (H.out.below HB2.out (Nat.le_refl _))
  obtain ⟨b, off, ha⟩ : ∃ b off, a = some ⟨b, off, none⟩ := by rcases H.out with h9 | ⟨b', o', h1, _, _⟩; exact absurd h9 (by intro h8; rw [h8] at h2; simp at h2); exact ⟨b', o', h1⟩
  subst ha
  have HBl : Hid (b < w.heap.size) := Lib.hid (by rcases H.out with h9 | ⟨b', o', h1, h3, _⟩; exact absurd h9 (by intro h8; rw [h8] at h2; simp at h2); cases h1; exact h3)
  obtain ⟨n, hn⟩ : ∃ n, zs.length = n := ⟨_, rfl⟩
  rw [hn] at hl h128 h2 HR ⊢
  have Hn := Lib.hid hn
  clear hn
  go_wp2_with fail
  go_loopw [4, 5] (fun vv kv wr => ∃ (j : Nat) (rs : List Nat) (v : Value), j + 1 ≤ n ∧ v = vv ∧ kv = .int .i64 ((j : Int) + 1) ∧ Hid (Is32s (recL zs (j + 1)) rs) ∧ Hid (RowO wr w.heap.size v rs) ∧ Hid (Below w.heap.size w wr)) (fun _ kv _ => n - (intOf kv).toNat)
  case atStart => exact ⟨0, [], _, by omega, rfl, by go_num, Lib.hid Is32s.nil, Lib.hid (RowO.nil _ _), HB2⟩
  case round =>
    obtain ⟨j, rs, v, hj, hvv, rfl, HIs, HRo, HBk⟩ := hrel
    subst hvv
    by_cases hlt : j + 1 < n
    · have hk1 : (j : Int) + 1 < (n : Int) := by omega
      have hk0 : (0 : Int) ≤ (j : Int) + 1 := by omega
      have hj0 : (0 : Int) ≤ (j : Int) := by omega
      have hj1 : (j : Int) < (n : Int) := by omega
      have hw9 : IntKind.i64.wrap (j : Int) = (j : Int) := IntWalk.i64_in _ (by omega)
      have htn : ((j : Int) + 1).toNat = j + 1 := by omega
      obtain ⟨b8, o8, h8, hc1⟩ := ((H.out.below HBk.out (Nat.le_refl _)).cells) (j + 1) (by rw [Hn.out]; exact hlt)
      cases h8
      obtain ⟨b8, o8, h8, hc0⟩ := ((H.out.below HBk.out (Nat.le_refl _)).cells) j (by rw [Hn.out]; omega)
      cases h8
      have hz1 : Is32 (some (zs.getD (j + 1) 0)) (zs.getD (j + 1) 0) := Is32.c (getD_lt Hz.out _ (by rw [Hn.out]; exact hlt))
      have hz0 : Is32 (some (zs.getD j 0)) (zs.getD j 0) := Is32.c (getD_lt Hz.out _ (by rw [Hn.out]; omega))
      have HSt : Hid (recL zs (j + 2) = if fcmp .lss .f32 (some (zs.getD (j + 1) 0)) (some (zs.getD j 0)) then recL zs (j + 1) ++ [fop .quo .f32 (some (zs.getD (j + 1) 0)) (some (zs.getD j 0))] else recL zs (j + 1)) := Lib.hid rfl
      have hrl : rs.length ≤ j + 1 := by have := recL_len zs (j + 1); rw [HIs.out.1] at this; exact this
      have Hl9 : Hid (rs.length ≤ 1048576) := Lib.hid (by omega)
      clear hrl
      generalize recL zs (j + 1) = Xs at *
      generalize zs.getD (j + 1) 0 = x at *
      generalize zs.getD j 0 = x0 at *
      go_wp2_with fail
      apply wp_region_V (id := 7) (vmap []) (by kernel_rfl) (by kernel_rfl)
      (refine wpV_go 1 rfl (fun K hK => ?_); go_simp; refine hK.out _ ?_; clear hK K)
      (refine wpV_go 2 rfl (fun K hK => ?_); go_simp; refine hK.out _ ?_; clear hK K)
      (refine wpV_go 3 rfl (fun K hK => ?_); go_simp; refine hK.out _ ?_; clear hK K)
      (refine wpV_go 4 rfl (fun K hK => ?_); go_simp; refine hK.out _ ?_; clear hK K)
      (refine wpV_go 5 rfl (fun K hK => ?_); go_simp; refine hK.out _ ?_; clear hK K)
      (refine wpV_go 6 rfl (fun K hK => ?_); go_simp; refine hK.out _ ?_; clear hK K)
      (refine wpV_go 7 rfl (fun K hK => ?_); go_simp; refine hK.out _ ?_; clear hK K)
      (refine wpV_go 8 rfl (fun K hK => ?_); go_simp; refine hK.out _ ?_; clear hK K)
      (refine wpV_go 9 rfl (fun K hK => ?_); go_simp; refine hK.out _ ?_; clear hK K)
      (refine wpV_c32 10 rfl _ _ _ _ _ rfl rfl rfl rfl (by decide) (by first | assumption | exact Is32.c (by decide)) (by first | assumption | exact Is32.c (by decide)) rfl ?_; intro bb hbb; cases bb)
      all_goals (refine wpV_nil ?_; intro q9)
      all_goals have Hlt := Lib.hid hbb
      all_goals clear hbb
      · go_wp2_with fail
        go_roundw
        case rel => exact ⟨j + 1, rs, _, by omega, rfl, by go_num, Lib.hid (by rw [HSt.out, Hlt.out]; exact HIs.out), Lib.hid (by first | exact HRo.out | exact HRo.out.drewN _), Lib.hid (by first | exact HBk.out | exact beld HBk.out _)⟩
        case measure => simp [intOf]; omega
      · go_upto_region 8 with fail
        generalize hW6 : World.drewN wr _ = W6
        have HCx : Hid (W6.cell? ⟨b, off + (j + 1), none⟩ = some (.float .f32 x)) := Lib.hid (by rw [← hW6]; exact hc1)
        have HCy : Hid (W6.cell? ⟨b, off + j, none⟩ = some (.float .f32 x0)) := Lib.hid (by rw [← hW6]; exact hc0)
        have hown : RowO W6 w.heap.size v rs := by rw [← hW6]; exact HRo.out.drewN _
        have HBW : Hid (Below w.heap.size w W6) := Lib.hid (by rw [← hW6]; exact beld HBk.out _)
        have HLo : Hid (w.heap.size ≤ W6.heap.size) := Lib.hid HBW.out.size
        have HOWN := Lib.hid hown
        clear hW6 hc1 hc0 hown
        refine wp_region_inv (id := 8) (rcInv W6 x x0 b off j n cap w.heap.size v rs _ _ _ _ _ _ _ _ _ _ _ _ _ _ _ _ _ _ _ _ _ _ _ _ _ _ _ _ _ _ _ _ _ _ _ _ _ _ _ _ _ _ _ _) (by kernel_rfl) (by kernel_rfl) ⟨⟨_, _, _, _, _, _, _, _, _, _, _, _, _, _, 0, 0, 0, 0, rfl, .start, .start, .start, .start, .start, .start, .start, .start, .start, .start, .start, .start, .start, .start rfl, .start, .start, .start (HOWN.out.drewN 1), .start, below_drewN (Below.refl _ _) 1⟩⟩ ?hend ?hsteps
        rotate_left
        case hsteps =>
          refine .cons 1 rfl ?_ ?_
          · intro d a w9 hsz hcl hinv hd hdep
            obtain ⟨⟨u4, u35, u36, u37, u38, u39, u40, u41, u42, u43, u44, u45, u46, u47, y9, p9, g9, c9, rfl, f0, f1, f2, f3, f4, f5, f6, f7, f8, f9, f10, f11, f12, fz, fa, fc, own, gr, hbel⟩⟩ := hinv
            have n12 := hcl.not hd 12 _ rfl rfl
            have n13 := hcl.not n12 13 _ rfl rfl
            have ez := (fz n13).symm
            subst ez
            go_wp2_with fail
            exact ⟨⟨(v), (v), u36, u37, u38, u39, u40, u41, u42, u43, u44, u45, u46, u47, y9, p9, g9, c9, rfl, (Gd.new (by first | rfl | simp)), (f1.keep (i := 0) (by decide)), (f2.keep (i := 0) (by decide)), (f3.keep (i := 0) (by decide)), (f4.keep (i := 0) (by decide)), (f5.keep (i := 0) (by decide)), (f6.keep (i := 0) (by decide)), (f7.keep (i := 0) (by decide)), (f8.keep (i := 0) (by decide)), (f9.keep (i := 0) (by decide)), (f10.keep (i := 0) (by decide)), (f11.keep (i := 0) (by decide)), (f12.keep (i := 0) (by decide)), (fun _ => rfl), (fa.keep (i := 0) (by decide)), (Gd.keep (i := 0) (fc.imp fun h => Ng.keep (i := 0) h (by decide)) (by decide)), (own.keep (i := 0) (by decide)), (gr.keep (i := 0) (by decide)), hbel⟩⟩
          refine .cons 2 rfl ?_ ?_
          · intro d a w9 hsz hcl hinv hd hdep
            obtain ⟨⟨u4, u35, u36, u37, u38, u39, u40, u41, u42, u43, u44, u45, u46, u47, y9, p9, g9, c9, rfl, f0, f1, f2, f3, f4, f5, f6, f7, f8, f9, f10, f11, f12, fz, fa, fc, own, gr, hbel⟩⟩ := hinv
            go_wp2_with fail
            exact ⟨⟨u4, u35, (.slice (some ⟨b, off, none⟩) n cap), u37, u38, u39, u40, u41, u42, u43, u44, u45, u46, u47, y9, p9, g9, c9, rfl, (f0.keep (i := 1) (by decide)), (Gd.new (by first | rfl | simp)), (f2.keep (i := 1) (by decide)), (f3.keep (i := 1) (by decide)), (f4.keep (i := 1) (by decide)), (f5.keep (i := 1) (by decide)), (f6.keep (i := 1) (by decide)), (f7.keep (i := 1) (by decide)), (f8.keep (i := 1) (by decide)), (f9.keep (i := 1) (by decide)), (f10.keep (i := 1) (by decide)), (f11.keep (i := 1) (by decide)), (f12.keep (i := 1) (by decide)), (fz.keep (i := 1) (by decide)), (fa.keep (i := 1) (by decide)), (Gd.keep (i := 1) (fc.imp fun h => Ng.keep (i := 1) h (by decide)) (by decide)), (own.keep (i := 1) (by decide)), (gr.keep (i := 1) (by decide)), hbel⟩⟩
          refine .cons 3 rfl ?_ ?_
          · intro d a w9 hsz hcl hinv hd hdep
            obtain ⟨⟨u4, u35, u36, u37, u38, u39, u40, u41, u42, u43, u44, u45, u46, u47, y9, p9, g9, c9, rfl, f0, f1, f2, f3, f4, f5, f6, f7, f8, f9, f10, f11, f12, fz, fa, fc, own, gr, hbel⟩⟩ := hinv
            go_wp2_with fail
            exact ⟨⟨u4, u35, u36, (.int .i64 ((j : Int) + 1)), u38, u39, u40, u41, u42, u43, u44, u45, u46, u47, y9, p9, g9, c9, rfl, (f0.keep (i := 2) (by decide)), (f1.keep (i := 2) (by decide)), (Gd.new (by first | rfl | simp)), (f3.keep (i := 2) (by decide)), (f4.keep (i := 2) (by decide)), (f5.keep (i := 2) (by decide)), (f6.keep (i := 2) (by decide)), (f7.keep (i := 2) (by decide)), (f8.keep (i := 2) (by decide)), (f9.keep (i := 2) (by decide)), (f10.keep (i := 2) (by decide)), (f11.keep (i := 2) (by decide)), (f12.keep (i := 2) (by decide)), (fz.keep (i := 2) (by decide)), (fa.keep (i := 2) (by decide)), (Gd.keep (i := 2) (fc.imp fun h => Ng.keep (i := 2) h (by decide)) (by decide)), (own.keep (i := 2) (by decide)), (gr.keep (i := 2) (by decide)), hbel⟩⟩
          refine .cons 4 rfl ?_ ?_
          · intro d a w9 hsz hcl hinv hd hdep
            obtain ⟨⟨u4, u35, u36, u37, u38, u39, u40, u41, u42, u43, u44, u45, u46, u47, y9, p9, g9, c9, rfl, f0, f1, f2, f3, f4, f5, f6, f7, f8, f9, f10, f11, f12, fz, fa, fc, own, gr, hbel⟩⟩ := hinv
            have e1 := f1 (hdep.get 1 rfl)
            subst e1
            have e2 := f2 (hdep.get 2 rfl)
            subst e2
            go_wp2_with fail
            exact ⟨⟨u4, u35, (.slice (some ⟨b, off, none⟩) n cap), (.int .i64 ((j : Int) + 1)), (.pointer (some ⟨b, off + (j + 1), none⟩)), u39, u40, u41, u42, u43, u44, u45, u46, u47, y9, p9, g9, c9, rfl, (f0.keep (i := 3) (by decide)), (Gd.new rfl), (Gd.new rfl), (Gd.new (by first | rfl | simp)), (f4.keep (i := 3) (by decide)), (f5.keep (i := 3) (by decide)), (f6.keep (i := 3) (by decide)), (f7.keep (i := 3) (by decide)), (f8.keep (i := 3) (by decide)), (f9.keep (i := 3) (by decide)), (f10.keep (i := 3) (by decide)), (f11.keep (i := 3) (by decide)), (f12.keep (i := 3) (by decide)), (fz.keep (i := 3) (by decide)), (fa.keep (i := 3) (by decide)), (Gd.keep (i := 3) (fc.imp fun h => Ng.keep (i := 3) h (by decide)) (by decide)), (own.keep (i := 3) (by decide)), (gr.keep (i := 3) (by decide)), hbel⟩⟩
          refine .cons 5 rfl ?_ ?_
          · intro d a w9 hsz hcl hinv hd hdep
            obtain ⟨⟨u4, u35, u36, u37, u38, u39, u40, u41, u42, u43, u44, u45, u46, u47, y9, p9, g9, c9, rfl, f0, f1, f2, f3, f4, f5, f6, f7, f8, f9, f10, f11, f12, fz, fa, fc, own, gr, hbel⟩⟩ := hinv
            have e3 := f3 (hdep.get 3 rfl)
            subst e3
            have hcx : w9.cell? ⟨b, off + (j + 1), none⟩ = some (.float .f32 x) := (hbel.cell (p := ⟨b, off + (j + 1), none⟩) HBl.out).trans HCx.out
            go_wp2_with fail
            exact ⟨⟨u4, u35, u36, u37, (.pointer (some ⟨b, off + (j + 1), none⟩)), (.float .f32 x), u40, u41, u42, u43, u44, u45, u46, u47, y9, p9, g9, c9, rfl, (f0.keep (i := 4) (by decide)), (f1.keep (i := 4) (by decide)), (f2.keep (i := 4) (by decide)), (Gd.new rfl), (Gd.new (by first | rfl | simp)), (f5.keep (i := 4) (by decide)), (f6.keep (i := 4) (by decide)), (f7.keep (i := 4) (by decide)), (f8.keep (i := 4) (by decide)), (f9.keep (i := 4) (by decide)), (f10.keep (i := 4) (by decide)), (f11.keep (i := 4) (by decide)), (f12.keep (i := 4) (by decide)), (fz.keep (i := 4) (by decide)), (fa.keep (i := 4) (by decide)), (Gd.keep (i := 4) (fc.imp fun h => Ng.keep (i := 4) h (by decide)) (by decide)), (own.keep (i := 4) (by decide)), (gr.keep (i := 4) (by decide)), hbel⟩⟩
          refine .cons 6 rfl ?_ ?_
          · intro d a w9 hsz hcl hinv hd hdep
            obtain ⟨⟨u4, u35, u36, u37, u38, u39, u40, u41, u42, u43, u44, u45, u46, u47, y9, p9, g9, c9, rfl, f0, f1, f2, f3, f4, f5, f6, f7, f8, f9, f10, f11, f12, fz, fa, fc, own, gr, hbel⟩⟩ := hinv
            go_wp2_with fail
            exact ⟨⟨u4, u35, u36, u37, u38, u39, (.slice (some ⟨b, off, none⟩) n cap), u41, u42, u43, u44, u45, u46, u47, y9, p9, g9, c9, rfl, (f0.keep (i := 5) (by decide)), (f1.keep (i := 5) (by decide)), (f2.keep (i := 5) (by decide)), (f3.keep (i := 5) (by decide)), (f4.keep (i := 5) (by decide)), (Gd.new (by first | rfl | simp)), (f6.keep (i := 5) (by decide)), (f7.keep (i := 5) (by decide)), (f8.keep (i := 5) (by decide)), (f9.keep (i := 5) (by decide)), (f10.keep (i := 5) (by decide)), (f11.keep (i := 5) (by decide)), (f12.keep (i := 5) (by decide)), (fz.keep (i := 5) (by decide)), (fa.keep (i := 5) (by decide)), (Gd.keep (i := 5) (fc.imp fun h => Ng.keep (i := 5) h (by decide)) (by decide)), (own.keep (i := 5) (by decide)), (gr.keep (i := 5) (by decide)), hbel⟩⟩
          refine .cons 7 rfl ?_ ?_
          · intro d a w9 hsz hcl hinv hd hdep
            obtain ⟨⟨u4, u35, u36, u37, u38, u39, u40, u41, u42, u43, u44, u45, u46, u47, y9, p9, g9, c9, rfl, f0, f1, f2, f3, f4, f5, f6, f7, f8, f9, f10, f11, f12, fz, fa, fc, own, gr, hbel⟩⟩ := hinv
            go_wp2_with fail
            exact ⟨⟨u4, u35, u36, u37, u38, u39, u40, (.int .i64 ((j : Int) + 1)), u42, u43, u44, u45, u46, u47, y9, p9, g9, c9, rfl, (f0.keep (i := 6) (by decide)), (f1.keep (i := 6) (by decide)), (f2.keep (i := 6) (by decide)), (f3.keep (i := 6) (by decide)), (f4.keep (i := 6) (by decide)), (f5.keep (i := 6) (by decide)), (Gd.new (by first | rfl | simp)), (f7.keep (i := 6) (by decide)), (f8.keep (i := 6) (by decide)), (f9.keep (i := 6) (by decide)), (f10.keep (i := 6) (by decide)), (f11.keep (i := 6) (by decide)), (f12.keep (i := 6) (by decide)), (fz.keep (i := 6) (by decide)), (fa.keep (i := 6) (by decide)), (Gd.keep (i := 6) (fc.imp fun h => Ng.keep (i := 6) h (by decide)) (by decide)), (own.keep (i := 6) (by decide)), (gr.keep (i := 6) (by decide)), hbel⟩⟩
          refine .cons 8 rfl ?_ ?_
          · intro d a w9 hsz hcl hinv hd hdep
            obtain ⟨⟨u4, u35, u36, u37, u38, u39, u40, u41, u42, u43, u44, u45, u46, u47, y9, p9, g9, c9, rfl, f0, f1, f2, f3, f4, f5, f6, f7, f8, f9, f10, f11, f12, fz, fa, fc, own, gr, hbel⟩⟩ := hinv
            have e6 := f6 (hdep.get 6 rfl)
            subst e6
            go_wp2_with fail
            exact ⟨⟨u4, u35, u36, u37, u38, u39, u40, (.int .i64 ((j : Int) + 1)), (.int .i64 (j : Int)), u43, u44, u45, u46, u47, y9, p9, g9, c9, rfl, (f0.keep (i := 7) (by decide)), (f1.keep (i := 7) (by decide)), (f2.keep (i := 7) (by decide)), (f3.keep (i := 7) (by decide)), (f4.keep (i := 7) (by decide)), (f5.keep (i := 7) (by decide)), (Gd.new rfl), (Gd.new (by first | rfl | simp)), (f8.keep (i := 7) (by decide)), (f9.keep (i := 7) (by decide)), (f10.keep (i := 7) (by decide)), (f11.keep (i := 7) (by decide)), (f12.keep (i := 7) (by decide)), (fz.keep (i := 7) (by decide)), (fa.keep (i := 7) (by decide)), (Gd.keep (i := 7) (fc.imp fun h => Ng.keep (i := 7) h (by decide)) (by decide)), (own.keep (i := 7) (by decide)), (gr.keep (i := 7) (by decide)), hbel⟩⟩
          refine .cons 9 rfl ?_ ?_
          · intro d a w9 hsz hcl hinv hd hdep
            obtain ⟨⟨u4, u35, u36, u37, u38, u39, u40, u41, u42, u43, u44, u45, u46, u47, y9, p9, g9, c9, rfl, f0, f1, f2, f3, f4, f5, f6, f7, f8, f9, f10, f11, f12, fz, fa, fc, own, gr, hbel⟩⟩ := hinv
            have e5 := f5 (hdep.get 5 rfl)
            subst e5
            have e7 := f7 (hdep.get 7 rfl)
            subst e7
            go_wp2_with fail
            exact ⟨⟨u4, u35, u36, u37, u38, u39, (.slice (some ⟨b, off, none⟩) n cap), u41, (.int .i64 (j : Int)), (.pointer (some ⟨b, off + j, none⟩)), u44, u45, u46, u47, y9, p9, g9, c9, rfl, (f0.keep (i := 8) (by decide)), (f1.keep (i := 8) (by decide)), (f2.keep (i := 8) (by decide)), (f3.keep (i := 8) (by decide)), (f4.keep (i := 8) (by decide)), (Gd.new rfl), (f6.keep (i := 8) (by decide)), (Gd.new rfl), (Gd.new (by first | rfl | simp)), (f9.keep (i := 8) (by decide)), (f10.keep (i := 8) (by decide)), (f11.keep (i := 8) (by decide)), (f12.keep (i := 8) (by decide)), (fz.keep (i := 8) (by decide)), (fa.keep (i := 8) (by decide)), (Gd.keep (i := 8) (fc.imp fun h => Ng.keep (i := 8) h (by decide)) (by decide)), (own.keep (i := 8) (by decide)), (gr.keep (i := 8) (by decide)), hbel⟩⟩
          refine .cons 10 rfl ?_ ?_
          · intro d a w9 hsz hcl hinv hd hdep
            obtain ⟨⟨u4, u35, u36, u37, u38, u39, u40, u41, u42, u43, u44, u45, u46, u47, y9, p9, g9, c9, rfl, f0, f1, f2, f3, f4, f5, f6, f7, f8, f9, f10, f11, f12, fz, fa, fc, own, gr, hbel⟩⟩ := hinv
            have e8 := f8 (hdep.get 8 rfl)
            subst e8
            have hcx : w9.cell? ⟨b, off + j, none⟩ = some (.float .f32 x0) := (hbel.cell (p := ⟨b, off + j, none⟩) HBl.out).trans HCy.out
            go_wp2_with fail
            exact ⟨⟨u4, u35, u36, u37, u38, u39, u40, u41, u42, (.pointer (some ⟨b, off + j, none⟩)), (.float .f32 x0), u45, u46, u47, y9, p9, g9, c9, rfl, (f0.keep (i := 9) (by decide)), (f1.keep (i := 9) (by decide)), (f2.keep (i := 9) (by decide)), (f3.keep (i := 9) (by decide)), (f4.keep (i := 9) (by decide)), (f5.keep (i := 9) (by decide)), (f6.keep (i := 9) (by decide)), (f7.keep (i := 9) (by decide)), (Gd.new rfl), (Gd.new (by first | rfl | simp)), (f10.keep (i := 9) (by decide)), (f11.keep (i := 9) (by decide)), (f12.keep (i := 9) (by decide)), (fz.keep (i := 9) (by decide)), (fa.keep (i := 9) (by decide)), (Gd.keep (i := 9) (fc.imp fun h => Ng.keep (i := 9) h (by decide)) (by decide)), (own.keep (i := 9) (by decide)), (gr.keep (i := 9) (by decide)), hbel⟩⟩
          refine .cons 11 rfl ?_ ?_
          · intro d a w9 hsz hcl hinv hd hdep
            obtain ⟨⟨u4, u35, u36, u37, u38, u39, u40, u41, u42, u43, u44, u45, u46, u47, y9, p9, g9, c9, rfl, f0, f1, f2, f3, f4, f5, f6, f7, f8, f9, f10, f11, f12, fz, fa, fc, own, gr, hbel⟩⟩ := hinv
            have e4 := f4 (hdep.get 4 rfl)
            subst e4
            have e9 := f9 (hdep.get 9 rfl)
            subst e9
            have n11 := hcl.not hd 11 _ rfl rfl
            have n12 := hcl.not n11 12 _ rfl rfl
            have n13 := hcl.not n12 13 _ rfl rfl
            go_wp2_with (((with_reducible refine wpList_bin ?_); refine wpList_f32 rfl _ _ _ _ _ rfl rfl rfl (by decide) (by first | assumption | exact Is32.c (by decide)) (by first | assumption | exact Is32.c (by decide)) ?_; intro zn nq hz9))
            exact ⟨⟨u4, u35, u36, u37, u38, (.float .f32 x), u40, u41, u42, u43, (.float .f32 x0), (.float .f32 zn), u46, u47, zn, p9, g9, c9, rfl, (f0.keep (i := 10) (by decide)), (f1.keep (i := 10) (by decide)), (f2.keep (i := 10) (by decide)), (f3.keep (i := 10) (by decide)), (Gd.new rfl), (f5.keep (i := 10) (by decide)), (f6.keep (i := 10) (by decide)), (f7.keep (i := 10) (by decide)), (f8.keep (i := 10) (by decide)), (Gd.new rfl), (Gd.new ⟨rfl, hz9⟩), (Gd.undone (i := 10) n11 (by decide)), (Gd.undone (i := 10) n12 (by decide)), (fz.keep (i := 10) (by decide)), (Gd.undone (i := 10) n13 (by decide)), (Gd.undone (i := 10) n11 (by decide)), (Ng.keep (i := 10) (own.imp fun h => h.drewN _) (by decide)), (Gd.undone (i := 10) n12 (by decide)), (below_drewN hbel _)⟩⟩
          refine .cons 12 rfl ?_ ?_
          · intro d a w9 hsz hcl hinv hd hdep
            obtain ⟨⟨u4, u35, u36, u37, u38, u39, u40, u41, u42, u43, u44, u45, u46, u47, y9, p9, g9, c9, rfl, f0, f1, f2, f3, f4, f5, f6, f7, f8, f9, f10, f11, f12, fz, fa, fc, own, gr, hbel⟩⟩ := hinv
            obtain ⟨e10, h10⟩ := f10 (hdep.get 10 rfl)
            subst e10
            have n12 := hcl.not hd 12 _ rfl rfl
            have n13 := hcl.not n12 13 _ rfl rfl
            go_wp2_with fail
            exact ⟨⟨u4, u35, u36, u37, u38, u39, u40, u41, u42, u43, u44, (.float .f32 y9), (.slice (some ⟨w9.heap.size, 0, none⟩) 1 1), u47, y9, w9.heap.size, g9, c9, rfl, (f0.keep (i := 11) (by decide)), (f1.keep (i := 11) (by decide)), (f2.keep (i := 11) (by decide)), (f3.keep (i := 11) (by decide)), (f4.keep (i := 11) (by decide)), (f5.keep (i := 11) (by decide)), (f6.keep (i := 11) (by decide)), (f7.keep (i := 11) (by decide)), (f8.keep (i := 11) (by decide)), (f9.keep (i := 11) (by decide)), (Gd.new ⟨rfl, h10⟩), (Gd.new (by first | rfl | simp)), (Gd.undone (i := 11) n12 (by decide)), (fz.keep (i := 11) (by decide)), (Gd.undone (i := 11) n13 (by decide)), (Gd.new fun _ => (Bx.new w9 [.float .f32 y9] _).c 0 rfl), (Ng.keep (i := 11) (own.imp fun h => h.alloc _) (by decide)), (Gd.undone (i := 11) n12 (by decide)), (hbel.alloc (by have := hbel.size; have := HLo.out; omega) _)⟩⟩
          refine .cons 13 rfl ?_ ?_
          · intro d a w9 hsz hcl hinv hd hdep
            obtain ⟨⟨u4, u35, u36, u37, u38, u39, u40, u41, u42, u43, u44, u45, u46, u47, y9, p9, g9, c9, rfl, f0, f1, f2, f3, f4, f5, f6, f7, f8, f9, f10, f11, f12, fz, fa, fc, own, gr, hbel⟩⟩ := hinv
            have e0 := (f0 (hdep.get 0 rfl)).symm
            subst e0
            have e11 := f11 (hdep.get 11 rfl)
            subst e11
            have n13 := hcl.not hd 13 _ rfl rfl
            have hq := fc (hdep.get 11 rfl) hd
            have hown := own hd
            refine push_z rfl rfl _ _ rfl (v := _) rfl (.inl hown) p9 _ y9 rfl hq Hl9.out (by have := hbel.size; have := HLo.out; omega) ?_
            intro gn kn w8 hr8 hb8
            go_wp2_with fail
            exact ⟨⟨u4, (v), u36, u37, u38, u39, u40, u41, u42, u43, u44, u45, (.slice (some ⟨p9, 0, none⟩) 1 1), (.slice (some ⟨gn, 0, none⟩) (rs.length + 1) kn), y9, p9, gn, kn, rfl, (Gd.new rfl), (f1.keep (i := 12) (by decide)), (f2.keep (i := 12) (by decide)), (f3.keep (i := 12) (by decide)), (f4.keep (i := 12) (by decide)), (f5.keep (i := 12) (by decide)), (f6.keep (i := 12) (by decide)), (f7.keep (i := 12) (by decide)), (f8.keep (i := 12) (by decide)), (f9.keep (i := 12) (by decide)), (f10.keep (i := 12) (by decide)), (Gd.new rfl), (Gd.new (by first | rfl | simp)), (fz.keep (i := 12) (by decide)), (Gd.undone (i := 12) n13 (by decide)), (fun _ => Ng.new (by rw [hsz]; exact (by decide : 12 < 14))), (Ng.new (by rw [hsz]; exact (by decide : 12 < 14))), (Gd.new hr8), (hbel.trans hb8)⟩⟩
          refine .cons 14 rfl ?_ trivial
          · intro d a w9 hsz hcl hinv hd hdep
            obtain ⟨⟨u4, u35, u36, u37, u38, u39, u40, u41, u42, u43, u44, u45, u46, u47, y9, p9, g9, c9, rfl, f0, f1, f2, f3, f4, f5, f6, f7, f8, f9, f10, f11, f12, fz, fa, fc, own, gr, hbel⟩⟩ := hinv
            have e12 := f12 (hdep.get 12 rfl)
            subst e12
            go_wp2_with fail
            exact ⟨⟨(.slice (some ⟨g9, 0, none⟩) (rs.length + 1) c9), u35, u36, u37, u38, u39, u40, u41, u42, u43, u44, u45, u46, (.slice (some ⟨g9, 0, none⟩) (rs.length + 1) c9), y9, p9, g9, c9, rfl, (f0.keep (i := 13) (by decide)), (f1.keep (i := 13) (by decide)), (f2.keep (i := 13) (by decide)), (f3.keep (i := 13) (by decide)), (f4.keep (i := 13) (by decide)), (f5.keep (i := 13) (by decide)), (f6.keep (i := 13) (by decide)), (f7.keep (i := 13) (by decide)), (f8.keep (i := 13) (by decide)), (f9.keep (i := 13) (by decide)), (f10.keep (i := 13) (by decide)), (f11.keep (i := 13) (by decide)), (Gd.new rfl), (Ng.new (by rw [hsz]; exact (by decide : 13 < 14))), (Gd.new (by first | rfl | simp)), (Gd.keep (i := 13) (fc.imp fun h => Ng.keep (i := 13) h (by decide)) (by decide)), (own.keep (i := 13) (by decide)), (gr.keep (i := 13) (by decide)), hbel⟩⟩
        intro d a w9 hinv hall
        obtain ⟨⟨u4, u35, u36, u37, u38, u39, u40, u41, u42, u43, u44, u45, u46, u47, y9, p9, g9, c9, rfl, f0, f1, f2, f3, f4, f5, f6, f7, f8, f9, f10, f11, f12, fz, fa, fc, own, gr, hbel⟩⟩ := hinv
        have e9 := fa (hall 13 (by decide))
        subst e9
        have hy9 := (f10 (hall 10 (by decide))).2
        have hgr := gr (hall 12 (by decide))
        have hbb := hbel
        clear f0 f1 f2 f3 f4 f5 f6 f7 f8 f9 f10 f11 f12 fz fa fc own gr hbel
        have HGR := Lib.hid hgr
        have HY := Lib.hid hy9
        have HBX := Lib.hid (HBW.out.trans hbb)
        clear hgr hy9 hbb
        go_wp2_with fail
        go_roundw
        case rel => exact ⟨j + 1, rs ++ [y9], _, by omega, rfl, by go_num, Lib.hid (by rw [HSt.out, Hlt.out]; exact HIs.out.snoc HY.out), HGR, HBX⟩
        case measure => simp [intOf]; omega
    · obtain rfl : j + 1 = n := by omega
      have hk1 : ¬ (j : Int) + 1 < ((j + 1 : Nat) : Int) := by omega
      have hrl : rs.length ≤ j + 1 := by have := recL_len zs (j + 1); rw [HIs.out.1] at this; exact this
      have Hrl := Lib.hid hrl
      clear hrl
      generalize recL zs (j + 1) = Xs at *
      have hxl := HIs.out.1
      have HXl := Lib.hid hxl
      clear hxl
      obtain ⟨av, cv, hav⟩ := HRo.out.len
      subst hav
      have HRF := Lib.hid ((FRow.mk HRo.out).row)
      by_cases h0 : rs.length = 0
      · have h00 : ((rs.length : Int) == 0) = true := by simp [h0]
        have HQ : Hid (R = (some 0, false)) := Lib.hid (by rw [HR.out]; exact recF_none (by rw [HXl.out]; exact h0))
        have H0 := Lib.hid h0
        clear h0
        generalize rs.length = rl at *
        go_wp2_with fail
        go_ret2
        rw [HQ.out]
        exact ⟨_, _, rfl, rfl, Is32.c (by decide), HBk.out⟩
      · have h00 : ((rs.length : Int) == 0) = false := by simp [h0]
        have HQ : Hid (R = onlyO (negO (meanO (slO Xs) rs.length))) := Lib.hid (by rw [HR.out, ← HXl.out]; exact recF_some (by rw [HXl.out]; exact h0))
        have H0 := Lib.hid h0
        clear h0
        have HC := Lib.hid (logsOf_any av cv rs _ HRF.out (by have := Hrl.out; omega) (is_lt HIs.out))
        obtain ⟨rl, hrl⟩ : ∃ rl, rs.length = rl := ⟨_, rfl⟩
        rw [hrl] at h00 HC
        try rw [hrl]
        have HRl := Lib.hid hrl
        clear hrl
        go_wp2_with fail
        refine HC.out.mono ?_
        rintro e w3 ⟨b3, nn, cp, ms, rfl, hnn, his, hrow, hge, hb⟩
        subst hnn
        have hml : ms.length = rl := by rw [← his.1]; exact mapL_len _ _ _
        have hml2 : ms.length ≤ 256 := by rw [hml]; have := Hrl.out; have := HRl.out; omega
        have Hml := Lib.hid hml
        have Hsm : Hid (fsum ms = slO Xs) := Lib.hid (slO_all HIs.out (by rw [HRl.out]; exact his))
        have HB3 := Lib.hid (HBk.out.trans (hb.mono HBk.out.size))
        have Hrow := Lib.hid hrow
        clear his hrow hb hge hml
        go_wp2_with fail
        refine (meanOf_any (some ⟨b3, 0, none⟩) cp ms _ Hrow.out (by omega)).mono ?_
        rintro e w4 ⟨m, rfl, hm, n4, rfl⟩
        have hm9 : Is32 (meanO (slO Xs) rs.length) m := by rw [← Hsm.out, HRl.out, ← Hml.out]; exact hm
        clear hm
        go_wp2_with (first | (go_at_call 61; refine (finiteOnly_o _ (by first | assumption | exact Is32.c (by decide) | exact Is32.neg (by assumption))).mono ?_; rintro e w' ⟨z, bb, rfl, hbb, hz, rfl⟩))
        go_ret2
        rw [HQ.out]
        exact ⟨_, _, rfl, hbb, hz, (by first | exact beld HB3.out _ | exact beld (beld HB3.out _) _)⟩

end Go.Proofs.Ytdmcjloaommnpaa
