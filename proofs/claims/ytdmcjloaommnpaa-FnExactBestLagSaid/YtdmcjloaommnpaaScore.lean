/- Scores: the program and its model alike. -/
import Derived.Test.YtdmcjloaommnpaaFitF
import Derived.Test.YtdmcjloaommnpaaDiv0
namespace Go.Proofs.Ytdmcjloaommnpaa
open Go.RowKit
set_option linter.unusedVariables false
set_option linter.unusedSimpArgs false
set_option maxRecDepth 100000
attribute [local irreducible] wpV wpList Code.wp

def misL (T S : List Nat) (n : Nat) : List (Option Nat) := (List.range n).map (fun i => fop .sub .f32 (some (T.getD i 0)) (some (S.getD i 0)))
theorem misL_succ (T S : List Nat) (n : Nat) : misL T S (n + 1) = misL T S n ++ [fop .sub .f32 (some (T.getD n 0)) (some (S.getD n 0))] := by unfold misL; rw [List.range_succ, List.map_append]; rfl
theorem misL_len (T S : List Nat) (n : Nat) : (misL T S n).length = n := by simp [misL]
theorem misL_get {T S : List Nat} {n i : Nat} (h : i < n) : (misL T S n).getD i none = fop .sub .f32 (some (T.getD i 0)) (some (S.getD i 0)) := by
  unfold misL; rw [List.getD_eq_getElem?_getD, List.getElem?_map, List.getElem?_range h]; rfl
def bothB (T S : List Nat) : Bool := (gauB T && gauB S) && decide ((T.length : Int) = (S.length : Int))
def scoV (S : List Nat) : Option Nat := varO (fitM S) S
def scoD (T S : List Nat) : Option Nat := sqO (misL T S S.length) S.length
def scoX (T S : List Nat) : Option Nat := fop .sub .f32 (some 1065353216) (fop .quo .f32 (scoD T S) (scoV S))
def scoreO (T S : List Nat) : Option Nat × Bool := if bothB T S then (if fcmp .eql .f32 (scoV S) (some 0) then (some 0, false) else onlyO (scoX T S)) else (some 0, false)
theorem score_no {T S : List Nat} (h : bothB T S = false) : scoreO T S = (some 0, false) := by unfold scoreO; rw [h]; rfl
theorem score_zero {T S : List Nat} (h : bothB T S = true) (h2 : fcmp .eql .f32 (scoV S) (some 0) = true) : scoreO T S = (some 0, false) := by unfold scoreO; rw [h, h2]; rfl
theorem score_go {T S : List Nat} (h : bothB T S = true) (h2 : fcmp .eql .f32 (scoV S) (some 0) = false) : scoreO T S = onlyO (scoX T S) := by unfold scoreO; rw [h, h2]; rfl
theorem score_all {T S : List Nat} {v : Nat} (h : bothB T S = true) (hv : Is32 (scoV S) v) : scoreO T S = onlyO (scoX T S) := by
  cases h2 : fcmp .eql .f32 (scoV S) (some 0)
  · exact score_go h h2
  · rw [score_zero h h2]
    unfold scoX onlyO
    rw [sub_no_fin_r _ (quo_zero hv h2)]; rfl
theorem bothB_parts {T S : List Nat} (h : bothB T S = true) : gauB T = true ∧ gauB S = true ∧ T.length = S.length := by
  simp only [bothB, Bool.and_eq_true, decide_eq_true_eq] at h; exact ⟨h.1.1, h.1.2, by omega⟩
theorem bothB_1 {T S : List Nat} (h : gauB T = false) : bothB T S = false := by unfold bothB; rw [h]; rfl
theorem bothB_2 {T S : List Nat} (h : gauB S = false) : bothB T S = false := by unfold bothB; rw [h, Bool.and_false]; rfl
theorem bothB_3 {T S : List Nat} (h : ¬ (T.length : Int) = (S.length : Int)) : bothB T S = false := by unfold bothB; rw [decide_eq_false h, Bool.and_false]
theorem bothB_y {T S : List Nat} (h : gauB T = true) (h2 : gauB S = true) (h3 : (T.length : Int) = (S.length : Int)) : bothB T S = true := by unfold bothB; rw [h, h2, decide_eq_true h3]; rfl
theorem sqm_of {T S ls : List Nat} {q n : Nat} (h : Is32s (misL T S n) ls) (hn : ls.length = n) (hq : Is32 (fdot ls ls ls.length) q) : Is32 (sqO (misL T S n) n) q := by
  rw [sq_dot h _ (Nat.le_refl _), hn] at hq; exact hq

theorem meanOf_n (a : Option Addr) (cap n : Nat) (zs : List Nat) (w : World) (hn : zs.length = n) (h : RowF .f32 w a zs) (hl : n ≤ 256) : Calls Try.prog 66 #[.slice a n cap] w (NumQ (meanO (fsum zs) n) w) := by subst hn; exact meanOf_any a cap zs w h hl
theorem lessOf_n {M : Option Nat} {m : Nat} (a : Option Addr) (cap n : Nat) (zs : List Nat) (w : World) (hn : zs.length = n) (h : RowF .f32 w a zs) (hl : n ≤ 1048576) (hz : ∀ z ∈ zs, z < 4294967296) (hm : Is32 M m) : Calls Try.prog 69 #[.slice a n cap, .float .f32 m] w (LstB (mapL (fun z => fop .sub .f32 (some z) M) zs n) w) := by subst hn; exact lessOf_any a cap zs w h hl hz hm
theorem squaresOf_n (a : Option Addr) (cap n : Nat) (zs : List Nat) (w : World) (hn : zs.length = n) (h : RowF .f32 w a zs) (hl : n ≤ 256) : Calls Try.prog 68 #[.slice a n cap] w (NumQ (fdot zs zs n) w) := by subst hn; exact squaresOf_any a cap zs w h hl
theorem l07Mean_n (a : Option Addr) (cap n : Nat) (zs : List Nat) (w : World) (hn : zs.length = n) (h : RowF .f32 w a zs) (hl : n ≤ 1048576) : Calls Try.prog 63 #[.slice a n cap] w (NumQ (meanO (fsum zs) n) w) := by subst hn; exact l07Mean_any a cap zs w h hl
theorem l07Squares_n {M : Option Nat} {m : Nat} (a : Option Addr) (cap n : Nat) (zs : List Nat) (w : World) (hn : zs.length = n) (h : RowF .f32 w a zs) (hl : n ≤ 1048576) (hz : ∀ z ∈ zs, z < 4294967296) (hm : Is32 M m) : Calls Try.prog 65 #[.slice a n cap, .float .f32 m] w (NumQ (sqO (mapL (fun z => fop .sub .f32 (some z) M) zs n) n) w) := by subst hn; exact l07Squares_any a cap zs w h hl hz hm

set_option maxHeartbeats 2000000 in
theorem areGauges_any (a0 : Option Addr) (cap0 : Nat) (T : List Nat) (a1 : Option Addr) (cap1 : Nat) (S : List Nat) (w : World) (h0 : RowF .f32 w a0 T) (hl0 : T.length ≤ 1048576) (hz0 : ∀ z ∈ T, z < 4294967296) (h1 : RowF .f32 w a1 S) (hl1 : S.length ≤ 1048576) (hz1 : ∀ z ∈ S, z < 4294967296) : Calls Try.prog 71 #[.slice a0 T.length cap0, .slice a1 S.length cap1] w (SayB (bothB T S) w) := by
  have H0 := Lib.hid h0
  have H1 := Lib.hid h1
  have HZ0 := Lib.hid hz0
  have HZ1 := Lib.hid hz1
  clear h0 h1 hz0 hz1
  have B1 := Lib.hid (@bothB_1 T S)
  have B2 := Lib.hid (@bothB_2 T S)
  have B3 := Lib.hid (@bothB_3 T S)
  have BY := Lib.hid (@bothB_y T S)
  generalize bothB T S = R at *
  go_enter Try.func71, Try.ntmps71
  go_wp2_with fail
  refine (isGauge_i a0 cap0 T _ H0.out hl0 HZ0.out).mono ?_
  rintro e w1 ⟨bb, hbb, rfl, hb⟩
  have HB1 := Lib.hid hb
  have Hx := Lib.hid hbb
  clear hb hbb
  cases bb
  · go_wp2_with fail
    go_ret
    exact ⟨_, B1.out Hx.out, rfl, HB1.out⟩
  go_wp2_with fail
  refine (isGauge_i a1 cap1 S _ (H1.out.below HB1.out (Nat.le_refl _)) hl1 HZ1.out).mono ?_
  rintro e w2 ⟨bb, hbb, rfl, hb⟩
  have HB2 := Lib.hid (HB1.out.trans (hb.mono HB1.out.size))
  have Hu := Lib.hid hbb
  clear hb hbb
  cases bb
  · go_wp2_with fail
    go_ret
    exact ⟨_, B2.out Hu.out, rfl, HB2.out⟩
  by_cases h3 : (T.length : Int) = (S.length : Int)
  · have Y := Lib.hid (BY.out Hx.out Hu.out h3)
    have h4 : ((T.length : Int) == (S.length : Int)) = true := beq_iff_eq.2 h3
    have H3 := Lib.hid h3
    generalize T.length = n0 at *
    generalize S.length = n1 at *
    clear h3
    go_wp2_with fail
    go_ret
    exact ⟨_, Y.out, rfl, HB2.out⟩
  · have Y := Lib.hid (B3.out h3)
    have h4 : ((T.length : Int) == (S.length : Int)) = false := beq_eq_false_iff_ne.2 h3
    have H3 := Lib.hid h3
    generalize T.length = n0 at *
    generalize S.length = n1 at *
    clear h3
    go_wp2_with fail
    go_ret
    exact ⟨_, Y.out, rfl, HB2.out⟩

set_option maxHeartbeats 8000000 in
theorem scoreOf_i (a0 : Option Addr) (cap0 : Nat) (T : List Nat) (a1 : Option Addr) (cap1 : Nat) (S : List Nat) (w : World) (h0 : RowF .f32 w a0 T) (hl0 : T.length ≤ 1048576) (hz0 : ∀ z ∈ T, z < 4294967296) (h1 : RowF .f32 w a1 S) (hl1 : S.length ≤ 1048576) (hz1 : ∀ z ∈ S, z < 4294967296) : Calls Try.prog 25 #[.slice a0 T.length cap0, .slice a1 S.length cap1] w (OnlyB (scoreO T S) w) := by
  have H0 := Lib.hid h0
  have H1 := Lib.hid h1
  have HZ0 := Lib.hid hz0
  have HZ1 := Lib.hid hz1
  clear h0 h1 hz0 hz1
  have Sno := Lib.hid (@score_no T S)
  have Szero := Lib.hid (@score_zero T S)
  have Sgo := Lib.hid (@score_go T S)
  have Sall : Hid (∀ v, bothB T S = true → Is32 (scoV S) v → scoreO T S = onlyO (scoX T S)) := Lib.hid fun v a b => score_all a b
  generalize scoreO T S = R at *
  have HBp := Lib.hid (@bothB_parts T S)
  have HAG := Lib.hid (areGauges_any a0 cap0 T a1 cap1 S w H0.out hl0 HZ0.out H1.out hl1 HZ1.out)
  go_enter Try.func25, Try.ntmps25
  go_wp2_with fail
  refine HAG.out.mono ?_
  rintro e w1 ⟨bb, hbb, rfl, hb⟩
  have HB1 := Lib.hid hb
  have Hbb := Lib.hid hbb
  clear hb hbb HAG
  cases bb
  · go_wp2_with fail
    go_ret2
    rw [Sno.out Hbb.out]
    exact ⟨_, _, rfl, rfl, Is32.c (by decide), HB1.out⟩
  obtain ⟨hg0, hg1, hlen⟩ := HBp.out Hbb.out
  have h128 := gauB_len hg1
  have Hg0 := Lib.hid hg0
  have Hg1 := Lib.hid hg1
  clear hg0 hg1 HBp
  obtain ⟨len, hln⟩ : ∃ len, S.length = len := ⟨_, rfl⟩
  rw [hln] at hlen h128 hl1 ⊢
  rw [hlen] at hl0 ⊢
  have Hl0 := Lib.hid hlen
  have Hl1 := Lib.hid hln
  clear hlen hln
  go_wp2_with (at_make; refine make_any rfl rfl _ _ rfl .i64 .i64 _ _ len rfl rfl rfl rfl (by omega) (lo := w.heap.size) HB1.out.size ?_)
  intro w3 hown hgrow
  have HB3 := Lib.hid (Below.made HB1.out hgrow HB1.out.size)
  have HG : Hid (w.heap.size ≤ (⟨w1.heap.size, 0, none⟩ : Addr).block) := Lib.hid HB1.out.size
  have HRow3 : Hid (RowO w3 w.heap.size (.slice (some ⟨w1.heap.size, 0, none⟩) len len) (([] : List Nat) ++ List.replicate (len - ([] : List Nat).length) 0)) := Lib.hid (by simpa using hown)
  clear hown hgrow
  go_wp2_with fail
  go_loopw [19] (fun i wr => ∃ (k : Nat) (ls : List Nat), k ≤ len ∧ i = .int .i64 k ∧ Hid (ls.length = k) ∧ Hid (Is32s (misL T S k) ls) ∧ Hid (RowO wr w.heap.size (.slice (some ⟨w1.heap.size, 0, none⟩) len len) (ls ++ List.replicate (len - ls.length) 0)) ∧ Hid (Below w.heap.size w wr)) (fun i _ => len - (intOf i).toNat)
  case atStart => exact ⟨0, [], Nat.zero_le _, rfl, Lib.hid rfl, Lib.hid Is32s.nil, HRow3, HB3⟩
  case round =>
    obtain ⟨k, ls, hk, rfl, HLk, HIl, HRow, HBk⟩ := hrel
    by_cases hlt : k < len
    · obtain ⟨b0, o0, rfl, hc0⟩ := ((H0.out.below HBk.out (Nat.le_refl _)).cells) k (by rw [Hl0.out]; exact hlt)
      obtain ⟨b1, o1, rfl, hc1⟩ := ((H1.out.below HBk.out (Nat.le_refl _)).cells) k (by rw [Hl1.out]; exact hlt)
      have hzx : Is32 (some (T.getD k 0)) (T.getD k 0) := Is32.c (getD_lt HZ0.out k (by rw [Hl0.out]; exact hlt))
      have hzy : Is32 (some (S.getD k 0)) (S.getD k 0) := Is32.c (getD_lt HZ1.out k (by rw [Hl1.out]; exact hlt))
      have Hsn := Lib.hid (misL_succ T S k)
      generalize T.getD k 0 = x at *
      generalize S.getD k 0 = y at *
      obtain ⟨hcell, hfz⟩ := HRow.out.at (fill_len ls len (by rw [HLk.out]; exact hk)).symm k (by rw [fill_len ls len (by rw [HLk.out]; exact hk)]; exact hlt)
      have hk0 : (0 : Int) ≤ (k : Int) := by omega
      have hk1 : (k : Int) < (len : Int) := by omega
      go_wp2_with (first | ((with_reducible refine wpList_bin ?_); refine wpList_f32 rfl _ _ _ _ _ rfl rfl rfl (by decide) (by first | assumption | exact Is32.c (by decide)) (by first | assumption | exact Is32.c (by decide)) ?_; intro z n hz))
      go_roundw
      case rel => exact ⟨k + 1, ls ++ [z], by omega, by go_num, Lib.hid (by rw [List.length_append, List.length_singleton, HLk.out]), Lib.hid (by rw [Hsn.out]; exact HIl.out.snoc (by assumption)), Lib.hid (by rw [← fill_set ls len _ (by rw [HLk.out]; exact hlt), HLk.out]; have h9 := HRow.out; rw [HLk.out] at h9; first | exact (h9.drewN _).store (by rw [← HLk.out, fill_len ls len (by rw [HLk.out]; exact hk)]) k _ | exact h9.store (by rw [← HLk.out, fill_len ls len (by rw [HLk.out]; exact hk)]) k _), Lib.hid (by first | exact (beld HBk.out _).setCell HG.out _ | exact HBk.out.setCell HG.out _)⟩
      case measure => simp [intOf]; omega
    · obtain rfl : k = len := by omega
      have hr9 := HRow.out
      rw [fill_all ls k HLk.out] at hr9
      have HRm : Hid (RowF .f32 wr (some ⟨w1.heap.size, 0, none⟩) ls) := Lib.hid (by have h9 := hr9; rw [← HLk.out] at h9; exact (FRow.mk h9).row)
      clear hr9
      have HS : Hid (RowF .f32 wr a1 S) := Lib.hid (H1.out.below HBk.out (Nat.le_refl _))
      go_wp2_with fail
      refine (meanOf_n a1 cap1 _ S _ Hl1.out HS.out (by omega)).mono ?_
      rintro e w4 ⟨m, rfl, hm, n4, rfl⟩
      have Hm := Lib.hid hm
      clear hm
      go_wp2_with fail
      refine (lessOf_n a1 cap1 _ S _ Hl1.out (HS.out.drewN n4) (by omega) HZ1.out Hm.out).mono ?_
      rintro e w5 ⟨b, nn, cp, ss, rfl, hnn, his, hrow, hge, hb⟩
      subst hnn
      have hll : ss.length ≤ 256 := by rw [← his.1, mapL_len]; omega
      have HRm5 := Lib.hid ((HRm.out.drewN n4).below hb (Nat.le_refl _))
      have HB5 := Lib.hid ((beld HBk.out n4).trans (hb.mono (beld HBk.out n4).size))
      have His := Lib.hid his
      have Hrow := Lib.hid hrow
      clear his hrow hb hge
      go_wp2_with fail
      refine (squaresOf_any (some ⟨b, 0, none⟩) cp ss _ Hrow.out (by omega)).mono ?_
      rintro e w6 ⟨q, rfl, hq, n6, rfl⟩
      have Hq := Lib.hid (show Is32 (scoV S) q by unfold scoV; exact sq_of (by unfold subL fitM; rw [Hl1.out]; exact His.out) hq)
      clear hq
      go_wp2_with fail
      refine (squaresOf_n (some ⟨w1.heap.size, 0, none⟩) k _ ls _ HLk.out (HRm5.out.drewN n6) (by omega)).mono ?_
      rintro e w7 ⟨d, rfl, hd, n7, rfl⟩
      have Hd := Lib.hid (show Is32 (scoD T S) d by unfold scoD; rw [Hl1.out]; exact sqm_of HIl.out HLk.out (by rw [HLk.out]; exact hd))
      have hd9 := Hd.out
      have hq9 := Hq.out
      clear hd
      have HR : Hid (R = onlyO (scoX T S)) := Lib.hid (Sall.out _ Hbb.out hq9)
      have HB := HB5
      go_wp2_with (first | ((with_reducible refine wpList_bin ?_); refine wpList_f32 rfl _ _ _ _ _ rfl rfl rfl (by decide) (by first | assumption | exact Is32.c (by decide)) (by first | assumption | exact Is32.c (by decide)) ?_; intro z n hz) | (go_at_call 61; refine (finiteOnly_o _ (by assumption)).mono ?_; rintro e w' ⟨z, bb, rfl, hbb, hz, rfl⟩))
      go_ret2
      rw [HR.out]
      exact ⟨_, _, rfl, hbb, hz, (by first | exact HB.out | exact beld HB.out _ | exact beld (beld HB.out _) _ | exact beld (beld (beld HB.out _) _) _ | exact beld (beld (beld (beld HB.out _) _) _) _ | exact beld (beld (beld (beld (beld HB.out _) _) _) _) _)⟩

set_option maxHeartbeats 8000000 in
theorem scoreOf_s (a0 : Option Addr) (cap0 : Nat) (T : List Nat) (a1 : Option Addr) (cap1 : Nat) (S : List Nat) (w : World) (h0 : RowF .f32 w a0 T) (hl0 : T.length ≤ 1048576) (hz0 : ∀ z ∈ T, z < 4294967296) (h1 : RowF .f32 w a1 S) (hl1 : S.length ≤ 1048576) (hz1 : ∀ z ∈ S, z < 4294967296) : Calls Try.prog 24 #[.slice a0 T.length cap0, .slice a1 S.length cap1] w (OnlyB (scoreO T S) w) := by
  have H0 := Lib.hid h0
  have H1 := Lib.hid h1
  have HZ0 := Lib.hid hz0
  have HZ1 := Lib.hid hz1
  clear h0 h1 hz0 hz1
  have Sno := Lib.hid (@score_no T S)
  have Szero := Lib.hid (@score_zero T S)
  have Sgo := Lib.hid (@score_go T S)
  have Sall : Hid (∀ v, bothB T S = true → Is32 (scoV S) v → scoreO T S = onlyO (scoX T S)) := Lib.hid fun v a b => score_all a b
  generalize scoreO T S = R at *
  go_enter Try.func24, Try.ntmps24
  go_wp2_with fail
  refine (l07Gauge_o a0 cap0 T _ H0.out hl0 HZ0.out).mono ?_
  rintro e w1 ⟨bb, hbb, rfl, n1, rfl⟩
  have Hx := Lib.hid hbb
  clear hbb
  cases bb
  · have hno := bothB_1 (S := S) Hx.out
    have HNo := Lib.hid hno
    clear hno
    go_wp2_with fail
    go_ret2
    rw [Sno.out HNo.out]
    exact ⟨_, _, rfl, rfl, Is32.c (by decide), beld (Below.refl _ _) _⟩
  go_wp2_with fail
  refine (l07Gauge_o a1 cap1 S _ (H1.out.drewN n1) hl1 HZ1.out).mono ?_
  rintro e w2 ⟨bb, hbb, rfl, n2, rfl⟩
  have Hu := Lib.hid hbb
  clear hbb
  have HB : Hid (Below w.heap.size w ((w.drewN n1).drewN n2)) := Lib.hid (beld (beld (Below.refl _ _) _) _)
  have H0' := Lib.hid (H0.out.below HB.out (Nat.le_refl _))
  have H1' := Lib.hid (H1.out.below HB.out (Nat.le_refl _))
  generalize (w.drewN n1).drewN n2 = w2 at *
  cases bb
  · have HNo := Lib.hid (bothB_2 (T := T) Hu.out)
    go_wp2_with fail
    go_ret2
    rw [Sno.out HNo.out]
    exact ⟨_, _, rfl, rfl, Is32.c (by decide), HB.out⟩
  by_cases h3 : (T.length : Int) = (S.length : Int)
  rotate_left
  · have HNo := Lib.hid (bothB_3 h3)
    have h4 : ((T.length : Int) == (S.length : Int)) = false := beq_eq_false_iff_ne.2 h3
    have h5 : ((T.length : Int) != (S.length : Int)) = true := by simp [bne, h4]
    go_wp2_with fail
    go_ret2
    rw [Sno.out HNo.out]
    exact ⟨_, _, rfl, rfl, Is32.c (by decide), HB.out⟩
  have HBy := Lib.hid (bothB_y Hx.out Hu.out h3)
  have h128 := gauB_len Hu.out
  have hlen : T.length = S.length := by omega
  clear h3
  obtain ⟨len, hln⟩ : ∃ len, S.length = len := ⟨_, rfl⟩
  rw [hln] at hlen h128 hl1 ⊢
  rw [hlen] at hl0 ⊢
  have Hl0 := Lib.hid hlen
  have Hl1 := Lib.hid hln
  clear hlen hln
  go_wp2_with fail
  refine (l07Mean_n a1 cap1 _ S _ Hl1.out H1'.out (by omega)).mono ?_
  rintro e w4 ⟨m, rfl, hm, n4, rfl⟩
  have Hm := Lib.hid hm
  clear hm
  go_wp2_with fail
  refine (l07Squares_n a1 cap1 _ S _ Hl1.out (H1'.out.drewN n4) (by omega) HZ1.out Hm.out).mono ?_
  rintro e w6 ⟨q, rfl, hq, n6, rfl⟩
  have hq9 : Is32 (scoV S) q := by unfold scoV varO subL fitM; rw [Hl1.out]; exact hq
  clear hq
  have HB6 := Lib.hid (beld (beld HB.out n4) n6)
  have H06 := Lib.hid ((H0'.out.drewN n4).drewN n6)
  have H16 := Lib.hid ((H1'.out.drewN n4).drewN n6)
  generalize (w2.drewN n4).drewN n6 = w6 at *
  go_wp2_with (first | ((with_reducible refine wpList_bin ?_); refine wpList_c32 rfl _ _ _ _ _ rfl rfl rfl (by decide) (by first | assumption | exact Is32.c (by decide)) (by first | assumption | exact Is32.c (by decide)) ?_; intro bb hbb; cases bb))
  all_goals have Hz := Lib.hid hbb
  all_goals clear hbb
  rotate_left
  · go_wp2_with fail
    go_ret2
    rw [Szero.out HBy.out Hz.out]
    exact ⟨_, _, rfl, rfl, Is32.c (by decide), HB6.out⟩
  have HR : Hid (R = onlyO (scoX T S)) := Lib.hid (Sgo.out HBy.out Hz.out)
  have Hq := Lib.hid hq9
  clear hq9
  obtain ⟨D, hD⟩ : ∃ D : Nat → Option Nat, D = sqO (misL T S len) := ⟨_, rfl⟩
  have hDn : ∀ k, k < len → D (k + 1) = fop .add .f32 (D k) (fop .mul .f32 (fop .sub .f32 (some (T.getD k 0)) (some (S.getD k 0))) (fop .sub .f32 (some (T.getD k 0)) (some (S.getD k 0)))) := fun k hk => by rw [hD, sqO, misL_get hk]
  have HD0 : Hid (D 0 = some 0) := Lib.hid (by rw [hD]; rfl)
  have HDn := Lib.hid hDn
  have HDl : Hid (scoD T S = D len) := Lib.hid (by unfold scoD; rw [Hl1.out, hD])
  clear hD hDn
  go_loopw [7, 33] (fun s i wr => ∃ k n x : Nat, k ≤ len ∧ i = .int .i64 k ∧ s = .float .f32 x ∧ Hid (Is32 (D k) x) ∧ wr = w6.drewN n) (fun _ i _ => len - (intOf i).toNat)
  case atStart => exact ⟨0, 0, 0, Nat.zero_le _, rfl, rfl, Lib.hid (by rw [HD0.out]; exact Is32.c (by decide)), rfl⟩
  case round =>
    obtain ⟨k, n, x, hk, rfl, rfl, hx, rfl⟩ := hrel
    by_cases hlt : k < len
    · obtain ⟨b0, o0, rfl, hc0⟩ := (H06.out.cells) k (by rw [Hl0.out]; exact hlt)
      obtain ⟨b1, o1, rfl, hc1⟩ := (H16.out.cells) k (by rw [Hl1.out]; exact hlt)
      have hzx : Is32 (some (T.getD k 0)) (T.getD k 0) := Is32.c (getD_lt HZ0.out k (by rw [Hl0.out]; exact hlt))
      have hzy : Is32 (some (S.getD k 0)) (S.getD k 0) := Is32.c (getD_lt HZ1.out k (by rw [Hl1.out]; exact hlt))
      have Hn := Lib.hid (HDn.out k hlt)
      have hx9 := hx.out
      clear hx
      generalize T.getD k 0 = t at *
      generalize S.getD k 0 = s at *
      have hk0 : (0 : Int) ≤ (k : Int) := by omega
      have hk1 : (k : Int) < (len : Int) := by omega
      go_wp2_with fail
      apply wp_region_V (id := 10) (vmap [(8, V32k (fop .sub .f32 (some t) (some s)))]) (by kernel_rfl) (by kernel_rfl)
      (refine wpV_go 1 rfl (fun K hK => ?_); go_simp; refine hK.out _ ?_; clear hK K)
      (refine wpV_go 2 rfl (fun K hK => ?_); go_simp; refine hK.out _ ?_; clear hK K)
      (refine wpV_go 3 rfl (fun K hK => ?_); go_simp; refine hK.out _ ?_; clear hK K)
      (refine wpV_go 4 rfl (fun K hK => ?_); go_simp; refine hK.out _ ?_; clear hK K)
      (refine wpV_go 5 rfl (fun K hK => ?_); go_simp; refine hK.out _ ?_; clear hK K)
      (refine wpV_go 6 rfl (fun K hK => ?_); go_simp; refine hK.out _ ?_; clear hK K)
      (refine wpV_go 7 rfl (fun K hK => ?_); go_simp; refine hK.out _ ?_; clear hK K)
      (refine wpV_go 8 rfl (fun K hK => ?_); go_simp; refine hK.out _ ?_; clear hK K)
      (refine wpV_f32 9 rfl (drewC _) _ _ _ _ _ rfl rfl rfl rfl (by decide) (by first | assumption | exact Is32.c (by decide)) (by first | assumption | exact Is32.c (by decide)) rfl ?_; intro z hz)
      (refine wpV_go 10 rfl (fun K hK => ?_); go_simp; refine hK.out _ ?_; clear hK K)
      (refine wpV_nil ?_; intro q9)
      go_wp2_with (first | ((with_reducible refine wpList_bin ?_); refine wpList_f32 rfl _ _ _ _ _ rfl rfl rfl (by decide) (by first | assumption | exact Is32.c (by decide)) (by first | assumption | exact Is32.c (by decide)) ?_; intro z n hz))
      go_roundw
      case rel => exact ⟨k + 1, _, _, by omega, by go_num, rfl, Lib.hid (by rw [Hn.out]; assumption), rfl⟩
      case measure => simp [intOf]; omega
    · obtain rfl : k = len := by omega
      have hd9 := hx.out
      rw [← HDl.out] at hd9
      have hq9 := Hq.out
      have HB := HB6
      clear hx
      go_wp2_with (first | ((with_reducible refine wpList_bin ?_); refine wpList_f32 rfl _ _ _ _ _ rfl rfl rfl (by decide) (by first | assumption | exact Is32.c (by decide)) (by first | assumption | exact Is32.c (by decide)) ?_; intro z n hz) | (go_at_call 59; refine (l02Number_o _ (by assumption)).mono ?_; rintro e w' ⟨z, bb, rfl, hbb, hz, n9, rfl⟩))
      go_ret2
      rw [HR.out]
      exact ⟨_, _, rfl, hbb, hz, (by first | exact HB.out | exact beld HB.out _ | exact beld (beld HB.out _) _ | exact beld (beld (beld HB.out _) _) _ | exact beld (beld (beld (beld HB.out _) _) _) _ | exact beld (beld (beld (beld (beld HB.out _) _) _) _) _)⟩

end Go.Proofs.Ytdmcjloaommnpaa
