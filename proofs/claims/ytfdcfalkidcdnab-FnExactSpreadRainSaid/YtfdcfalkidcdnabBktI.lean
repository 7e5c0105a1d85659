/- Buckets: the program. -/
import Derived.Test.YtfdcfalkidcdnabBktC
import Derived.Test.YtfdcfalkidcdnabIsRain
namespace Go.Proofs.Ytfdcfalkidcdnab
open Go.RowKit
set_option linter.unusedVariables false
set_option linter.unusedSimpArgs false
set_option maxRecDepth 100000
attribute [local irreducible] wpV wpList Code.wp

@[go_sem] theorem unary_neg_f (k : FloatKind) (b : Nat) : Op.unary .neg (.float k b) = pure (.float k (Op.negFloat k b)) := rfl
def buckO (S : List Nat) (R T : Option Nat) (X : List Nat) : List Nat × List Nat × Bool :=
  if (decide (1 ≤ (S.length : Int)) && decide ((S.length : Int) ≤ 8)) && S.all amtB && amtO R && posO T && rainB X then
    (if (oIt (shareO R T) (S.map some) X X.length).1.all fin32o then ((oIt (shareO R T) (S.map some) X X.length).1.map (fun Y => Y.getD 0), (oIt (shareO R T) (S.map some) X X.length).2.map (fun Y => Y.getD 0), true) else ([], [], false)) else ([], [], false)
theorem St.self {S : List Nat} (hz : ∀ z ∈ S, z < 4294967296) (h : S.all amtB = true) : St (S.map some) := fun i hi => by
  rw [List.length_map] at hi
  have h1 := all_getD h i 0 hi
  have h2 : (S.map some).getD i none = some (S.getD i 0) := by
    rw [List.getD_eq_getElem?_getD, List.getElem?_map, List.getElem?_eq_getElem hi, List.getD_eq_getElem?_getD, List.getElem?_eq_getElem hi]; rfl
  rw [h2]
  have hlt : S.getD i 0 < 4294967296 := by rw [List.getD_eq_getElem?_getD, List.getElem?_eq_getElem hi]; exact hz _ (List.getElem_mem hi)
  exact .inr ⟨_, rfl, (amt_fn (Is32.c hlt) h1).2⟩
theorem rain_fn {X : List Nat} (hz : ∀ z ∈ X, z < 4294967296) (h : rainB X = true) : X.length ≤ 128 ∧ ∀ k, k < X.length → FN (X.getD k 0) := by
  unfold rainB at h
  rw [Bool.and_eq_true, decide_eq_true_eq] at h
  refine ⟨h.1, fun k hk => ?_⟩
  have hlt : X.getD k 0 < 4294967296 := by rw [List.getD_eq_getElem?_getD, List.getElem?_eq_getElem hk]; exact hz _ (List.getElem_mem hk)
  exact (amt_fn (Is32.c hlt) (all_getD h.2 k 0 hk)).2
theorem buck_yes {S X : List Nat} {R T : Option Nat} {sh : Nat} (hzS : ∀ z ∈ S, z < 4294967296) (hzX : ∀ z ∈ X, z < 4294967296) (h1 : (decide (1 ≤ (S.length : Int)) && decide ((S.length : Int) ≤ 8)) = true) (h2 : S.all amtB = true) (h3 : amtO R = true) (h4 : posO T = true) (h5 : rainB X = true) (hsh : shareO R T = some sh) :
    buckO S R T X = if (oIt (some sh) (S.map some) X X.length).1.all fin32o then ((oIt (some sh) (S.map some) X X.length).1.map (fun Y => Y.getD 0), (oIt (some sh) (S.map some) X X.length).2.map (fun Y => Y.getD 0), true) else ([], [], false) := by
  unfold buckO
  rw [h1, h2, h3, h4, h5, hsh]; rfl
theorem oIt_1 {Sh : Option Nat} {S : List (Option Nat)} {X us : List Nat} {k xk : Nat} (hx : X.getD k 0 = xk) (h : Is32s (bIt Sh (oIt Sh S X k).1 (some xk) S.length).1 us) : Is32s (oIt Sh S X (k + 1)).1 us := by
  rw [← hx] at h; exact h
theorem oIt_2 {Sh : Option Nat} {S : List (Option Nat)} {X ls : List Nat} {k xk x : Nat} (hx : X.getD k 0 = xk) (hl : Is32s (oIt Sh S X k).2 ls) (h : Is32 (bIt Sh (oIt Sh S X k).1 (some xk) S.length).2 x) : Is32s (oIt Sh S X (k + 1)).2 (ls ++ [x]) := by
  rw [← hx] at h; exact hl.snoc h
theorem getD_lt {X : List Nat} (hz : ∀ z ∈ X, z < 4294967296) (k : Nat) : X.getD k 0 < 4294967296 := by
  by_cases hk : k < X.length
  · rw [List.getD_eq_getElem?_getD, List.getElem?_eq_getElem hk]; exact hz _ (List.getElem_mem hk)
  · rw [List.getD_eq_getElem?_getD, List.getElem?_eq_none (by omega)]; decide

set_option maxHeartbeats 8000000 in
theorem runBuckets_i (a0 : Option Addr) (cap0 : Nat) (S : List Nat) (a3 : Option Addr) (cap3 : Nat) (X : List Nat) {R T : Option Nat} {r t : Nat} (w : World) (h0 : RowF .f32 w a0 S) (hl0 : S.length ≤ 1048576) (hz0 : ∀ z ∈ S, z < 4294967296) (hr : Is32 R r) (ht : Is32 T t) (h3 : RowF .f32 w a3 X) (hl3 : X.length ≤ 1048576) (hz3 : ∀ z ∈ X, z < 4294967296) :
    Calls Try.prog 28 #[.slice a0 S.length cap0, .float .f32 r, .float .f32 t, .slice a3 X.length cap3] w (PostLL (buckO S R T X).1 (buckO S R T X).2.1 (buckO S R T X).2.2 w) := by
  obtain ⟨Q, hQ⟩ : ∃ Q, buckO S R T X = Q := ⟨_, rfl⟩
  rw [hQ]
  have HQ := Lib.hid hQ
  have H0 := Lib.hid h0
  have H3 := Lib.hid h3
  have HZ0 := Lib.hid hz0
  have HZ3 := Lib.hid hz3
  clear hQ h0 h3 hz0 hz3
  go_enter Try.func28, Try.ntmps28
  go_wp2_with fail
  refine (bucketCount_any _ _).mono ?_
  rintro e w' ⟨bb, hbb, rfl, rfl⟩
  have Hc := Lib.hid hbb
  clear hbb
  cases bb
  · have hv : Q = ([], [], false) := by rw [← HQ.out]; unfold buckO; simp only [Hc.out, Bool.false_and, Bool.and_false]; rfl
    have HV := Lib.hid hv
    clear hv
    go_wp2_with fail
    rw [HV.out]
    exact bodyPost_ret (v := .tuple #[.slice none 0 0, .slice none 0 0, .bool false]) (by simp [results, Try.results28, go_sem]) rfl (PostLL.no (Below.refl _ _))
  go_wp2_with fail
  refine (allOf_f 76 amtB (enters_of Try.func76 (by kernel_rfl) rfl) a0 cap0 S _ (fun z hz W => isAmount_o W (Is32.c hz)) H0.out hl0 HZ0.out).mono ?_
  rintro e w1 ⟨bb, hbb, rfl, hb⟩
  have HB1 := Lib.hid hb
  have Hs := Lib.hid hbb
  clear hb hbb
  cases bb
  · have hv : Q = ([], [], false) := by rw [← HQ.out]; unfold buckO; simp only [Hs.out, Bool.false_and, Bool.and_false]; rfl
    have HV := Lib.hid hv
    clear hv
    go_wp2_with fail
    rw [HV.out]
    exact bodyPost_ret (v := .tuple #[.slice none 0 0, .slice none 0 0, .bool false]) (by simp [results, Try.results28, go_sem]) rfl (PostLL.no HB1.out)
  go_wp2_with fail
  refine (isAmount_o _ hr).mono ?_
  rintro e w' ⟨bb, hbb, rfl, rfl⟩
  have Hr := Lib.hid hbb
  clear hbb
  cases bb
  · have hv : Q = ([], [], false) := by rw [← HQ.out]; unfold buckO; simp only [Hr.out, Bool.false_and, Bool.and_false]; rfl
    have HV := Lib.hid hv
    clear hv
    go_wp2_with fail
    rw [HV.out]
    exact bodyPost_ret (v := .tuple #[.slice none 0 0, .slice none 0 0, .bool false]) (by simp [results, Try.results28, go_sem]) rfl (PostLL.no HB1.out)
  go_wp2_with fail
  refine (isPositive_o _ ht).mono ?_
  rintro e w' ⟨bb, hbb, rfl, rfl⟩
  have Ht := Lib.hid hbb
  clear hbb
  cases bb
  · have hv : Q = ([], [], false) := by rw [← HQ.out]; unfold buckO; simp only [Ht.out, Bool.false_and, Bool.and_false]; rfl
    have HV := Lib.hid hv
    clear hv
    go_wp2_with fail
    rw [HV.out]
    exact bodyPost_ret (v := .tuple #[.slice none 0 0, .slice none 0 0, .bool false]) (by simp [results, Try.results28, go_sem]) rfl (PostLL.no HB1.out)
  go_wp2_with fail
  refine (isRain_i a3 cap3 X _ (H3.out.below HB1.out (Nat.le_refl _)) hl3 HZ3.out).mono ?_
  rintro e w2 ⟨bb, hbb, rfl, hb⟩
  have HB2 := Lib.hid (HB1.out.trans (hb.mono HB1.out.size))
  have Hx := Lib.hid hbb
  clear hb hbb
  cases bb
  · have hv : Q = ([], [], false) := by rw [← HQ.out]; unfold buckO; simp only [Hx.out, Bool.false_and, Bool.and_false]; rfl
    have HV := Lib.hid hv
    clear hv
    go_wp2_with fail
    rw [HV.out]
    exact bodyPost_ret (v := .tuple #[.slice none 0 0, .slice none 0 0, .bool false]) (by simp [results, Try.results28, go_sem]) rfl (PostLL.no HB2.out)
  obtain ⟨sh, hsh, fsh, ush⟩ := share_unit hr ht Hr.out Ht.out
  have hq := HQ.out
  rw [buck_yes HZ0.out HZ3.out Hc.out Hs.out Hr.out Ht.out Hx.out hsh] at hq
  have HQ2 := Lib.hid hq
  obtain ⟨hX128, hXf⟩ := rain_fn HZ3.out Hx.out
  have HXf := Lib.hid hXf
  have HSt := Lib.hid (St.self HZ0.out Hs.out)
  have HSh : Hid (sh < 4294967296) := Lib.hid fsh.nn.ult
  have HFsh := Lib.hid fsh
  have HUsh := Lib.hid ush
  have Hshr := Lib.hid hsh
  have hc2 := Hc.out
  rw [Bool.and_eq_true, decide_eq_true_eq, decide_eq_true_eq] at hc2
  obtain ⟨hc1, hc8⟩ := hc2
  have hS1 : 0 < S.length := by omega
  clear hq hXf fsh ush hsh
  go_wp2_with (first | ((with_reducible refine wpList_bin ?_); refine wpList_f32 rfl .mul _ _ _ _ rfl rfl rfl (by decide) (by first | assumption | exact Is32.c (by decide)) (by first | assumption | exact Is32.c (by decide)) ?_; intro z7 n7 hz7))
  refine (expNumber_o _ (Is32.neg hz7) (share_rng hr ht Hr.out Ht.out)).mono ?_
  rintro e w' ⟨ze, rfl, hze, q7, rfl⟩
  go_wp2_with (first | ((with_reducible refine wpList_bin ?_); refine wpList_f32 rfl .sub _ _ _ _ rfl rfl rfl (by decide) (by first | assumption | exact Is32.c (by decide)) (by first | assumption | exact Is32.c (by decide)) ?_; intro z8 n8 hz8))
  have e8 : Is32 (shareO R T) z8 := hz8
  rw [Hshr.out] at e8
  obtain rfl : sh = z8 := e8.eq.symm
  go_wp2_with fail
  refine (clone_f a0 cap0 S _ (by exact H0.out.below (beld HB2.out _) (Nat.le_refl _)) hl0 hS1).mono ?_
  rintro e w3 ⟨g0, c0, rfl, hrow, hb⟩
  have hs2 : w.heap.size ≤ w2.heap.size := HB2.out.size
  have hs3 : w2.heap.size ≤ w3.heap.size := hb.size
  have HB3 := Lib.hid (Below.trans (beld HB2.out _) (Below.mono hb hs2) : Below w.heap.size w w3)
  have hg0 := hrow.lo g0 rfl
  have hg0l : w.heap.size ≤ g0 := Nat.le_trans hs2 hg0.1
  have hg0r : g0 < w3.heap.size := hg0.2
  have HRow3 : Hid (RowO w3 w.heap.size (.slice (some ⟨g0, 0, none⟩) S.length c0) S) := Lib.hid ((FRow.mono (FRow.mk hrow) hs2 (Nat.le_refl _) (Nat.le_refl _)).1)
  clear hrow hb hg0
  go_wp2_with (at_make; refine make_any rfl rfl _ _ rfl .i64 .i64 _ _ X.length rfl rfl rfl rfl (by omega) (lo := w.heap.size) (by omega) ?_)
  intro w4 hown hgrow
  have HB4 := Lib.hid (Below.made HB3.out hgrow HB3.out.size)
  have hs4 : w3.heap.size ≤ w4.heap.size := hgrow.size
  have HRow4 := Lib.hid (HRow3.out.made hgrow)
  have HLet4 : Hid (RowO w4 w.heap.size (.slice (some ⟨w3.heap.size, 0, none⟩) X.length X.length) (([] : List Nat) ++ List.replicate (X.length - ([] : List Nat).length) 0)) := Lib.hid (by simpa using hown)
  clear hown hgrow
  have HG0 : Hid (w.heap.size ≤ (⟨g0, 0, none⟩ : Addr).block) := Lib.hid hg0l
  have HAp0 : Hid ((Value.slice (some ⟨w3.heap.size, 0, none⟩) X.length X.length).ownBlock ≠ some g0) := Lib.hid (fun h => by simp [Value.ownBlock] at h; omega)
  have HAp1 : Hid ((Value.slice (some ⟨g0, 0, none⟩) S.length c0).ownBlock ≠ some w3.heap.size) := Lib.hid (fun h => by simp [Value.ownBlock] at h; omega)
  go_wp2_with fail
  go_loopw [54] (fun i wr => ∃ (k : Nat) (zs ls : List Nat), k ≤ X.length ∧ i = .int .i64 k ∧ Hid (Is32s (oIt (some sh) (S.map some) X k).1 zs) ∧ Hid (Is32s (oIt (some sh) (S.map some) X k).2 ls) ∧ Hid (zs.length = S.length) ∧ Hid (ls.length = k) ∧ Hid (RowO wr w.heap.size (.slice (some ⟨g0, 0, none⟩) S.length c0) zs) ∧ Hid (RowO wr w.heap.size (.slice (some ⟨w3.heap.size, 0, none⟩) X.length X.length) (ls ++ List.replicate (X.length - ls.length) 0)) ∧ Hid (Below w.heap.size w wr)) (fun i _ => X.length - (intOf i).toNat)
  case atStart => exact ⟨0, S, [], Nat.zero_le _, rfl, Lib.hid (Is32s.self HZ0.out), Lib.hid Is32s.nil, Lib.hid rfl, Lib.hid rfl, HRow4, HLet4, HB4⟩
  case round =>
    obtain ⟨k, zs, ls, hk, rfl, HIz, HIl, HLz, HLl, HRow, HLet, HBk⟩ := hrel
    by_cases hlt : k < X.length
    · obtain ⟨bx, ox, rfl, hcx⟩ := ((H3.out.below HBk.out (Nat.le_refl _)).cells) k hlt
      obtain ⟨xk, hxk⟩ : ∃ x, X.getD k 0 = x := ⟨_, rfl⟩
      have HXk : Hid (xk < 4294967296) := Lib.hid (by rw [← hxk]; exact getD_lt HZ3.out k)
      rw [hxk] at hcx
      have HXe := Lib.hid hxk
      clear hxk
      go_wp2_with fail
      go_loopw [15, 62] (fun gv i wr2 => ∃ (j : Nat) (us : List Nat) (x : Nat), j ≤ S.length ∧ i = .int .i64 j ∧ gv = .float .f32 x ∧ Hid (Is32 (bIt (some sh) (oIt (some sh) (S.map some) X k).1 (some xk) j).2 x) ∧ Hid (Is32s (bIt (some sh) (oIt (some sh) (S.map some) X k).1 (some xk) j).1 us) ∧ Hid (us.length = S.length) ∧ Hid (RowO wr2 w.heap.size (.slice (some ⟨g0, 0, none⟩) S.length c0) us) ∧ Hid (RowO wr2 w.heap.size (.slice (some ⟨w3.heap.size, 0, none⟩) X.length X.length) (ls ++ List.replicate (X.length - ls.length) 0)) ∧ Hid (Below w.heap.size w wr2)) (fun _ i _ => S.length - (intOf i).toNat)
      case atStart => exact ⟨0, zs, xk, Nat.zero_le _, rfl, rfl, Lib.hid (Is32.c HXk.out), HIz, HLz, HRow, HLet, HBk⟩
      case round =>
        obtain ⟨j, us, x, hj, rfl, rfl, HX, HU, HUL, HR0, HRL, HBj⟩ := hrel
        by_cases hlt2 : j < S.length
        · have hx := HX.out
          obtain ⟨u0, hu0⟩ : ∃ u, us.getD j 0 = u := ⟨_, rfl⟩
          have hu : Is32 ((bIt (some sh) (oIt (some sh) (S.map some) X k).1 (some xk) j).1.getD j none) u0 := by rw [← hu0]; exact HU.out.2 j (by rw [HUL.out]; exact hlt2)
          obtain ⟨hcell, hfz⟩ := HR0.out.at HUL.out.symm j (by rw [HUL.out]; exact hlt2)
          rw [hu0] at hcell
          clear hu0
          have hsh32 : Is32 (some sh) sh := Is32.c HSh.out
          go_wp2_with (first | ((with_reducible refine wpList_bin ?_); refine wpList_f32 rfl .add _ _ _ _ rfl rfl rfl (by decide) (by first | assumption | exact Is32.c (by decide)) (by first | assumption | exact Is32.c (by decide)) ?_; intro z1 n1 hz1) | ((with_reducible refine wpList_bin ?_); refine wpList_f32 rfl .mul _ _ _ _ rfl rfl rfl (by decide) (by first | assumption | exact Is32.c (by decide)) (by first | assumption | exact Is32.c (by decide)) ?_; intro z2 n2 hz2) | ((with_reducible refine wpList_bin ?_); refine wpList_f32 rfl .sub _ _ _ _ rfl rfl rfl (by decide) (by first | assumption | exact Is32.c (by decide)) (by first | assumption | exact Is32.c (by decide)) ?_; intro z3 n3 hz3))
          go_roundw
          case rel => exact ⟨j + 1, (us.set j z1).set j z3, z2, by omega, by go_num, rfl, Lib.hid hz2, Lib.hid (by rw [List.set_set]; exact HU.out.set j hz3), Lib.hid (by rw [List.set_set, List.length_set]; exact HUL.out), Lib.hid (RowO.store (RowO.drewN (RowO.drewN (RowO.store (RowO.drewN HR0.out n1) HUL.out.symm j z1) n2) n3) (by rw [List.length_set]; exact HUL.out.symm) j z3), Lib.hid (RowO.setFar (RowO.drewN (RowO.drewN (RowO.setFar (RowO.drewN HRL.out n1) HAp0.out _) n2) n3) HAp0.out _), Lib.hid (by repeat (first | with_reducible exact HBj.out | with_reducible refine beld ?_ _ | (with_reducible refine Below.setCell ?_ ?_ _; rotate_left; exact HG0.out)))⟩
          case measure => simp [intOf]; omega
        · have hjn : j = S.length := by omega
          subst hjn
          have hlen : (ls ++ List.replicate (X.length - ls.length) 0).length = X.length := fill_len ls X.length (by rw [HLl.out]; exact hk)
          obtain ⟨hcl, hfl⟩ := HRL.out.at hlen.symm k (by rw [hlen]; exact hlt)
          generalize (ls ++ List.replicate (X.length - ls.length) 0).getD k 0 = old at hcl
          have hst := HRL.out.store hlen.symm k x
          have hfs := fill_set ls X.length x (by rw [HLl.out]; exact hlt)
          rw [HLl.out] at hfs
          rw [HLl.out, hfs] at hst
          have Hst := Lib.hid hst
          have hx9 := HX.out
          have HX9 := Lib.hid hx9
          clear hst hfs hlen hx9
          go_wp2_with fail
          go_roundw
          case rel => exact ⟨k + 1, us, ls ++ [x], by omega, by go_num, Lib.hid (oIt_1 HXe.out (by rw [List.length_map]; exact HU.out)), Lib.hid (oIt_2 HXe.out HIl.out (by rw [List.length_map]; exact HX9.out)), HUL, Lib.hid (by rw [List.length_append, List.length_singleton, HLl.out]), Lib.hid (HR0.out.setFar HAp1.out _), Hst, Lib.hid (HBj.out.setCell (by show w.heap.size ≤ w3.heap.size; omega) _)⟩
          case measure => simp [intOf]; omega
    · have hkX : k = X.length := by omega
      subst hkX
      have hSt := oIt_good HFsh.out HUsh.out HSt.out HXf.out X.length (Nat.le_refl _)
      have hamt := hSt.amt HIz.out
      have hlets := fun hs => oIt_back HFsh.out HUsh.out HSt.out HXf.out X.length (Nat.le_refl _) (Som.of_fin hs)
      have HAm := Lib.hid hamt
      have HLe := Lib.hid hlets
      have hzw : ∀ z ∈ zs, z < 4294967296 := fun z hz => by obtain ⟨i, hi, rfl⟩ := List.getElem_of_mem hz; have := (HIz.out.2 i hi).2; rwa [List.getD_eq_getElem?_getD, List.getElem?_eq_getElem hi] at this
      have HZw := Lib.hid hzw
      clear hSt hamt hlets hzw
      have hrow9 : RowF .f32 wr (some ⟨g0, 0, none⟩) zs := by have h9 := HRow.out; rw [← HLz.out] at h9; exact (FRow.mk h9).row
      have HRow9 := Lib.hid hrow9
      clear hrow9
      have hl9 : zs.length ≤ 1048576 := by rw [HLz.out]; exact hl0
      have Hl9 := Lib.hid hl9
      clear hl9
      go_wp2_with fail
      refine ((HLz.out ▸ allOf_f 76 amtB (enters_of Try.func76 (by kernel_rfl) rfl) (some ⟨g0, 0, none⟩) c0 zs _ (fun z hz W => isAmount_o W (Is32.c hz)) HRow9.out Hl9.out HZw.out : Calls Try.prog 75 #[.slice (some ⟨g0, 0, none⟩) S.length c0, .func (.func 76) #[] #[]] _ (SayB (zs.all amtB) _))).mono ?_
      rintro e w9 ⟨bb, hbb, rfl, hb⟩
      have HB9 := Lib.hid (HBk.out.trans (hb.mono HBk.out.size))
      have HRz := Lib.hid (HRow.out.below hb (Nat.le_refl _))
      have HRl := Lib.hid (HLet.out.below hb (Nat.le_refl _))
      have Hbb := Lib.hid hbb
      clear hb hbb
      cases bb
      · have hv : Q = ([], [], false) := by rw [← HQ2.out, if_neg]; rw [← HAm.out, Hbb.out]; decide
        have HV := Lib.hid hv
        clear hv
        go_wp2_with fail
        rw [HV.out]
        exact bodyPost_ret (v := .tuple #[.slice none 0 0, .slice none 0 0, .bool false]) (by simp [results, Try.results28, go_sem]) rfl (PostLL.no HB9.out)
      · have hfin : (oIt (some sh) (S.map some) X X.length).1.all fin32o = true := by rw [← HAm.out]; exact Hbb.out
        have hfin2 := HLe.out hfin
        have hv : Q = (zs, ls, true) := by rw [← HQ2.out, if_pos hfin, ← HIz.out.exact hfin, ← HIl.out.exact hfin2]
        have HV := Lib.hid hv
        have hr9 := HRl.out
        rw [fill_all ls X.length HLl.out] at hr9
        have HRl9 := Lib.hid hr9
        have hls : ls.length ≤ 1048576 := by rw [HLl.out]; omega
        have Hls := Lib.hid hls
        clear hv hfin hfin2 hr9 hls
        go_wp2_with fail
        rw [HV.out]
        exact bodyPost_ret (v := .tuple #[.slice (some ⟨g0, 0, none⟩) S.length c0, .slice (some ⟨w3.heap.size, 0, none⟩) X.length X.length, .bool true]) (by simp [results, Try.results28, go_sem]) rfl (PostLL.yes HRz.out HRl9.out (fun g h1 h2 => by simp [Value.ownBlock] at h1 h2; omega) (Nat.le_refl _) Hl9.out Hls.out HB9.out)

end Go.Proofs.Ytfdcfalkidcdnab
