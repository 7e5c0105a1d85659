/- Buckets: the model. -/
import Derived.Test.YtfdcfalkidcdnabBktI
namespace Go.Proofs.Ytfdcfalkidcdnab
open Go.RowKit
set_option linter.unusedVariables false
set_option linter.unusedSimpArgs false
set_option maxRecDepth 100000
attribute [local irreducible] wpV wpList Code.wp

set_option maxHeartbeats 8000000 in
theorem l03Buckets_o (a0 : Option Addr) (cap0 : Nat) (S : List Nat) (a3 : Option Addr) (cap3 : Nat) (X : List Nat) {R T : Option Nat} {r t : Nat} (w : World) (h0 : RowF .f32 w a0 S) (hl0 : S.length ≤ 1048576) (hz0 : ∀ z ∈ S, z < 4294967296) (hr : Is32 R r) (ht : Is32 T t) (h3 : RowF .f32 w a3 X) (hl3 : X.length ≤ 1048576) (hz3 : ∀ z ∈ X, z < 4294967296) (hc : (decide (1 ≤ (S.length : Int)) && decide ((S.length : Int) ≤ 8)) = true) (hs : S.all amtB = true) (har : amtO R = true) (hpt : posO T = true) (hx : rainB X = true) :
    Calls Try.prog 73 #[.slice a0 S.length cap0, .float .f32 r, .float .f32 t, .slice a3 X.length cap3] w (PostLL (buckO S R T X).1 (buckO S R T X).2.1 (buckO S R T X).2.2 w) := by
  obtain ⟨Q, hQ⟩ : ∃ Q, buckO S R T X = Q := ⟨_, rfl⟩
  rw [hQ]
  have HQ := Lib.hid hQ
  have H0 := Lib.hid h0
  have H3 := Lib.hid h3
  have HZ0 := Lib.hid hz0
  have HZ3 := Lib.hid hz3
  have Hc := Lib.hid hc
  have Hs := Lib.hid hs
  have Hr := Lib.hid har
  have Ht := Lib.hid hpt
  have Hx := Lib.hid hx
  clear hQ h0 h3 hz0 hz3 hc hs har hpt hx
  obtain ⟨sh, hsh, fsh, ush⟩ := share_unit hr ht Hr.out Ht.out
  have hq := HQ.out
  rw [buck_yes HZ0.out HZ3.out Hc.out Hs.out Hr.out Ht.out Hx.out hsh] at hq
  have HQ2 := Lib.hid hq
  obtain ⟨hX128, hXf⟩ := rain_fn HZ3.out Hx.out
  have HXf := Lib.hid hXf
  have HSt := Lib.hid (St.self HZ0.out Hs.out)
  have HSh : Hid (sh < 4294967296) := Lib.hid fsh.nn.ult
  have HFsh := Lib.hid fsh
  have HUsh := Lib.hid ush
  have Hshr := Lib.hid hsh
  have hc2 := Hc.out
  rw [Bool.and_eq_true, decide_eq_true_eq, decide_eq_true_eq] at hc2
  obtain ⟨hc1, hc8⟩ := hc2
  have hS1 : 0 < S.length := by omega
  clear hq hXf fsh ush hsh
  obtain ⟨b0, off0, rfl, hcs⟩ : ∃ b off, a0 = some ⟨b, off, none⟩ ∧ ∀ i, i < S.length → (w.alloc (.cells #[] 22)).cell? ⟨b, off + i, none⟩ = some (.float .f32 (S.getD i 0)) := by
    rcases H0.out with rfl | ⟨b, off, h1, hb, hc⟩
    · simp at hS1
    · exact ⟨b, off, h1, fun i hi => by rw [(bel1 w _).cell (p := ⟨b, off + i, none⟩) hb]; exact hc i hi⟩
  have HCs := Lib.hid hcs
  have HE0 : Hid (RowO (w.alloc (.cells #[] 22)) w.heap.size (.slice (some ⟨w.heap.size, 0, none⟩) 0 0) []) := Lib.hid (World.ownsRow_lit (base := w.heap.size) (e := 22) (size := 1) w #[] 0 (Nat.le_refl _) (by simp [maxLen]) rfl)
  have Hl0 := Lib.hid hl0
  have HS1 := Lib.hid hS1
  clear hcs
  go_enter Try.func73, Try.ntmps73
  go_wp2_with (at_builtin; refine push_all rfl rfl _ _ rfl (ys := S) rfl HE0.out b0 off0 _ rfl HCs.out HS1.out (by rw [List.length_nil, Nat.zero_add]; exact Hl0.out) (by simp) ?_)
  intro g0 c0 w1 hrow hp
  have HB1 := Lib.hid (Below.pushed (bel1 w _) hp HE0.out (Nat.le_refl _) (by simp))
  (try simp only [List.nil_append, List.length_nil, Nat.zero_add] at hrow)
  (try simp only [List.length_nil, Nat.zero_add])
  have hs1 : w.heap.size ≤ w1.heap.size := HB1.out.size
  have hg0 := hrow.lo g0 rfl
  have hg0l : w.heap.size ≤ g0 := hg0.1
  have hg0r : g0 < w1.heap.size := hg0.2
  have HRow1 := Lib.hid (hrow.alloc (.cells #[] 22))
  have HB2 := Lib.hid (HB1.out.alloc hs1 (.cells #[] 22))
  have HE1 : Hid (RowO (w1.alloc (.cells #[] 22)) w.heap.size (.slice (some ⟨w1.heap.size, 0, none⟩) 0 0) []) := Lib.hid (World.ownsRow_lit (base := w.heap.size) (e := 22) (size := 1) w1 #[] 0 hs1 (by simp [maxLen]) rfl)
  clear hrow hp hg0
  go_wp2_with (first | ((with_reducible refine wpList_bin ?_); refine wpList_f32 rfl .mul _ _ _ _ rfl rfl rfl (by decide) (by first | assumption | exact Is32.c (by decide)) (by first | assumption | exact Is32.c (by decide)) ?_; intro z7 n7 hz7))
  refine (l01Exp_o _ (Is32.neg hz7) (share_rng hr ht Hr.out Ht.out)).mono ?_
  rintro e w' ⟨ze, rfl, hze, q7, rfl⟩
  go_wp2_with (first | ((with_reducible refine wpList_bin ?_); refine wpList_f32 rfl .sub _ _ _ _ rfl rfl rfl (by decide) (by first | assumption | exact Is32.c (by decide)) (by first | assumption | exact Is32.c (by decide)) ?_; intro z8 n8 hz8))
  have e8 : Is32 (shareO R T) z8 := hz8
  rw [Hshr.out] at e8
  obtain rfl : sh = z8 := e8.eq.symm
  have HG0 : Hid (w.heap.size ≤ (⟨g0, 0, none⟩ : Addr).block) := Lib.hid hg0l
  have HAp0 : Hid (Apart (.slice (some ⟨w1.heap.size, 0, none⟩) 0 0) (.slice (some ⟨g0, 0, none⟩) S.length c0)) := Lib.hid (fun k h1 h2 => by simp [Value.ownBlock] at h1 h2; omega)
  go_wp2_with fail
  go_loopw [12, 29] (fun v i wr => ∃ vv : Value, vv = v ∧ (∃ (k : Nat) (zs ls : List Nat), k ≤ X.length ∧ i = .int .i64 k ∧ Hid (Is32s (oIt (some sh) (S.map some) X k).1 zs) ∧ Hid (Is32s (oIt (some sh) (S.map some) X k).2 ls) ∧ Hid (zs.length = S.length) ∧ Hid (ls.length = k) ∧ Hid (RowO wr w.heap.size (.slice (some ⟨g0, 0, none⟩) S.length c0) zs) ∧ Hid (RowO wr w.heap.size vv ls) ∧ Hid (Apart vv (.slice (some ⟨g0, 0, none⟩) S.length c0)) ∧ Hid (Below w.heap.size w wr))) (fun _ i _ => X.length - (intOf i).toNat)
  case atStart => exact ⟨_, rfl, 0, S, [], Nat.zero_le _, rfl, Lib.hid (Is32s.self HZ0.out), Lib.hid Is32s.nil, Lib.hid rfl, Lib.hid rfl, Lib.hid (by exact HRow1.out), Lib.hid (by exact HE1.out), HAp0, Lib.hid (beld HB2.out _)⟩
  case round =>
    obtain ⟨vv, rfl, k, zs, ls, hk, rfl, HIz, HIl, HLz, HLl, HRow, HLet, HApv, HBk⟩ := hrel
    by_cases hlt : k < X.length
    · obtain ⟨bx, ox, rfl, hcx⟩ := ((H3.out.below HBk.out (Nat.le_refl _)).cells) k hlt
      obtain ⟨xk, hxk⟩ : ∃ x, X.getD k 0 = x := ⟨_, rfl⟩
      have HXk : Hid (xk < 4294967296) := Lib.hid (by rw [← hxk]; exact getD_lt HZ3.out k)
      rw [hxk] at hcx
      have HXe := Lib.hid hxk
      clear hxk
      have HAq : Hid (vv.ownBlock ≠ some g0) := Lib.hid (fun h => HApv.out g0 h rfl)
      go_wp2_with fail
      go_loopw [15, 38] (fun gv i wr2 => ∃ (j : Nat) (us : List Nat) (x : Nat), j ≤ S.length ∧ i = .int .i64 j ∧ gv = .float .f32 x ∧ Hid (Is32 (bIt (some sh) (oIt (some sh) (S.map some) X k).1 (some xk) j).2 x) ∧ Hid (Is32s (bIt (some sh) (oIt (some sh) (S.map some) X k).1 (some xk) j).1 us) ∧ Hid (us.length = S.length) ∧ Hid (RowO wr2 w.heap.size (.slice (some ⟨g0, 0, none⟩) S.length c0) us) ∧ Hid (RowO wr2 w.heap.size vv ls) ∧ Hid (Below w.heap.size w wr2)) (fun _ i _ => S.length - (intOf i).toNat)
      case atStart => exact ⟨0, zs, xk, Nat.zero_le _, rfl, rfl, Lib.hid (Is32.c HXk.out), HIz, HLz, HRow, HLet, HBk⟩
      case round =>
        obtain ⟨j, us, x, hj, rfl, rfl, HX, HU, HUL, HR0, HRL, HBj⟩ := hrel
        by_cases hlt2 : j < S.length
        · have hx := HX.out
          obtain ⟨u0, hu0⟩ : ∃ u, us.getD j 0 = u := ⟨_, rfl⟩
          have hu : Is32 ((bIt (some sh) (oIt (some sh) (S.map some) X k).1 (some xk) j).1.getD j none) u0 := by rw [← hu0]; exact HU.out.2 j (by rw [HUL.out]; exact hlt2)
          obtain ⟨hcell, hfz⟩ := HR0.out.at HUL.out.symm j (by rw [HUL.out]; exact hlt2)
          rw [hu0] at hcell
          clear hu0
          have hsh32 : Is32 (some sh) sh := Is32.c HSh.out
          go_wp2_with (first | ((with_reducible refine wpList_bin ?_); refine wpList_f32 rfl .add _ _ _ _ rfl rfl rfl (by decide) (by first | assumption | exact Is32.c (by decide)) (by first | assumption | exact Is32.c (by decide)) ?_; intro z1 n1 hz1) | ((with_reducible refine wpList_bin ?_); refine wpList_f32 rfl .mul _ _ _ _ rfl rfl rfl (by decide) (by first | assumption | exact Is32.c (by decide)) (by first | assumption | exact Is32.c (by decide)) ?_; intro z2 n2 hz2) | ((with_reducible refine wpList_bin ?_); refine wpList_f32 rfl .sub _ _ _ _ rfl rfl rfl (by decide) (by first | assumption | exact Is32.c (by decide)) (by first | assumption | exact Is32.c (by decide)) ?_; intro z3 n3 hz3))
          go_roundw
          case rel => exact ⟨j + 1, (us.set j z1).set j z3, z2, by omega, by go_num, rfl, Lib.hid hz2, Lib.hid (by rw [List.set_set]; exact HU.out.set j hz3), Lib.hid (by rw [List.set_set, List.length_set]; exact HUL.out), Lib.hid (RowO.store (RowO.drewN (RowO.drewN (RowO.store (RowO.drewN HR0.out n1) HUL.out.symm j z1) n2) n3) (by rw [List.length_set]; exact HUL.out.symm) j z3), Lib.hid (RowO.setFar (RowO.drewN (RowO.drewN (RowO.setFar (RowO.drewN HRL.out n1) HAq.out _) n2) n3) HAq.out _), Lib.hid (by repeat (first | with_reducible exact HBj.out | with_reducible refine beld ?_ _ | (with_reducible refine Below.setCell ?_ ?_ _; rotate_left; exact HG0.out)))⟩
          case measure => simp [intOf]; omega
        · have hjn : j = S.length := by omega
          subst hjn
          have hx9 := HX.out
          have HX9 := Lib.hid hx9
          have hs9 : w.heap.size ≤ wr.heap.size := HBj.out.size
          have hcell9 := (Bx.new wr [.float .f32 x] 22).c 0 rfl
          have HCell9 := Lib.hid hcell9
          have hl9 : ls.length ≤ 1048576 := by rw [HLl.out]; omega
          have Hl9 := Lib.hid hl9
          clear hx9 hcell9 hl9
          go_wp2_with (at_builtin; refine push_any rfl rfl _ _ rfl rfl (HRL.out.alloc _) wr.heap.size _ x rfl HCell9.out Hl9.out (by simp; omega) ?_)
          intro g9 cap9 w9 hrow9 hp9
          have HBn := Lib.hid (Below.pushed (HBj.out.alloc hs9 _) hp9 (HRL.out.alloc _) (Nat.le_refl _) (by simp; omega))
          have HRz := Lib.hid ((HR0.out.alloc _).other hp9 HApv.out)
          have HApn := Lib.hid (HApv.out.next (n := ls.length + 1) (cap := cap9) hp9 (HR0.out.alloc _))
          have Hrow9 := Lib.hid hrow9
          clear hrow9 hp9
          go_wp2_with fail
          go_roundw
          case rel => exact ⟨_, rfl, k + 1, us, ls ++ [x], by omega, by go_num, Lib.hid (oIt_1 HXe.out (by rw [List.length_map]; exact HU.out)), Lib.hid (oIt_2 HXe.out HIl.out (by rw [List.length_map]; exact HX9.out)), HUL, Lib.hid (by rw [List.length_append, List.length_singleton, HLl.out]), HRz, Hrow9, HApn, HBn⟩
          case measure => simp [intOf]; omega
    · have hkX : k = X.length := by omega
      subst hkX
      have hSt := oIt_good HFsh.out HUsh.out HSt.out HXf.out X.length (Nat.le_refl _)
      have hlets := fun hs => oIt_back HFsh.out HUsh.out HSt.out HXf.out X.length (Nat.le_refl _) (Som.of_fin hs)
      have HLe := Lib.hid hlets
      clear hSt hlets
      have hrow9 : RowF .f32 wr (some ⟨g0, 0, none⟩) zs := by have h9 := HRow.out; rw [← HLz.out] at h9; exact (FRow.mk h9).row
      have HRow9 := Lib.hid hrow9
      clear hrow9
      have hl9 : zs.length ≤ 1048576 := by rw [HLz.out]; exact hl0
      have Hl9 := Lib.hid hl9
      clear hl9
      obtain ⟨av, cv, hv9⟩ := HLet.out.len
      have hrl9 : RowF .f32 wr av ls := (FRow.mk (hv9 ▸ HLet.out)).row
      subst hv9
      have HRl9 := Lib.hid hrl9
      have hls : ls.length ≤ 1048576 := by rw [HLl.out]; omega
      have Hls := Lib.hid hls
      clear hrl9 hls
      go_wp2_with fail
      refine ((HLz.out ▸ l02Fin_f (some ⟨g0, 0, none⟩) c0 zs _ HRow9.out Hl9.out : Calls Try.prog 70 #[.slice (some ⟨g0, 0, none⟩) S.length c0] _ (SayQ (zs.all fin32) _))).mono ?_
      rintro e w' ⟨bb, hbb, rfl, q1, rfl⟩
      rw [HIz.out.fin] at hbb
      have Hbb := Lib.hid hbb
      clear hbb
      cases bb
      · have hv : Q = ([], [], false) := by rw [← HQ2.out, if_neg]; rw [Hbb.out]; decide
        have HV := Lib.hid hv
        clear hv
        go_wp2_with fail
        rw [HV.out]
        exact bodyPost_ret (v := .tuple #[.slice none 0 0, .slice none 0 0, .bool false]) (by simp [results, Try.results73, go_sem]) rfl (PostLL.no (beld HBk.out _))
      · have hfin : (oIt (some sh) (S.map some) X X.length).1.all fin32o = true := Hbb.out
        have hfin2 := HLe.out hfin
        have hv : Q = (zs, ls, true) := by rw [← HQ2.out, if_pos hfin, ← HIz.out.exact hfin, ← HIl.out.exact hfin2]
        have HV := Lib.hid hv
        have HF2 : Hid (ls.all fin32 = true) := Lib.hid (by rw [HIl.out.fin]; exact hfin2)
        clear hv hfin hfin2
        go_wp2_with fail
        refine (l02Fin_f av cv ls _ (by exact HRl9.out) Hls.out).mono ?_
        rintro e w' ⟨bb, hbb, rfl, q2, rfl⟩
        rw [HF2.out] at hbb
        subst hbb
        go_wp2_with fail
        rw [HV.out]
        exact bodyPost_ret (v := .tuple #[.slice (some ⟨g0, 0, none⟩) S.length c0, .slice av ls.length cv, .bool true]) (by simp [results, Try.results73, go_sem]) rfl (PostLL.yes (lo := w.heap.size) (by have h := HRow.out; exact h) (by exact HLet.out) HApv.out.symm (Nat.le_refl _) Hl9.out Hls.out (by first | exact beld HBk.out _ | exact beld (beld HBk.out _) _))

set_option maxHeartbeats 8000000 in
theorem runBuckets_s (a0 : Option Addr) (cap0 : Nat) (S : List Nat) (a3 : Option Addr) (cap3 : Nat) (X : List Nat) {R T : Option Nat} {r t : Nat} (w : World) (h0 : RowF .f32 w a0 S) (hl0 : S.length ≤ 1048576) (hz0 : ∀ z ∈ S, z < 4294967296) (hr : Is32 R r) (ht : Is32 T t) (h3 : RowF .f32 w a3 X) (hl3 : X.length ≤ 1048576) (hz3 : ∀ z ∈ X, z < 4294967296) :
    Calls Try.prog 27 #[.slice a0 S.length cap0, .float .f32 r, .float .f32 t, .slice a3 X.length cap3] w (PostLL (buckO S R T X).1 (buckO S R T X).2.1 (buckO S R T X).2.2 w) := by
  obtain ⟨Q, hQ⟩ : ∃ Q, buckO S R T X = Q := ⟨_, rfl⟩
  rw [hQ]
  have HQ := Lib.hid hQ
  have H0 := Lib.hid h0
  have H3 := Lib.hid h3
  have HZ0 := Lib.hid hz0
  have HZ3 := Lib.hid hz3
  clear hQ h0 h3 hz0 hz3
  obtain ⟨cb, hcb⟩ : ∃ b, (decide (1 ≤ (S.length : Int)) && decide ((S.length : Int) ≤ 8)) = b := ⟨_, rfl⟩
  have Hc := Lib.hid hcb
  cases cb
  · have hv : Q = ([], [], false) := by rw [← HQ.out]; unfold buckO; simp only [Hc.out, Bool.false_and]; rfl
    have HV := Lib.hid hv
    clear hv
    rw [Bool.and_eq_false_iff, decide_eq_false_iff_not, decide_eq_false_iff_not] at hcb
    by_cases hn1 : (S.length : Int) < 1
    · clear hcb
      go_enter Try.func27, Try.ntmps27
      go_wp2_with fail
      rw [HV.out]
      exact bodyPost_ret (v := .tuple #[.slice none 0 0, .slice none 0 0, .bool false]) (by simp [results, Try.results27, go_sem]) rfl (PostLL.no (Below.refl _ _))
    · have hn8 : (8 : Int) < (S.length : Int) := by omega
      clear hcb
      go_enter Try.func27, Try.ntmps27
      go_wp2_with fail
      rw [HV.out]
      exact bodyPost_ret (v := .tuple #[.slice none 0 0, .slice none 0 0, .bool false]) (by simp [results, Try.results27, go_sem]) rfl (PostLL.no (Below.refl _ _))
  have hcc := hcb
  rw [Bool.and_eq_true, decide_eq_true_eq, decide_eq_true_eq] at hcc
  obtain ⟨hc1, hc8⟩ := hcc
  have hn1 : ¬ (S.length : Int) < 1 := by omega
  have hn8 : ¬ (8 : Int) < (S.length : Int) := by omega
  clear hcb hc1 hc8
  go_enter Try.func27, Try.ntmps27
  go_wp2_with fail
  refine (l02Least_o _ hr).mono ?_
  rintro e w' ⟨bb, hbb, rfl, qHr, rfl⟩
  have Hr := Lib.hid hbb
  clear hbb
  cases bb
  · have hv : Q = ([], [], false) := by rw [← HQ.out]; unfold buckO; simp only [Hr.out, Bool.false_and, Bool.and_false]; rfl
    have HV := Lib.hid hv
    clear hv
    go_wp2_with fail
    rw [HV.out]
    exact bodyPost_ret (v := .tuple #[.slice none 0 0, .slice none 0 0, .bool false]) (by simp [results, Try.results27, go_sem]) rfl (PostLL.no (by first | exact beld (Below.refl _ _) _ | exact beld (beld (Below.refl _ _) _) _))
  go_wp2_with fail
  refine (l02Above_o _ ht).mono ?_
  rintro e w' ⟨bb, hbb, rfl, qHt, rfl⟩
  have Ht := Lib.hid hbb
  clear hbb
  cases bb
  · have hv : Q = ([], [], false) := by rw [← HQ.out]; unfold buckO; simp only [Ht.out, Bool.false_and, Bool.and_false]; rfl
    have HV := Lib.hid hv
    clear hv
    go_wp2_with fail
    rw [HV.out]
    exact bodyPost_ret (v := .tuple #[.slice none 0 0, .slice none 0 0, .bool false]) (by simp [results, Try.results27, go_sem]) rfl (PostLL.no (by first | exact beld (Below.refl _ _) _ | exact beld (beld (Below.refl _ _) _) _))
  go_wp2_with fail
  refine (l03IsRain_o a3 cap3 X _ (by exact H3.out) hl3 HZ3.out).mono ?_
  rintro e w2 ⟨bb, hbb, rfl, q3, hw2⟩
  have HB2 : Hid (Below w.heap.size w w2) := Lib.hid (by rw [hw2]; first | exact beld (Below.refl _ _) _ | exact beld (beld (Below.refl _ _) _) _ | exact beld (beld (beld (Below.refl _ _) _) _) _)
  have Hx := Lib.hid hbb
  clear hbb hw2
  cases bb
  · have hv : Q = ([], [], false) := by rw [← HQ.out]; unfold buckO; simp only [Hx.out, Bool.false_and, Bool.and_false]; rfl
    have HV := Lib.hid hv
    clear hv
    go_wp2_with fail
    rw [HV.out]
    exact bodyPost_ret (v := .tuple #[.slice none 0 0, .slice none 0 0, .bool false]) (by simp [results, Try.results27, go_sem]) rfl (PostLL.no HB2.out)
  go_wp2_with fail
  go_loopw [38] (fun i wr => ∃ k : Nat, k ≤ S.length ∧ i = .int .i64 k ∧ Hid ((S.take k).all amtB = true) ∧ Hid (Below w.heap.size w wr)) (fun i _ => S.length - (intOf i).toNat)
  case atStart => exact ⟨0, Nat.zero_le _, rfl, Lib.hid rfl, HB2⟩
  case round =>
    obtain ⟨k, hk, rfl, Hall, HBk⟩ := hrel
    by_cases hlt : k < S.length
    · obtain ⟨bx, ox, rfl, hcx⟩ := ((H0.out.below HBk.out (Nat.le_refl _)).cells) k hlt
      obtain ⟨xk, hxk⟩ : ∃ x, S.getD k 0 = x := ⟨_, rfl⟩
      have hxl : xk < 4294967296 := by rw [← hxk]; exact getD_lt HZ0.out k
      rw [hxk] at hcx
      have HXe := Lib.hid hxk
      clear hxk
      go_wp2_with fail
      refine (l02Least_o _ (Is32.c hxl)).mono ?_
      rintro e w9 ⟨bb, hbb, rfl, q9, hw9⟩
      have HB9 : Hid (Below w.heap.size w w9) := Lib.hid (by rw [hw9]; exact beld HBk.out _)
      have Hbb : Hid (amtB xk = bb) := Lib.hid hbb
      clear hbb hw9
      cases bb
      · have hv : Q = ([], [], false) := by rw [← HQ.out]; unfold buckO; simp only [all_no S amtB k hlt (by rw [HXe.out]; exact Hbb.out), Bool.false_and, Bool.and_false]; rfl
        have HV := Lib.hid hv
        clear hv
        go_wp2_with fail
        rw [HV.out]
        exact bodyPost_ret (v := .tuple #[.slice none 0 0, .slice none 0 0, .bool false]) (by simp [results, Try.results27, go_sem]) rfl (PostLL.no HB9.out)
      · go_wp2_with fail
        go_roundw
        case rel => exact ⟨k + 1, by omega, by go_num, Lib.hid (all_take_b S amtB k hlt Hall.out (by rw [HXe.out]; exact Hbb.out)), HB9⟩
        case measure => simp [intOf]; omega
    · have hkS : k = S.length := by omega
      subst hkS
      have hall := Hall.out
      rw [List.take_length] at hall
      have Hs := Lib.hid hall
      clear hall
      go_wp2_with fail
      refine (l03Buckets_o a0 cap0 S a3 cap3 X _ (H0.out.below HBk.out (Nat.le_refl _)) hl0 HZ0.out hr ht (H3.out.below HBk.out (Nat.le_refl _)) hl3 HZ3.out Hc.out Hs.out Hr.out Ht.out Hx.out).mono ?_
      rw [HQ.out]
      rintro e w9 ⟨a1, c1, lo1, hi1, a2, c2, lo2, hi2, rfl, f1, f2, p1, p2, l1, l2, d, hb⟩
      have hz9 : w.heap.size ≤ wr.heap.size := HBk.out.size
      have HP : Hid (PostLL Q.1 Q.2.1 Q.2.2 w (.returned (.tuple #[.slice a1 Q.1.length c1, .slice a2 Q.2.1.length c2, .bool Q.2.2])) w9) := Lib.hid ⟨a1, c1, lo1, hi1, a2, c2, lo2, hi2, rfl, f1, f2, Nat.le_trans hz9 p1, Nat.le_trans hz9 p2, l1, l2, d, HBk.out.trans (hb.mono hz9)⟩
      clear f1 f2 p1 p2 l1 l2 d hb
      go_wp2_with fail
      exact bodyPost_ret (v := .tuple #[.slice a1 Q.1.length c1, .slice a2 Q.2.1.length c2, .bool Q.2.2]) (by simp [results, Try.results27, go_sem]) rfl HP.out

end Go.Proofs.Ytfdcfalkidcdnab
