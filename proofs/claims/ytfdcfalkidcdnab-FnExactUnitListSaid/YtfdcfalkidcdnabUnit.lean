/- What buckets let go for 1: the program and its model alike. -/
import Derived.Test.YtfdcfalkidcdnabBktS
import Derived.Test.YtfdcfalkidcdnabIn
namespace Go.Proofs.Ytfdcfalkidcdnab
open Go.RowKit
set_option linter.unusedVariables false
set_option linter.unusedSimpArgs false
set_option maxRecDepth 100000
attribute [local irreducible] wpV wpList Code.wp

theorem RowO.row {w : World} {lo n cap : Nat} {a : Option Addr} {zs : List Nat} (h : RowO w lo (.slice a n cap) zs) (hn : n = zs.length) : RowF .f32 w a zs := by
  subst hn; exact (FRow.mk h).row
def oneRain (N : Nat) : List Nat := 1065353216 :: List.replicate (N - 1) 0
def unitQ (n N : Nat) (R T : Option Nat) : List Nat × List Nat × Bool := buckO (List.replicate n 0) R T (oneRain N)
def unitO (n : Int) (R T : Option Nat) (N : Int) : List Nat × Bool :=
  if (decide (1 ≤ n) && decide (n ≤ 8)) && (decide (1 ≤ N) && decide (N ≤ 128)) then ((unitQ n.toNat N.toNat R T).2.1, (unitQ n.toNat N.toNat R T).2.2) else ([], false)
theorem oneRain_len {N : Nat} (h : 1 ≤ N) : (oneRain N).length = N := by simp [oneRain]; omega
theorem set_one {N : Nat} (h : 1 ≤ N) : (List.replicate N 0).set 0 1065353216 = oneRain N := by
  obtain ⟨m, rfl⟩ : ∃ m, N = m + 1 := ⟨N - 1, by omega⟩
  simp [oneRain, List.replicate_succ]
theorem zeros_amt (n : Nat) : (List.replicate n 0).all amtB = true := by
  rw [List.all_eq_true]; intro x hx; obtain ⟨_, rfl⟩ := List.mem_replicate.1 hx; decide +kernel
theorem zeros_lt (n : Nat) : ∀ z ∈ List.replicate n 0, z < 4294967296 := by intro z hz; obtain ⟨_, rfl⟩ := List.mem_replicate.1 hz; decide
theorem one_lt (N : Nat) : ∀ z ∈ oneRain N, z < 4294967296 := by
  intro z hz
  rcases List.mem_cons.1 hz with rfl | hz
  · decide
  · exact zeros_lt _ z hz
theorem one_rain {N : Nat} (h : 1 ≤ N) (h2 : N ≤ 128) : rainB (oneRain N) = true := by
  unfold rainB
  rw [oneRain_len h, decide_eq_true h2, Bool.true_and]
  unfold oneRain
  rw [List.all_cons, zeros_amt]
  decide +kernel
theorem unit_fail {n N : Nat} {R T : Option Nat} (h : (amtO R && posO T) = false) : unitQ n N R T = ([], [], false) := by
  unfold unitQ buckO
  rw [if_neg]
  intro hc
  simp only [Bool.and_eq_true] at hc
  rw [hc.1.1.2, hc.1.2] at h
  cases h
theorem cnt_len {n : Nat} (h1 : 1 ≤ n) (h8 : n ≤ 8) : (decide (1 ≤ ((List.replicate n 0).length : Int)) && decide (((List.replicate n 0).length : Int) ≤ 8)) = true := by
  rw [List.length_replicate, decide_eq_true (by omega), decide_eq_true (by omega)]; rfl

set_option maxHeartbeats 8000000 in
theorem unitList_i (n : Int) {R T : Option Nat} {r t : Nat} (N : Int) (w : World) (hr : Is32 R r) (ht : Is32 T t) : Calls Try.prog 30 #[.int .i64 n, .float .f32 r, .float .f32 t, .int .i64 N] w (ListB (unitO n R T N) w) := by
  obtain ⟨Q, hQ⟩ : ∃ Q, unitO n R T N = Q := ⟨_, rfl⟩
  rw [hQ]
  have HQ := Lib.hid hQ
  clear hQ
  go_enter Try.func30, Try.ntmps30
  go_wp2_with fail
  refine (bucketCount_any _ _).mono ?_
  rintro e w' ⟨bb, hbb, rfl, rfl⟩
  have Hn := Lib.hid hbb
  clear hbb
  cases bb
  · have hv : Q = ([], false) := by rw [← HQ.out]; unfold unitO; rw [Hn.out]; rfl
    have HV := Lib.hid hv
    clear hv
    go_wp2_with fail
    go_ret2
    rw [HV.out]
    exact ListB.no (Below.refl _ _)
  by_cases hN : 1 ≤ N ∧ N ≤ 128
  · obtain ⟨hN1, hN8⟩ := hN
    have hn9 := Hn.out
    rw [Bool.and_eq_true, decide_eq_true_eq, decide_eq_true_eq] at hn9
    obtain ⟨hn1, hn8⟩ := hn9
    obtain ⟨m, rfl⟩ := Int.eq_ofNat_of_zero_le (show 0 ≤ n by omega)
    have hm1 : 1 ≤ m := by omega
    have hm8 : m ≤ 8 := by omega
    clear hn1 hn8
    obtain ⟨M, rfl⟩ := Int.eq_ofNat_of_zero_le (show 0 ≤ N by omega)
    have hM1 : 1 ≤ M := by omega
    have hM8 : M ≤ 128 := by omega
    have hN1' : ¬ (M : Int) < 1 := by omega
    have hN8' : ¬ (128 : Int) < (M : Int) := by omega
    clear hN1 hN8
    have hv : ((unitQ m M R T).2.1, (unitQ m M R T).2.2) = Q := by rw [← HQ.out]; unfold unitO; rw [Hn.out, decide_eq_true (show (1 : Int) ≤ (M : Int) by omega), decide_eq_true (show (M : Int) ≤ 128 by omega)]; rfl
    have HV := Lib.hid hv
    clear hv
    have HB1 := Lib.hid (Below.refl w.heap.size w)
    go_wp2_with (at_make; refine make_any rfl rfl _ _ rfl .i64 .i64 _ _ M rfl rfl rfl rfl (by omega) (lo := w.heap.size) (by first | exact HB1.out.size | (simp; done) | (simp; omega) | omega) ?_)
    intro w5 hown hgrow
    have HB5 := Lib.hid (Below.made HB1.out hgrow HB1.out.size)
    have hs5 : w.heap.size < w5.heap.size := (hown.lo _ rfl).2
    have hs4 : w.heap.size ≤ w.heap.size := HB1.out.size
    obtain ⟨hc0, hf0⟩ := hown.at (by rw [List.length_replicate]) 0 (by rw [List.length_replicate]; omega)
    generalize (List.replicate M 0).getD 0 0 = old0 at hc0
    have hst := hown.store (by rw [List.length_replicate]) 0 1065353216
    rw [set_one hM1] at hst
    have HRain := Lib.hid hst
    have HB6 := Lib.hid (HB5.out.setCell (by exact hs4 : w.heap.size ≤ (⟨w.heap.size, 0, none⟩ : Addr).block) (.float .f32 1065353216))
    have hM0 : (0 : Int) < (M : Int) := by omega
    clear hown hgrow hst
    go_wp2_with (at_make; refine make_any rfl rfl _ _ rfl .i64 .i64 _ _ m rfl rfl rfl rfl (by omega) (lo := w.heap.size) (by simp; omega) ?_)
    intro w7 hown hgrow
    have HB7 := Lib.hid (Below.made HB6.out hgrow HB6.out.size)
    have HRain7 := Lib.hid (HRain.out.made hgrow)
    have HSt7 := Lib.hid hown
    have hs7 : w5.heap.size ≤ w7.heap.size := by have := hgrow.size; simpa using this
    clear hown hgrow
    have hr7 : RowF .f32 w7 (some ⟨w.heap.size, 0, none⟩) (oneRain M) := HRain7.out.row (oneRain_len hM1).symm
    have hz7 : ∀ a cap, RowO w7 w.heap.size (.slice a m cap) (List.replicate m 0) → RowF .f32 w7 a (List.replicate m 0) := fun a cap h9 => h9.row (List.length_replicate).symm
    have HZ7 := Lib.hid (hz7 _ _ HSt7.out)
    have HR7 := Lib.hid hr7
    clear hr7 hz7
    go_wp2_with fail
    have hcall := runBuckets_i _ m (List.replicate m 0) _ M (oneRain M) w7 HZ7.out (by rw [List.length_replicate]; omega) (zeros_lt m) hr ht HR7.out (by rw [oneRain_len hM1]; omega) (one_lt M)
    rw [List.length_replicate, oneRain_len hM1] at hcall
    refine hcall.mono ?_
    clear hcall
    rintro e w8 ⟨a1, c1, lo1, hi1, a2, c2, lo2, hi2, rfl, f1, f2, p1, p2, l1, l2, dd, hb⟩
    have HB8 := Lib.hid (HB7.out.trans (hb.mono HB7.out.size))
    have HF : Hid (FRow w8 w.heap.size w8.heap.size (.slice a2 (unitQ m M R T).2.1.length c2) (unitQ m M R T).2.1) := Lib.hid (FRow.mono f2 (Nat.le_trans HB7.out.size p2) f2.2.2 (Nat.le_refl _))
    have HL2 : Hid ((unitQ m M R T).2.1.length ≤ 1048576) := Lib.hid l2
    clear f1 f2 p1 p2 l1 l2 dd hb
    go_wp2_with fail
    go_ret2
    rw [← HV.out]
    exact ⟨a2, c2, rfl, HF.out, HL2.out, HB8.out⟩
  · have hv : Q = ([], false) := by
      rw [← HQ.out]; unfold unitO
      rw [show (decide (1 ≤ N) && decide (N ≤ 128)) = false by rw [← Bool.decide_and]; exact decide_eq_false hN, Bool.and_false]; rfl
    have HV := Lib.hid hv
    clear hv
    by_cases h1 : N < 1
    · clear hN
      go_wp2_with fail
      go_ret2
      rw [HV.out]
      exact ListB.no (Below.refl _ _)
    · have h128 : (128 : Int) < N := by omega
      clear hN
      go_wp2_with fail
      go_ret2
      rw [HV.out]
      exact ListB.no (Below.refl _ _)

set_option maxHeartbeats 8000000 in
theorem unitList_s (n : Int) {R T : Option Nat} {r t : Nat} (N : Int) (w : World) (hr : Is32 R r) (ht : Is32 T t) : Calls Try.prog 29 #[.int .i64 n, .float .f32 r, .float .f32 t, .int .i64 N] w (ListB (unitO n R T N) w) := by
  obtain ⟨Q, hQ⟩ : ∃ Q, unitO n R T N = Q := ⟨_, rfl⟩
  rw [hQ]
  have HQ := Lib.hid hQ
  clear hQ
  go_enter Try.func29, Try.ntmps29
  go_wp2_with fail
  refine (l00In_any n 1 8 _).mono ?_
  rintro e w' ⟨bb, hbb, rfl, rfl⟩
  have Hn := Lib.hid hbb
  clear hbb
  cases bb
  · have hv : Q = ([], false) := by rw [← HQ.out]; unfold unitO; rw [Hn.out]; rfl
    have HV := Lib.hid hv
    clear hv
    go_wp2_with fail
    go_ret2
    rw [HV.out]
    exact ListB.no (Below.refl _ _)
  go_wp2_with fail
  refine (l02Least_o _ hr).mono ?_
  rintro e w' ⟨bb, hbb, rfl, qHr, rfl⟩
  have Hr := Lib.hid hbb
  clear hbb
  cases bb
  · have hv : Q = ([], false) := by
      rw [← HQ.out]; unfold unitO; rw [unit_fail (by simp only [Hr.out, Bool.false_and, Bool.and_false])]; exact ite_self _
    have HV := Lib.hid hv
    clear hv
    go_wp2_with fail
    go_ret2
    rw [HV.out]
    exact ListB.no (by first | exact beld (Below.refl _ _) _ | exact beld (beld (Below.refl _ _) _) _ | exact Below.refl _ _)
  go_wp2_with fail
  refine (l02Above_o _ ht).mono ?_
  rintro e w' ⟨bb, hbb, rfl, qHt, rfl⟩
  have Ht := Lib.hid hbb
  clear hbb
  cases bb
  · have hv : Q = ([], false) := by
      rw [← HQ.out]; unfold unitO; rw [unit_fail (by simp only [Ht.out, Bool.false_and, Bool.and_false])]; exact ite_self _
    have HV := Lib.hid hv
    clear hv
    go_wp2_with fail
    go_ret2
    rw [HV.out]
    exact ListB.no (by first | exact beld (Below.refl _ _) _ | exact beld (beld (Below.refl _ _) _) _ | exact Below.refl _ _)
  go_wp2_with fail
  refine (l00In_any N 1 128 _).mono ?_
  rintro e w3 ⟨bb, hbb, rfl, hw3⟩
  have HB1 : Hid (Below w.heap.size w w3) := Lib.hid (by rw [← hw3]; exact (by first | exact beld (Below.refl _ _) _ | exact beld (beld (Below.refl _ _) _) _ | exact Below.refl _ _))
  have HN := Lib.hid hbb
  clear hbb hw3
  cases bb
  · have hv : Q = ([], false) := by rw [← HQ.out]; unfold unitO; rw [HN.out, Bool.and_false]; rfl
    have HV := Lib.hid hv
    clear hv
    go_wp2_with fail
    go_ret2
    rw [HV.out]
    exact ListB.no HB1.out
  have hn9 := Hn.out
  rw [Bool.and_eq_true, decide_eq_true_eq, decide_eq_true_eq] at hn9
  obtain ⟨hn1, hn8⟩ := hn9
  obtain ⟨m, rfl⟩ := Int.eq_ofNat_of_zero_le (show 0 ≤ n by omega)
  have hm1 : 1 ≤ m := by omega
  have hm8 : m ≤ 8 := by omega
  clear hn1 hn8
  have hN9 := HN.out
  rw [Bool.and_eq_true, decide_eq_true_eq, decide_eq_true_eq] at hN9
  obtain ⟨hN1, hN8⟩ := hN9
  obtain ⟨M, rfl⟩ := Int.eq_ofNat_of_zero_le (show 0 ≤ N by omega)
  have hM1 : 1 ≤ M := by omega
  have hM8 : M ≤ 128 := by omega
  clear hN1 hN8
  have hv : ((unitQ m M R T).2.1, (unitQ m M R T).2.2) = Q := by rw [← HQ.out]; unfold unitO; rw [Hn.out, decide_eq_true (show (1 : Int) ≤ (M : Int) by omega), decide_eq_true (show (M : Int) ≤ 128 by omega)]; rfl
  have HV := Lib.hid hv
  clear hv
  go_wp2_with (at_make; refine make_any rfl rfl _ _ rfl .i64 .i64 _ _ M rfl rfl rfl rfl (by omega) (lo := w.heap.size) (by first | exact HB1.out.size | (simp; done) | (simp; omega) | omega) ?_)
  intro w5 hown hgrow
  have HB5 := Lib.hid (Below.made HB1.out hgrow HB1.out.size)
  have hs5 : w3.heap.size < w5.heap.size := (hown.lo _ rfl).2
  have hs4 : w.heap.size ≤ w3.heap.size := HB1.out.size
  obtain ⟨hc0, hf0⟩ := hown.at (by rw [List.length_replicate]) 0 (by rw [List.length_replicate]; omega)
  generalize (List.replicate M 0).getD 0 0 = old0 at hc0
  have hst := hown.store (by rw [List.length_replicate]) 0 1065353216
  rw [set_one hM1] at hst
  have HRain := Lib.hid hst
  have HB6 := Lib.hid (HB5.out.setCell (by exact hs4 : w.heap.size ≤ (⟨w3.heap.size, 0, none⟩ : Addr).block) (.float .f32 1065353216))
  have hM0 : (0 : Int) < (M : Int) := by omega
  clear hown hgrow hst
  go_wp2_with (at_make; refine make_any rfl rfl _ _ rfl .i64 .i64 _ _ m rfl rfl rfl rfl (by omega) (lo := w.heap.size) (by simp; omega) ?_)
  intro w7 hown hgrow
  have HB7 := Lib.hid (Below.made HB6.out hgrow HB6.out.size)
  have HRain7 := Lib.hid (HRain.out.made hgrow)
  have HSt7 := Lib.hid hown
  have hs7 : w5.heap.size ≤ w7.heap.size := by have := hgrow.size; simpa using this
  clear hown hgrow
  have hr7 : RowF .f32 w7 (some ⟨w3.heap.size, 0, none⟩) (oneRain M) := HRain7.out.row (oneRain_len hM1).symm
  have hz7 : ∀ a cap, RowO w7 w.heap.size (.slice a m cap) (List.replicate m 0) → RowF .f32 w7 a (List.replicate m 0) := fun a cap h9 => h9.row (List.length_replicate).symm
  have HZ7 := Lib.hid (hz7 _ _ HSt7.out)
  have HR7 := Lib.hid hr7
  clear hr7 hz7
  go_wp2_with fail
  have hcall := l03Buckets_o _ m (List.replicate m 0) _ M (oneRain M) w7 HZ7.out (by rw [List.length_replicate]; omega) (zeros_lt m) hr ht HR7.out (by rw [oneRain_len hM1]; omega) (one_lt M) (cnt_len hm1 hm8) (zeros_amt m) Hr.out Ht.out (one_rain hM1 hM8)
  rw [List.length_replicate, oneRain_len hM1] at hcall
  refine hcall.mono ?_
  clear hcall
  rintro e w8 ⟨a1, c1, lo1, hi1, a2, c2, lo2, hi2, rfl, f1, f2, p1, p2, l1, l2, dd, hb⟩
  have HB8 := Lib.hid (HB7.out.trans (hb.mono HB7.out.size))
  have HF : Hid (FRow w8 w.heap.size w8.heap.size (.slice a2 (unitQ m M R T).2.1.length c2) (unitQ m M R T).2.1) := Lib.hid (FRow.mono f2 (Nat.le_trans HB7.out.size p2) f2.2.2 (Nat.le_refl _))
  have HL2 : Hid ((unitQ m M R T).2.1.length ≤ 1048576) := Lib.hid l2
  clear f1 f2 p1 p2 l1 l2 dd hb
  obtain ⟨bq, hbq⟩ : ∃ b, (unitQ m M R T).2.2 = b := ⟨_, rfl⟩
  have hv9 := HV.out
  rw [hbq] at hv9
  have HV9 := Lib.hid hv9
  have e9 : (buckO (List.replicate m 0) R T (oneRain M)).2.2 = bq := hbq
  rw [e9]
  have HBq := Lib.hid hbq
  clear hv9 e9 hbq
  cases bq
  · have hnil : (unitQ m M R T).2.1 = [] := by
      have h9 := HBq.out
      unfold unitQ buckO at h9 ⊢
      split at h9
      · rename_i hc
        rw [if_pos hc]
        split at h9
        · cases h9
        · rename_i hc2; rw [if_neg hc2]
      · rename_i hc; rw [if_neg hc]
    have hv9 := HV9.out
    rw [hnil] at hv9
    have HVn := Lib.hid hv9
    clear hnil hv9
    go_wp2_with fail
    go_ret2
    rw [← HVn.out]
    exact ListB.no HB8.out
  · go_wp2_with fail
    go_ret2
    rw [← HV9.out]
    exact ⟨a2, c2, rfl, HF.out, HL2.out, HB8.out⟩

end Go.Proofs.Ytfdcfalkidcdnab
