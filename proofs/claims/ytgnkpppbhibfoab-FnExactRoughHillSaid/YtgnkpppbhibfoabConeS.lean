/- Cones: the model. -/
import Derived.Test.YtgnkpppbhibfoabConeI
import Derived.Test.YtgnkpppbhibfoabPushZ
import Derived.Deep.Cut
namespace Go.Proofs.Ytgnkpppbhibfoab
open Go.RowKit
set_option linter.unusedVariables false
set_option linter.unusedSimpArgs false
set_option maxRecDepth 100000
attribute [local irreducible] wpV wpList Code.wp

theorem BoxW.drewN {w : World} {b : Nat} {wide high : Int} {v : Value} (h : BoxW w b wide high v) (n : Nat) : BoxW (w.drewN n) b wide high v := h
theorem BoxW.set2 {w : World} {b : Nat} {wide high : Int} {v : Value} (h : BoxW w b wide high v) (u : Value) : BoxW (w.setCell ⟨b, 2, none⟩ u) b wide high u := by
  obtain ⟨⟨h0, h1, h2, h3⟩, hf⟩ := h
  refine ⟨⟨?_, ?_, ?_, by simpa using h3⟩, fun o => ?_⟩
  · simp [go_sem, h0]
  · simp [go_sem, h1]
  · have h4 := hf 2
    simp [go_sem, h2, h4]
  · have h5 := hf o
    simp [go_sem, h5]
theorem BoxW.setOther {w : World} {b : Nat} {wide high : Int} {v : Value} (h : BoxW w b wide high v) {p : Addr} (hp : p.block ≠ b) (u : Value) : BoxW (w.setCell p u) b wide high v := by
  have hb : (w.setCell p u).heap[b]? = w.heap[b]? := Below.heap_setCell _ _ _ _ (fun e => hp e.symm)
  obtain ⟨⟨h0, h1, h2, h3⟩, hf⟩ := h
  exact ⟨⟨by rw [World.cell?_of_block (w := w) (a := ⟨b, 0, none⟩) hb, h0], by rw [World.cell?_of_block (w := w) (a := ⟨b, 1, none⟩) hb, h1], by rw [World.cell?_of_block (w := w) (a := ⟨b, 2, none⟩) hb, h2], by simpa using h3⟩, fun o => by rw [World.frozen?_of_block (w := w) (a := ⟨b, o, none⟩) hb]; exact hf o⟩

set_option maxHeartbeats 8000000 in
theorem coneHill_spec (wide high : Int) (t d : Nat) (w : World) (hwl : -9223372036854775808 ≤ wide) (hwm : wide ≤ 9223372036854775807) (hhl : -9223372036854775808 ≤ high) (hhm : high ≤ 9223372036854775807) (ht : t < 4294967296) (hd : d < 4294967296) :
    Calls Try.prog 20 #[.int .i64 wide, .int .i64 high, .float .f32 t, .float .f32 d] w (RetHB (resConeHill wide high t d).wide (resConeHill wide high t d).high (resConeHill wide high t d).zs (resConeHill wide high t d).ok w) := by
  obtain ⟨Q, hQ⟩ : ∃ Q, resConeHill wide high t d = Q := ⟨_, rfl⟩
  rw [hQ]
  have HQ := Lib.hid hQ
  clear hQ
  have HTt : Hid (Is32 (some t) t) := Lib.hid (Is32.c ht)
  have HDd : Hid (Is32 (some d) d) := Lib.hid (Is32.c hd)
  clear ht hd
  obtain ⟨W1, hW1⟩ : ∃ W, (w.alloc (.cells #[.int .i64 0, .int .i64 0, .slice none 0 0] 25)) = W := ⟨_, rfl⟩
  have hbr : BoxW W1 w.heap.size 0 0 (.slice none 0 0) := by rw [← hW1]; exact BoxW.new w 0 0 (.slice none 0 0) 25
  have hsz : W1.heap.size = w.heap.size + 1 := by rw [← hW1]; simp
  have hb : Below w.heap.size w W1 := by rw [← hW1]; exact below1 _ _
  have HB := Lib.hid hb
  have HBR := Lib.hid hbr
  obtain ⟨⟨r0, r1, r2, _⟩, rf⟩ := hbr
  have HW1 := Lib.hid hW1
  have HSZ := Lib.hid hsz
  clear hb hW1 hsz
  go_enter Try.func20, Try.ntmps20
  go_upto_region 1 with fail
  rw [HW1.out]
  clear HW1
  go_wp2_with fail
  cases hs : sidesB wide high
  · refine (l02Sides_b wide high false hs _).mono ?_
    rintro e w' ⟨rfl, hw'⟩
    obtain rfl : W1 = w' := hw'.symm
    have hv : Q = failH := by rw [← HQ.out]; unfold resConeHill; rw [hs]; simp only [Bool.false_and, Bool.and_false, Bool.true_and, Bool.and_true]; rfl
    have HV := Lib.hid hv
    clear hv
    go_wp2_with fail
    rw [HV.out]
    refine bodyPost_ret (v := .tuple #[.agg #[.int .i64 0, .int .i64 0, .slice none 0 0], .bool false]) (by simp [results, Try.results20, go_sem, r0, r1, r2]) rfl ⟨none, 0, rfl, belowSetBox (by repeat (first | with_reducible exact HB.out | with_reducible refine below_drewN ?_ _ | (with_reducible refine Below.alloc ?_ ?_ _; rotate_left; exact (by first | exact HBk.out.size | (simp; done) | (simp; omega) | omega)))) (by omega) _ _ _, (show FRow _ _ _ (.slice none 0 0) [] from FRow.nil _ _)⟩
  refine (l02Sides_b wide high true hs _).mono ?_
  rintro e w' ⟨rfl, hw'⟩
  obtain rfl : W1 = w' := hw'.symm
  have HS := Lib.hid hs
  clear hs
  go_wp2_with fail
  refine (l01Fin_o _ HTt.out).mono ?_
  rintro e w' ⟨bb, hbb, rfl, q1, rfl⟩
  have HF := Lib.hid (show fin32 t = bb from hbb)
  clear hbb
  cases bb
  · have hv : Q = failH := by rw [← HQ.out]; unfold resConeHill; rw [HS.out, HF.out]; simp only [Bool.false_and, Bool.and_false, Bool.true_and, Bool.and_true]; rfl
    have HV := Lib.hid hv
    clear hv
    go_wp2_with fail
    rw [HV.out]
    refine bodyPost_ret (v := .tuple #[.agg #[.int .i64 0, .int .i64 0, .slice none 0 0], .bool false]) (by simp [results, Try.results20, go_sem, r0, r1, r2]) rfl ⟨none, 0, rfl, belowSetBox (by repeat (first | with_reducible exact HB.out | with_reducible refine below_drewN ?_ _ | (with_reducible refine Below.alloc ?_ ?_ _; rotate_left; exact (by first | exact HBk.out.size | (simp; done) | (simp; omega) | omega)))) (by omega) _ _ _, (show FRow _ _ _ (.slice none 0 0) [] from FRow.nil _ _)⟩
  go_wp2_with fail
  refine (l01Fin_o _ HDd.out).mono ?_
  rintro e w' ⟨bb, hbb, rfl, q2, rfl⟩
  have HF2 := Lib.hid (show fin32 d = bb from hbb)
  clear hbb
  cases bb
  · have hv : Q = failH := by rw [← HQ.out]; unfold resConeHill; rw [HS.out, HF.out, HF2.out]; simp only [Bool.false_and, Bool.and_false, Bool.true_and, Bool.and_true]; rfl
    have HV := Lib.hid hv
    clear hv
    go_wp2_with fail
    rw [HV.out]
    refine bodyPost_ret (v := .tuple #[.agg #[.int .i64 0, .int .i64 0, .slice none 0 0], .bool false]) (by simp [results, Try.results20, go_sem, r0, r1, r2]) rfl ⟨none, 0, rfl, belowSetBox (by repeat (first | with_reducible exact HB.out | with_reducible refine below_drewN ?_ _ | (with_reducible refine Below.alloc ?_ ?_ _; rotate_left; exact (by first | exact HBk.out.size | (simp; done) | (simp; omega) | omega)))) (by omega) _ _ _, (show FRow _ _ _ (.slice none 0 0) [] from FRow.nil _ _)⟩
  have hv : resConeHill wide high t d = giveH wide high (coneT wide high (some t) (some d) (wide * high).toNat) := by unfold resConeHill; rw [HS.out, HF.out, HF2.out]; rfl
  have HR : Hid (giveH wide high (coneT wide high (some t) (some d) (wide * high).toNat) = Q) := Lib.hid (hv.symm.trans HQ.out)
  clear hv r0 r1 r2 rf
  have hmb := mul_bound HS.out
  obtain ⟨n, hn⟩ : ∃ n : Nat, (wide * high).toNat = n := ⟨_, rfl⟩
  have hn2 : wide * high = (n : Int) := by omega
  have HN := Lib.hid hn
  have HN2 := Lib.hid hn2
  have hn3 : n ≤ 256 := by omega
  have hn4 : 1 ≤ n := by omega
  have hmulw : IntKind.i64.wrap (wide * high) = (n : Int) := by rw [hn2]; exact IntWalk.i64_in _ (by omega)
  clear hn hn2 hmb
  obtain ⟨w2, hw2⟩ : ∃ W, W1.drewN (q1 + q2) = W := ⟨_, rfl⟩
  have hb2 : Below w.heap.size w w2 := by rw [← hw2]; exact below_drewN HB.out _
  have hr2 : BoxW w2 w.heap.size 0 0 (.slice none 0 0) := by rw [← hw2]; exact HBR.out.drewN _
  have hz2 : w2.heap.size = w.heap.size + 1 := by rw [← hw2]; exact HSZ.out
  have HB2 := Lib.hid hb2
  have HR2 := Lib.hid hr2
  have HZ2 := Lib.hid hz2
  have HW2 := Lib.hid hw2
  clear hb2 hr2 hz2 hw2 HB HBR HSZ
  go_upto_region 3 with fail
  first | rw [HW2.out] | (rw [World.drewN_drewN]; rw [HW2.out])
  clear HW2
  have hbx0 : BoxW ((w2.alloc (.cells #[] 22)).alloc (.cells #[.int .i64 wide, .int .i64 high, .slice (some ⟨w2.heap.size, 0, none⟩) 0 0] 25)) (w2.heap.size + 1) wide high (.slice (some ⟨w2.heap.size, 0, none⟩) 0 0) := BoxW.at _ _ (by simp) wide high _ 25
  have HBX0 := Lib.hid hbx0
  have HRR0 := Lib.hid ((HR2.out.alloc (.cells #[] 22)).alloc (.cells #[.int .i64 wide, .int .i64 high, .slice (some ⟨w2.heap.size, 0, none⟩) 0 0] 25))
  have HB0 : Hid (Below w.heap.size w ((w2.alloc (.cells #[] 22)).alloc (.cells #[.int .i64 wide, .int .i64 high, .slice (some ⟨w2.heap.size, 0, none⟩) 0 0] 25))) := Lib.hid ((HB2.out.alloc HB2.out.size _).alloc (by have := HB2.out.size; simp; omega) _)
  have hwz : ((w2.alloc (.cells #[] 22)).alloc (.cells #[.int .i64 wide, .int .i64 high, .slice (some ⟨w2.heap.size, 0, none⟩) 0 0] 25)).heap.size = w2.heap.size + 1 + 1 := by simp
  have HWZ := Lib.hid hwz
  clear hbx0 hwz
  go_wp2_with fail
  obtain ⟨BX, hBX⟩ : ∃ B, w2.heap.size + 1 = B := ⟨_, rfl⟩
  have hz2 := HZ2.out
  have hBw : w.heap.size + 1 < BX := by omega
  rw [hBX] at HBX0 HWZ
  try rw [hBX]
  clear hz2
  go_loopw [11] (fun iv wr => ∃ (k : Nat) (rs : List Nat) (v : Value), k ≤ n ∧ iv = .int .i64 k ∧ Hid (Told ((List.range k).map (coneO wide high (some t) (some d))) rs) ∧ Hid (BoxW wr BX wide high v) ∧ Hid (OwnZ wr (BX + 1) v rs) ∧ Hid (BoxW wr w.heap.size 0 0 (.slice none 0 0)) ∧ Hid (Below w.heap.size w wr) ∧ Hid (BX < wr.heap.size)) (fun iv _ => n - (intOf iv).toNat)
  case atStart => exact ⟨0, [], _, Nat.zero_le _, rfl, Lib.hid Told.nil, HBX0, Lib.hid (.inr ⟨rfl, _, rfl⟩), HRR0, HB0, Lib.hid (by have := HWZ.out; omega)⟩
  case round =>
    clear HBX0 HRR0 HB0 HWZ HB2 HR2 HZ2 hBX
    obtain ⟨k, rs, v, hk, rfl, HTo, HBX, HO, HRR, HBk, HZk⟩ := hrel
    by_cases hlt : k < n
    · have hs := HS.out
      obtain ⟨hw1, hw2, hh1, hh2⟩ := sidesB_true hs
      have hw0 : wide ≠ 0 := by omega
      have hw0' : (wide == 0) = false := by simp; omega
      have hwm : wide ≠ -1 := by omega
      have hk0 : (0 : Int) ≤ (k : Int) := by omega
      have htm1 : 0 ≤ Int.tmod k wide := Int.tmod_nonneg _ hk0
      have htm2 : Int.tmod k wide < wide := Int.tmod_lt_of_pos _ (by omega)
      have htd1 : 0 ≤ ((k : Int) / wide) := Int.ediv_nonneg hk0 (by omega)
      have htd2 : ((k : Int) / wide) ≤ k := Int.ediv_le_self _ hk0
      have hi1 : IntKind.i64.wrap (Int.tmod k wide) = Int.tmod k wide := IntWalk.i64_in _ (by omega)
      have hi2 : IntKind.i64.wrap (((k : Int) / wide)) = ((k : Int) / wide) := IntWalk.i64_in _ (by omega)
      have hi3 : IntKind.i64.wrap (wide - 1) = wide - 1 := IntWalk.i64_in _ (by omega)
      have hi4 : IntKind.i64.wrap (high - 1) = high - 1 := IntWalk.i64_in _ (by omega)
      have hf1 : Is32 (some (iF (Int.tmod k wide))) (floatOfInt .f32 (Int.tmod k wide)) := iF_is _
      have hf2 : Is32 (some (iF (((k : Int) / wide)))) (floatOfInt .f32 ((k : Int) / wide)) := iF_is _
      have hf3 : Is32 (some (iF (wide - 1))) (floatOfInt .f32 (wide - 1)) := iF_is _
      have hf4 : Is32 (some (iF (high - 1))) (floatOfInt .f32 (high - 1)) := iF_is _
      have hf5 : Is32 (some (iF (Int.tmod k wide))) (floatOfInt .f32 ((k : Int) % wide)) := by rw [show (k : Int) % wide = Int.tmod k wide from (Int.tmod_eq_emod_of_nonneg hk0).symm]; exact iF_is _
      have hki : (k : Int) < (n : Int) := by omega
      obtain ⟨⟨p0, p1, p2, _⟩, pf⟩ := HBX.out
      have hrl : rs.length = k := by have := HTo.out.1; simpa using this
      have Hl9 : Hid (rs.length ≤ 1048576) := Lib.hid (by omega)
      have HRl := Lib.hid hrl
      clear hrl hs
      have hs1 : BX + 1 ≤ wr.heap.size := HZk.out
      have htt := HTt.out
      have hdd := HDd.out
      go_wp2_with (first | ((with_reducible refine wpList_bin ?_); refine wpList_f32 rfl _ _ _ _ _ rfl rfl rfl (by decide) (by first | assumption | exact Is32.c (by decide)) (by first | assumption | exact Is32.c (by decide)) ?_; intro z n hz))
      refine (l01Sqrt_o _ hz).mono ?_
      rintro e w3 ⟨sq, rfl, hsq, q3, rfl⟩
      go_wp2_with (first | ((with_reducible refine wpList_bin ?_); refine wpList_f32 rfl _ _ _ _ _ rfl rfl rfl (by decide) (by first | assumption | exact Is32.c (by decide)) (by first | assumption | exact Is32.c (by decide)) ?_; intro z n hz) | (at_builtin; refine push_z rfl rfl _ _ rfl (lo := BX + 1) (v := v) rfl (by repeat (first | with_reducible exact HO.out | with_reducible refine OwnZ.drewN ?_ _ | with_reducible refine OwnZ.alloc ?_ _)) _ _ _ rfl (by first | exact (Bx.new _ [.float .f32 _] _).c 0 rfl | simp [go_sem]) Hl9.out (by first | exact hs1 | (simp; exact hs1) | (simp; omega)) ?_; intro g9 c9 w9 hr9 hb9; have hbw9 : BoxW w9 BX wide high v := BoxW.below (by repeat (first | with_reducible exact HBX.out | with_reducible refine BoxW.drewN ?_ _ | with_reducible refine BoxW.alloc ?_ _)) hb9 (Nat.lt_succ_self _); have hrw9 : BoxW w9 w.heap.size 0 0 (.slice none 0 0) := BoxW.below (by repeat (first | with_reducible exact HRR.out | with_reducible refine BoxW.drewN ?_ _ | with_reducible refine BoxW.alloc ?_ _)) hb9 (by omega); have hbl9 : Below w.heap.size w w9 := Below.trans (by repeat (first | with_reducible exact HBk.out | with_reducible refine below_drewN ?_ _ | (with_reducible refine Below.alloc ?_ ?_ _; rotate_left; exact (by first | exact HBk.out.size | (simp; done) | (simp; omega) | omega)))) (hb9.mono (by omega)); have hzl9 : BX < w9.heap.size := (hr9.lo g9 rfl |> fun h => by omega); have HBW9 := Lib.hid hbw9; have HRW9 := Lib.hid hrw9; have HBL9 := Lib.hid hbl9; have HRO9 := Lib.hid hr9; clear p0 p1 p2 pf hr9 hb9 hrw9 hbl9; obtain ⟨⟨p0, p1, p2, _⟩, pf⟩ := hbw9))
      rw [HRl.out] at HRO9
      try rw [HRl.out]
      have hg9 := (HRO9.out.lo g9 rfl).1
      go_roundw
      case rel => exact ⟨k + 1, rs ++ [z], _, hlt, by go_num, Lib.hid (by rw [List.range_succ, List.map_append]; exact HTo.out.snoc (show Rp .f32 (coneO wide high (some t) (some d) k) z from hz.1)), Lib.hid (HBW9.out.set2 _), Lib.hid (.inl (HRO9.out.setFar (by simp [Value.ownBlock]; omega) _)), Lib.hid (HRW9.out.setOther (by show BX ≠ _; omega) _), Lib.hid (HBL9.out.setCell (by show w.heap.size ≤ BX; omega) _), Lib.hid (by simp; exact hzl9)⟩
      case measure => simp [intOf]; omega
    · have hkn : k = n := by omega
      subst hkn
      have hki : ¬ (k : Int) < (k : Int) := by omega
      have hrl : rs.length = k := by have := HTo.out.1; simpa using this
      have hro : RowO wr (BX + 1) v rs := by rcases HO.out with h9 | ⟨h9, _⟩; exact h9; rw [h9] at hrl; simp at hrl; omega
      obtain ⟨av, cv, hav⟩ := hro.len
      subst hav
      have hfr := hro.frow
      have HFR := Lib.hid hfr
      have HRl := Lib.hid hrl
      clear hro hrl hfr HO
      obtain ⟨⟨p0, p1, p2, _⟩, pf⟩ := HBX.out
      have hgive := l02Give_any wide high av cv rs (coneT wide high (some t) (some d) (wide * high).toNat) _ _ wr HS.out (by rw [HRl.out, HN2.out]) (by rw [HN.out]; exact HTo.out) HFR.out
      rw [HR.out] at hgive
      have HGive := Lib.hid hgive
      clear hgive
      go_wp2_with fail
      refine HGive.out.mono ?_
      rintro e w5 ⟨a5, c5, rfl, hb5, hf5⟩
      have Hf5 := Lib.hid hf5
      have HB5 := Lib.hid (HBk.out.trans (hb5.mono HBk.out.size))
      have hbw5 := HRR.out.below hb5 (by have := HZk.out; omega)
      obtain ⟨⟨r0, r1, r2, _⟩, rf⟩ := hbw5
      clear hf5 hb5 p0 p1 p2 pf
      go_wp2_with fail
      refine bodyPost_ret (v := .tuple #[.agg #[.int .i64 Q.wide, .int .i64 Q.high, .slice a5 Q.zs.length c5], .bool Q.ok]) (by simp [results, Try.results20, go_sem, r0, r1, r2]) rfl ⟨a5, c5, rfl, belowSetBox HB5.out (Nat.le_refl _) _ _ _, (Hf5.out.setBox (lo := BX + 1) (b := w.heap.size) (.inl (by omega)) _ _ _).mono (by omega) (Nat.le_refl _) (Nat.le_refl _)⟩

end Go.Proofs.Ytgnkpppbhibfoab
