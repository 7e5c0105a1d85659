/- A reach that routes: the program. -/
import Derived.Test.YtdoecpghlfjhiaaRouteA
import Derived.Test.YtdoecpghlfjhiaaGrow
import Derived.Test.YtdoecpghlfjhiaaRegionT
import Derived.Test.YtdoecpghlfjhiaaBw
namespace Go.Proofs.Ytdoecpghlfjhiaa
open Go.RowKit
set_option linter.unusedVariables false
set_option linter.unusedSimpArgs false
set_option maxRecDepth 100000
attribute [local irreducible] wpV wpList Code.wp

def rtIt (N B K F : Option Nat) (X : List Nat) : Nat → Option Nat
  | 0 => F
  | k + 1 => fop .add .f32 (fop .add .f32 (fop .mul .f32 N (some (X.getD (k + 1) 0))) (fop .mul .f32 B (some (X.getD k 0)))) (fop .mul .f32 K (rtIt N B K F X k))
def rtL (N B K F : Option Nat) (X : List Nat) (n : Nat) : List (Option Nat) := (List.range n).map (rtIt N B K F X)
def rowO (L : List (Option Nat)) : List Nat × Bool := if L.all fin32o then (L.map (fun Y => Y.getD 0), true) else ([], false)
def routeU (S : Option Nat × Option Nat × Option Nat × Bool) (F : Option Nat) (X : List Nat) : List Nat × Bool := if S.2.2.2 then rowO (rtL S.1 S.2.1 S.2.2.1 F X X.length) else ([], false)
def routeO (A0 A1 T F : Option Nat) (X : List Nat) : List Nat × Bool := if (sharesO A0 A1 T).2.2.2 && insB X && fin32o F then rowO (rtL (sharesO A0 A1 T).1 (sharesO A0 A1 T).2.1 (sharesO A0 A1 T).2.2.1 F X X.length) else ([], false)
theorem rtL_succ (N B K F : Option Nat) (X : List Nat) (k : Nat) : rtL N B K F X (k + 1) = rtL N B K F X k ++ [rtIt N B K F X k] := by unfold rtL; rw [List.range_succ, List.map_append]; rfl
theorem rtL_len (N B K F : Option Nat) (X : List Nat) (n : Nat) : (rtL N B K F X n).length = n := by unfold rtL; simp
theorem rows_at {w : World} {a : Option Addr} {X : List Nat} (h : RowF .f32 w a X) (h0 : 0 < X.length) : ∃ b off, a = some ⟨b, off, none⟩ ∧ b < w.heap.size ∧ ∀ i, i < X.length → w.cell? ⟨b, off + i, none⟩ = some (.float .f32 (X.getD i 0)) := by
  rcases h with rfl | ⟨b, off, h1, hb, hc⟩
  · simp at h0
  · exact ⟨b, off, h1, hb, hc⟩
theorem getD_lt {X : List Nat} (hz : ∀ z ∈ X, z < 4294967296) (k : Nat) : X.getD k 0 < 4294967296 := by
  rcases Nat.lt_or_ge k X.length with h | h
  · rw [List.getD_eq_getElem?_getD, List.getElem?_eq_getElem h]; exact hz _ (List.getElem_mem h)
  · rw [List.getD_eq_getElem?_getD, List.getElem?_eq_none h]; decide
theorem at_last (ls : List Nat) (y : Nat) (r : List Nat) {m : Nat} (h : ls.length = m) : ((ls ++ [y]) ++ r).getD m 0 = y := by
  subst h
  rw [List.getD_eq_getElem?_getD, List.getElem?_append_left (by simp), List.getElem?_append_right (Nat.le_refl _), Nat.sub_self]; rfl
theorem Is32s.lt {Xs : List (Option Nat)} {zs : List Nat} (h : Is32s Xs zs) : ∀ z ∈ zs, z < 4294967296 := by
  intro z hz
  obtain ⟨i, hi, rfl⟩ := List.getElem_of_mem hz
  have := (h.2 i hi).2
  rwa [List.getD_eq_getElem?_getD, List.getElem?_eq_getElem hi] at this

set_option maxHeartbeats 4000000 in
theorem routeReach_i {A0 A1 T FF : Option Nat} {r0 r1 t f : Nat} (a : Option Addr) (cap : Nat) (X : List Nat) (w : World) (h0 : Is32 A0 r0) (h1 : Is32 A1 r1) (hx : RowF .f32 w a X) (hl : X.length ≤ 1048576) (hz : ∀ z ∈ X, z < 4294967296) (ht : Is32 T t) (hf : Is32 FF f) : Calls Try.prog 31 #[.agg #[.float .f32 r0, .float .f32 r1], .slice a X.length cap, .float .f32 t, .float .f32 f] w (ListB (routeO A0 A1 T FF X) w) := by
  obtain ⟨Q, hQ⟩ : ∃ Q, routeO A0 A1 T FF X = Q := ⟨_, rfl⟩
  rw [hQ]
  have HQ := Lib.hid hQ
  have HX := Lib.hid hx
  have HZ := Lib.hid hz
  clear hQ hx hz
  go_enter Try.func31, Try.ntmps31
  go_wp2_with fail
  refine (reachShares_i _ h0 h1 ht).mono ?_
  rintro e w1 ⟨n, b, k, bb, rfl, hbb, hn, hb0, hk, hb⟩
  have HB1 : Hid (Below w.heap.size w w1) := Lib.hid (Below.trans (by repeat (first | with_reducible exact Below.refl _ _ | with_reducible refine beld ?_ _ | (with_reducible refine Below.alloc ?_ ?_ _; rotate_left; exact (by first | (simp; done) | (simp; omega) | omega)) | (with_reducible refine Below.setCell ?_ ?_ _; rotate_left; exact (by first | (simp; done) | (simp; omega) | omega)))) (hb.mono (by first | (simp; done) | (simp; omega) | omega)))
  have hs1 : w.heap.size < w1.heap.size := (by have := hb.size; simp at this; omega)
  have HS := Lib.hid hbb
  clear hb hbb
  obtain ⟨⟨N, B, K, b9⟩, hSV⟩ : ∃ S, sharesO A0 A1 T = S := ⟨_, rfl⟩
  rw [hSV] at hn hb0 hk
  simp only at hn hb0 hk
  have HSV := Lib.hid hSV
  clear hSV
  cases bb
  · have hv : Q = ([], false) := by rw [← HQ.out]; unfold routeO; rw [HS.out]; simp only [Bool.false_and, Bool.and_false]; rfl
    have HV := Lib.hid hv
    clear hv
    go_wp2_with fail
    go_ret2
    rw [HV.out]
    exact ListB.no HB1.out
  go_wp2_with fail
  refine (areIns_i a cap X _ (HX.out.below HB1.out (Nat.le_refl _)) hl HZ.out).mono ?_
  rintro e w2 ⟨bb, hbb, rfl, hb⟩
  have HB2 : Hid (Below w.heap.size w w2) := Lib.hid (HB1.out.trans (hb.mono (Nat.le_of_lt hs1)))
  have hs2 : w.heap.size < w2.heap.size := Nat.lt_of_lt_of_le hs1 hb.size
  have HI := Lib.hid hbb
  clear hb hbb
  cases bb
  · have hv : Q = ([], false) := by rw [← HQ.out]; unfold routeO; rw [HI.out]; simp only [Bool.false_and, Bool.and_false]; rfl
    have HV := Lib.hid hv
    clear hv
    go_wp2_with fail
    go_ret2
    rw [HV.out]
    exact ListB.no HB2.out
  go_wp2_with fail
  refine (isFin_o _ hf).mono ?_
  rintro e w' ⟨bb, hbb, rfl, rfl⟩
  have HF := Lib.hid hbb
  clear hbb
  cases bb
  · have hv : Q = ([], false) := by rw [← HQ.out]; unfold routeO; rw [HF.out]; simp only [Bool.false_and, Bool.and_false]; rfl
    have HV := Lib.hid hv
    clear hv
    go_wp2_with fail
    go_ret2
    rw [HV.out]
    exact ListB.no HB2.out
  have hins := HI.out
  unfold insB at hins
  simp only [Bool.and_eq_true, decide_eq_true_eq] at hins
  obtain ⟨⟨hX1, hX2⟩, hX3⟩ := hins
  clear hX3
  obtain ⟨bx, ox, rfl, hbx, hcx⟩ := rows_at HX.out (by omega)
  have HCX := Lib.hid hcx
  clear hcx
  have hv : Q = rowO (rtL N B K FF X X.length) := by rw [← HQ.out]; unfold routeO; rw [HS.out, HI.out, HF.out, HSV.out]; rfl
  have HV := Lib.hid hv
  clear hv
  go_wp2_with (at_make; refine make_any rfl rfl _ _ rfl .i64 .i64 _ _ X.length rfl rfl rfl rfl hl (lo := w.heap.size + 1) (by omega) ?_)
  intro w3 hown hgrow
  have HB3 := Lib.hid (Below.made HB2.out hgrow HB2.out.size)
  have hgb : w.heap.size + 1 ≤ w2.heap.size ∧ w2.heap.size < w3.heap.size := ⟨by omega, (hown.lo _ rfl).2⟩
  obtain ⟨gb, hgbe⟩ : ∃ gb, w2.heap.size = gb := ⟨_, rfl⟩
  rw [hgbe] at hown hgb ⊢
  obtain ⟨hg1, hg2⟩ := hgb
  obtain ⟨hc0, hf0⟩ := hown.at (by rw [List.length_replicate]) 0 (by rw [List.length_replicate]; omega)
  generalize (List.replicate X.length 0).getD 0 0 = old0 at hc0
  have hst := hown.store (by rw [List.length_replicate]) 0 f
  rw [show (List.replicate X.length 0).set 0 f = [f] ++ List.replicate (X.length - 1) 0 by obtain ⟨m, hm⟩ : ∃ m, X.length = m + 1 := ⟨X.length - 1, by omega⟩; rw [hm, List.replicate_succ, List.set_cons_zero]; rfl] at hst
  have HR0 := Lib.hid hst
  have hX0 : (0 : Int) < (X.length : Int) := by omega
  have HB4 := Lib.hid (HB3.out.setCell (p := ⟨gb, 0, none⟩) (by show w.heap.size ≤ gb; omega) (.float .f32 f))
  clear hown hgrow hst hgbe
  go_wp2_with fail
  go_loopw [15] (fun i wr => ∃ (m : Nat) (ls : List Nat) (y : Nat), m + 1 ≤ X.length ∧ i = .int .i64 ((m : Int) + 1) ∧ Hid (ls.length = m) ∧ Hid (Is32s (rtL N B K FF X (m + 1)) (ls ++ [y])) ∧ Hid (Is32 (rtIt N B K FF X m) y) ∧ Hid (RowO wr (w.heap.size + 1) (.slice (some ⟨gb, 0, none⟩) X.length X.length) ((ls ++ [y]) ++ List.replicate (X.length - (ls ++ [y]).length) 0)) ∧ Hid (Below w.heap.size w wr)) (fun i _ => X.length - (intOf i).toNat)
  case atStart => exact ⟨0, [], f, hX1, by first | rfl | simp, Lib.hid rfl, Lib.hid (by rw [rtL_succ]; exact Is32s.nil.snoc hf), Lib.hid hf, HR0, HB4⟩
  case round =>
    obtain ⟨m, ls, y, hm, rfl, HL, HIs, HY, HR, HBk⟩ := hrel
    by_cases hlt : m + 1 < X.length
    · obtain ⟨x1, hx1⟩ : ∃ x, X.getD (m + 1) 0 = x := ⟨_, rfl⟩
      obtain ⟨x0, hx0⟩ : ∃ x, X.getD m 0 = x := ⟨_, rfl⟩
      have hc1 : ∀ q, (wr.drewN q).cell? ⟨bx, ox + (m + 1), none⟩ = some (.float .f32 x1) := fun q => by show wr.cell? _ = _; rw [HBk.out.cell (p := ⟨bx, ox + (m + 1), none⟩) hbx, HCX.out (m + 1) hlt, hx1]
      have hc2 : ∀ q, (wr.drewN q).cell? ⟨bx, ox + m, none⟩ = some (.float .f32 x0) := fun q => by show wr.cell? _ = _; rw [HBk.out.cell (p := ⟨bx, ox + m, none⟩) hbx, HCX.out m (by omega), hx0]
      have hxi1 : Is32 (some x1) x1 := Is32.c (by rw [← hx1]; exact getD_lt HZ.out _)
      have hxi0 : Is32 (some x0) x0 := Is32.c (by rw [← hx0]; exact getD_lt HZ.out _)
      have hlen : ((ls ++ [y]) ++ List.replicate (X.length - (ls ++ [y]).length) 0).length = X.length := fill_len _ _ (by rw [List.length_append, List.length_singleton, HL.out]; omega)
      obtain ⟨hca, hfa⟩ := HR.out.at hlen.symm (m + 1) (by rw [hlen]; exact hlt)
      generalize ((ls ++ [y]) ++ List.replicate (X.length - (ls ++ [y]).length) 0).getD (m + 1) 0 = old1 at hca
      obtain ⟨hcb, hfb⟩ := HR.out.at hlen.symm m (by rw [hlen]; omega)
      have hgy : ((ls ++ [y]) ++ List.replicate (X.length - (ls ++ [y]).length) 0).getD m 0 = y := at_last ls y _ HL.out
      rw [hgy] at hcb
      clear hgy
      have hy := HY.out
      have Hlen := Lib.hid hlen
      have HX1 := Lib.hid hx1
      have HX0 := Lib.hid hx0
      clear hlen hx1 hx0
      have hm0 : (0 : Int) ≤ (m : Int) := by omega
      have hm1 : (m : Int) < (X.length : Int) := by omega
      have hm2 : (m : Int) + 1 < (X.length : Int) := by omega
      have hm3 : (0 : Int) ≤ (m : Int) + 1 := by omega
      have hiw : IntKind.i64.wrap (m : Int) = (m : Int) := by rw [IntWalk.i64_in _ (by omega)]
      go_wp2_with fail
      apply wp_region_tail (id := 9) 25 (C := fun w' => ∃ q, w' = wr.drewN q) (vmap [(7, V32k _), (14, V32k _), (15, V32k _), (22, V32k _), (23, V32k _)]) ⟨1, rfl⟩ (by kernel_rfl) (by kernel_rfl)
      (refine wpV_go 1 rfl (fun K hK => ?_); go_simp; refine hK.out _ ?_; clear hK K)
      (refine wpV_go 2 rfl (fun K hK => ?_); go_simp; refine hK.out _ ?_; clear hK K)
      (refine wpV_go 3 rfl (fun K hK => ?_); go_simp; refine hK.out _ ?_; clear hK K)
      (refine wpV_go 4 rfl (fun K hK => ?_); go_simp; refine hK.out _ ?_; clear hK K)
      (refine wpV_go 5 rfl (fun K hK => ?_); go_simp; refine hK.out _ ?_; clear hK K)
      (refine wpV_go 6 rfl (fun K hK => ?_); go_simp; refine hK.out _ ?_; clear hK K)
      (refine wpV_go 7 rfl (fun K hK => ?_); go_simp; refine hK.out _ ?_; clear hK K)
      (refine wpV_f32 8 rfl (drewC _) _ _ _ _ _ rfl rfl rfl rfl (by decide) (by first | assumption | exact Is32.c (by decide)) (by first | assumption | exact Is32.c (by decide)) rfl ?_; intro z7 hz7)
      (refine wpV_go 9 rfl (fun K hK => ?_); go_simp; refine hK.out _ ?_; clear hK K)
      (refine wpV_go 10 rfl (fun K hK => ?_); go_simp; refine hK.out _ ?_; clear hK K)
      (refine wpV_go 11 rfl (fun K hK => ?_); go_simp; refine hK.out _ ?_; clear hK K)
      (refine wpV_go 12 rfl (fun K hK => ?_); go_simp; refine hK.out _ ?_; clear hK K)
      (refine wpV_go 13 rfl (fun K hK => ?_); go_simp; refine hK.out _ ?_; clear hK K)
      (refine wpV_go 14 rfl (fun K hK => ?_); go_simp; refine hK.out _ ?_; clear hK K)
      (refine wpV_f32 15 rfl (drewC _) _ _ _ _ _ rfl rfl rfl rfl (by decide) (by first | assumption | exact Is32.c (by decide)) (by first | assumption | exact Is32.c (by decide)) rfl ?_; intro z14 hz14)
      (refine wpV_f32 16 rfl (drewC _) _ _ _ _ _ rfl rfl rfl rfl (by decide) (by first | assumption | exact Is32.c (by decide)) (by first | assumption | exact Is32.c (by decide)) rfl ?_; intro z15 hz15)
      (refine wpV_go 17 rfl (fun K hK => ?_); go_simp; refine hK.out _ ?_; clear hK K)
      (refine wpV_go 18 rfl (fun K hK => ?_); go_simp; refine hK.out _ ?_; clear hK K)
      (refine wpV_go 19 rfl (fun K hK => ?_); go_simp; refine hK.out _ ?_; clear hK K)
      (refine wpV_go 20 rfl (fun K hK => ?_); go_simp; refine hK.out _ ?_; clear hK K)
      (refine wpV_go 21 rfl (fun K hK => ?_); go_simp; refine hK.out _ ?_; clear hK K)
      (refine wpV_go 22 rfl (fun K hK => ?_); go_simp; refine hK.out _ ?_; clear hK K)
      (refine wpV_f32 23 rfl (drewC _) _ _ _ _ _ rfl rfl rfl rfl (by decide) (by first | assumption | exact Is32.c (by decide)) (by first | assumption | exact Is32.c (by decide)) rfl ?_; intro z22 hz22)
      (refine wpV_f32 24 rfl (drewC _) _ _ _ _ _ rfl rfl rfl rfl (by decide) (by first | assumption | exact Is32.c (by decide)) (by first | assumption | exact Is32.c (by decide)) rfl ?_; intro z23 hz23)
      (refine wpV_go 25 rfl (fun K hK => ?_); go_simp; refine hK.out _ ?_; clear hK K)
      refine wpV_nil ?_
      rintro w9 ⟨q9, rfl⟩
      try simp only [List.drop]
      go_wp2_with fail
      go_roundw
      case rel => exact ⟨m + 1, ls ++ [y], z23, hlt, by go_num, Lib.hid (by rw [List.length_append, List.length_singleton, HL.out]), Lib.hid (by rw [rtL_succ]; exact HIs.out.snoc (by show Is32 (rtIt N B K FF X (m + 1)) z23; unfold rtIt; rw [HX1.out, HX0.out]; exact hz23)), Lib.hid (by show Is32 (rtIt N B K FF X (m + 1)) z23; unfold rtIt; rw [HX1.out, HX0.out]; exact hz23), Lib.hid (by have h9 := (HR.out.drewN q9).store Hlen.out.symm (m + 1) z23; have h8 := fill_set (ls ++ [y]) X.length z23 (by rw [List.length_append, List.length_singleton, HL.out]; exact hlt); rw [List.length_append, List.length_singleton, HL.out] at h8; rw [List.length_append, List.length_singleton, HL.out, h8] at h9; exact h9), Lib.hid ((beld HBk.out q9).setCell (by show w.heap.size ≤ gb; omega) _)⟩
      case measure => simp [intOf]; omega
    · have hmX : X.length = m + 1 := by omega
      have hnl : ¬ ((m : Int) + 1 < (X.length : Int)) := by omega
      have hrow := HR.out
      rw [show (ls ++ [y]) ++ List.replicate (X.length - (ls ++ [y]).length) 0 = ls ++ [y] from fill_all _ _ (by rw [List.length_append, List.length_singleton, HL.out]; omega)] at hrow
      have hlz : (ls ++ [y]).length = X.length := by rw [List.length_append, List.length_singleton, HL.out]; omega
      have Hlz := Lib.hid hlz
      have hrf : RowF .f32 wr (some ⟨gb, 0, none⟩) (ls ++ [y]) := by have h9 := hrow; rw [← Hlz.out] at h9; exact (FRow.mk h9).row
      have HRF := Lib.hid hrf
      have HRow := Lib.hid hrow
      have HmX := Lib.hid hmX
      clear hrow hlz hrf hmX
      go_wp2_with fail
      refine (Hlz.out ▸ finiteRow_f (some ⟨gb, 0, none⟩) X.length (ls ++ [y]) _ HRF.out (by rw [Hlz.out]; exact hl) HIs.out.lt : Calls Try.prog 68 #[.slice (some ⟨gb, 0, none⟩) X.length X.length, .func (.func 55) #[] #[]] _ (fun e w' => e = .returned (.tuple #[if (ls ++ [y]).all fin32 then .slice (some ⟨gb, 0, none⟩) X.length X.length else .slice none 0 0, .bool ((ls ++ [y]).all fin32)]) ∧ Below wr.heap.size wr w')).mono ?_
      rintro e w9 ⟨rfl, hb⟩
      have HB9 := Lib.hid (HBk.out.trans (hb.mono HBk.out.size))
      have HRow9 := Lib.hid (HRow.out.below hb (Nat.le_refl _))
      have hall := HIs.out.fin
      have hex := HIs.out.exact
      rw [← HmX.out] at hall hex
      have HEx := Lib.hid hex
      have HAll := Lib.hid hall
      clear hb hall hex
      rw [HAll.out]
      obtain ⟨bb, hbb⟩ : ∃ bb, (rtL N B K FF X X.length).all fin32o = bb := ⟨_, rfl⟩
      rw [hbb]
      have HBB := Lib.hid hbb
      clear hbb
      cases bb
      · go_wp2_with fail
        go_ret2
        rw [HV.out]
        unfold rowO
        rw [HBB.out]
        exact ListB.no HB9.out
      · go_wp2_with fail
        go_ret2
        rw [HV.out]
        unfold rowO
        rw [HBB.out, if_pos rfl, ← HEx.out HBB.out]
        exact ListB.yes (lo := w.heap.size + 1) HRow9.out (by omega) (by rw [Hlz.out]; exact hl) HB9.out

end Go.Proofs.Ytdoecpghlfjhiaa
