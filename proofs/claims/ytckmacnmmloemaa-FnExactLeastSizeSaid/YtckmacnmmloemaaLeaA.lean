/- The least size of a dam: values. -/
import Derived.Test.YtckmacnmmloemaaShoV
import Derived.Test.YtckmacnmmloemaaUpI
import Derived.Test.YtckmacnmmloemaaRunS
import Derived.Deep.Cut
import Derived.Test.YtckmacnmmloemaaRvQ
import Derived.Test.YtckmacnmmloemaaShoI
import Derived.Test.YtckmacnmmloemaaOwnI
import Derived.Test.YtckmacnmmloemaaRegMk
import Derived.Test.YtckmacnmmloemaaValRP
namespace Go.Proofs.Ytckmacnmmloemaa
open Go.RowKit
set_option linter.unusedVariables false
set_option linter.unusedSimpArgs false
set_option maxRecDepth 100000
attribute [local irreducible] wpV wpList Code.wp

def setD (M : List Int) (i : Nat) (c : Int) : List Int := ((M.set (i * 4) c).set (i * 4 + 1) (min (M.getD (i * 4 + 1) 0) c)).set (i * 4 + 3) (min (M.getD (i * 4 + 3) 0) c)
theorem setD_length (M : List Int) (i : Nat) (c : Int) : (setD M i c).length = M.length := by unfold setD; simp only [List.length_set]
theorem getD_set (M : List Int) (a b : Nat) (x : Int) (ha : a < M.length) : (M.set a x).getD b 0 = if b = a then x else M.getD b 0 := by
  rw [List.getD_eq_getElem?_getD, set_get _ _ _ _ ha]
  by_cases h : b = a
  · rw [if_pos h, if_pos h]; rfl
  · rw [if_neg h, if_neg h, ← List.getD_eq_getElem?_getD]
theorem setD_get {M : List Int} {i n : Nat} (c : Int) (hM : M.length = n * 4) (hi : i < n) (b : Nat) : (setD M i c).getD b 0 = if b = i * 4 + 3 then min (M.getD (i * 4 + 3) 0) c else if b = i * 4 + 1 then min (M.getD (i * 4 + 1) 0) c else if b = i * 4 then c else M.getD b 0 := by
  unfold setD
  rw [getD_set _ _ _ _ (by simp only [List.length_set]; omega), getD_set _ _ _ _ (by simp only [List.length_set]; omega), getD_set _ _ _ _ (by omega)]
theorem rivB_setD {D M V : List Int} {n i : Nat} {c : Int} (h : rivB D M V n = true) (hM : M.length = n * 4) (hi : i < n) (h0 : 0 ≤ c) (h1 : c ≤ 1000000000) : rivB D (setD M i c) V n = true := by
  obtain ⟨k1, k2, k3⟩ := rivB_true h
  have hd := @rivB_dam D M V n h
  unfold rivB at h ⊢
  simp only [Bool.and_eq_true] at h ⊢
  refine ⟨⟨h.1.1, ?_⟩, h.2⟩
  rw [List.all_eq_true]
  intro j hj
  have hjd : j < D.length := List.mem_range.1 hj
  have hr := k2 j hjd
  unfold rowB at hr ⊢
  rw [Bool.and_eq_true, Bool.and_eq_true] at hr ⊢
  refine ⟨⟨hr.1.1, ?_⟩, hr.2⟩
  rw [setD_get c hM hi, setD_get c hM hi, setD_get c hM hi, setD_get c hM hi]
  by_cases e : j = i
  · subst e
    have h9 := hd hi
    rw [if_neg (by omega), if_neg (by omega), if_pos rfl, if_neg (by omega), if_pos rfl, if_neg (by omega), if_neg (by omega), if_neg (by omega), if_pos rfl]
    unfold damB unitB inB
    simp only [Bool.and_eq_true, decide_eq_true_eq]
    omega
  · rw [if_neg (by omega), if_neg (by omega), if_neg (by omega), if_neg (by omega), if_neg (by omega), if_neg (by omega), if_neg (by omega), if_neg (by omega), if_neg (by omega), if_neg (by omega), if_neg (by omega), if_neg (by omega)]
    exact hr.1.2
def enB (D M V : List Int) (Zs : List (List Int)) (n i : Nat) (c : Int) : Bool := decide (shoV (runTo D (setD M i c) V Zs n Zs.length).G V i Zs.length = 0)
/-- By halves. -/
def leaTo (e : Int → Bool) : Nat → Int → Int → Int
  | 0, _, high => high
  | f + 1, low, high => if low + 1 < high then (if e ((low + high) / 2) then leaTo e f low ((low + high) / 2) else leaTo e f ((low + high) / 2) high) else high
theorem leaTo_fuel (e : Int → Bool) : ∀ (f g : Nat) (low high : Int), (high - low).toNat ≤ f → (high - low).toNat ≤ g → leaTo e f low high = leaTo e g low high
  | 0, 0, _, _, _, _ => rfl
  | 0, g + 1, low, high, h, _ => by unfold leaTo; rw [if_neg (by omega)]
  | f + 1, 0, low, high, _, h => by unfold leaTo; rw [if_neg (by omega)]
  | f + 1, g + 1, low, high, h1, h2 => by
    unfold leaTo
    by_cases hc : low + 1 < high
    · rw [if_pos hc, if_pos hc, leaTo_fuel e f g low ((low + high) / 2) (by omega) (by omega), leaTo_fuel e f g ((low + high) / 2) high (by omega) (by omega)]
    · rw [if_neg hc, if_neg hc]
def leaG (e : Int → Bool) (low high : Int) : Int := leaTo e (high - low).toNat low high
theorem leaG_step (e : Int → Bool) {low high : Int} (h : low + 1 < high) : leaG e low high = if e ((low + high) / 2) then leaG e low ((low + high) / 2) else leaG e ((low + high) / 2) high := by
  obtain ⟨m, hm⟩ : ∃ m, (high - low).toNat = m + 1 := ⟨(high - low).toNat - 1, by omega⟩
  unfold leaG
  rw [hm]
  show (if low + 1 < high then (if e ((low + high) / 2) then leaTo e m low ((low + high) / 2) else leaTo e m ((low + high) / 2) high) else high) = _
  rw [if_pos h, leaTo_fuel e m ((low + high) / 2 - low).toNat low ((low + high) / 2) (by omega) (Nat.le_refl _), leaTo_fuel e m (high - (low + high) / 2).toNat ((low + high) / 2) high (by omega) (Nat.le_refl _)]
theorem leaG_end (e : Int → Bool) {low high : Int} (h : ¬ low + 1 < high) : leaG e low high = high := by
  unfold leaG
  cases hm : (high - low).toNat with
  | zero => rfl
  | succ m => unfold leaTo; rw [if_neg h]
def leaR (D M V : List Int) (n : Nat) (Zs : List (List Int)) (i most : Int) : Int × Bool := if nodeB D M V n i && (decide (Zs.length ≤ 64) && daysB Zs n) && unitB most && enB D M V Zs n i.toNat most then (leaG (enB D M V Zs n i.toNat) (-1) most, true) else (0, false)

end Go.Proofs.Ytckmacnmmloemaa
namespace Go.Proofs.Ytckmacnmmloemaa
open Go.RowKit
set_option linter.unusedVariables false
set_option linter.unusedSimpArgs false
set_option maxRecDepth 100000
attribute [local irreducible] wpV wpList Code.wp

set_option maxHeartbeats 16000000 in
theorem l06Enough_any (pa b0 o0 b1 o1 b2 o2 n c0 c1 c2 i : Nat) (a : Option Addr) (len cap : Nat) (D M V : List Int) (Zs : List (List Int)) (c : Int) (w : World) (hs : Src w b0 o0 b1 o1 b2 o2 n D M V) (hpa : Bx w pa [.slice (some ⟨b0, o0, none⟩) n c0, .slice (some ⟨b1, o1, none⟩) n c1, .slice (some ⟨b2, o2, none⟩) n c2]) (h : RowSS w a Zs) (hlen : Zs.length = len) (hdy : daysB Zs n = true) (hl : len ≤ 64) (hn12 : n ≤ 12) (hr : ∀ j, j < D.length → -1 ≤ D.getD j 0 ∧ D.getD j 0 ≤ (D.length : Int) - 1) (ha : acycB D = true) (hi : i < n) :
    Calls Try.prog 73 #[.pointer (some ⟨pa, 0, none⟩), .int .i64 (i : Int), .slice a len cap, .int .i64 c] w fun e w' => e = .returned (.bool (enB D M V Zs n i c)) ∧ Below w.heap.size w w' := by
  obtain ⟨bb, hbb⟩ : ∃ b, enB D M V Zs n i c = b := ⟨_, rfl⟩
  rw [hbb]
  have HSrc := Lib.hid hs
  have H := Lib.hid h
  have Hlen := Lib.hid hlen
  have HDy := Lib.hid hdy
  have HRg := Lib.hid hr
  have HAc := Lib.hid ha
  have hn1 := hs.pos
  have hMl := hs.n1
  have HM := Lib.hid hMl
  have hi0 : (0 : Int) ≤ (i : Int) := by omega
  have hi1 : (i : Int) < (n : Int) := by omega
  have HOw := Lib.hid (l06Own_any pa b0 o0 b1 o1 b2 o2 n c0 c1 c2 D M V w hs hpa)
  clear hs hpa h hlen hdy hr ha hMl
  have hmm : n ≤ 1048576 := by omega
  go_enter Try.func73, Try.ntmps73
  go_wp2_with fail
  refine HOw.out.mono ?_
  rintro e w2 ⟨lo, g0, g1, g2, d0, d1, d2, rfl, hr0, hr1, hr2, n01, n02, n12, hlo, hb⟩
  clear HOw
  go_upto_region 2 with fail
  obtain ⟨t, ht⟩ : ∃ t, w2.heap.size = t := ⟨_, rfl⟩
  generalize hW3 : World.alloc w2 _ = W3
  (try rw [ht])
  have hb3 : Below w2.heap.size w2 W3 := by rw [← hW3]; exact below1 w2 _
  have HT3 : Hid (Bx W3 t [.slice (some ⟨g0, 0, none⟩) n d0, .slice (some ⟨g1, 0, none⟩) n d1, .slice (some ⟨g2, 0, none⟩) n d2]) := Lib.hid (by rw [← hW3, ← ht]; exact Bx.new w2 [.slice (some ⟨g0, 0, none⟩) n d0, .slice (some ⟨g1, 0, none⟩) n d1, .slice (some ⟨g2, 0, none⟩) n d2] _)
  have HB3 : Hid (Below w.heap.size w W3) := Lib.hid (hb.trans (hb3.mono hb.size))
  have HQ0 := Lib.hid (owns_below hr0 hb3 (Nat.le_refl _))
  have HQ1 := Lib.hid (owns_below hr1 hb3 (Nat.le_refl _))
  have HQ2 := Lib.hid (owns_below hr2 hb3 (Nat.le_refl _))
  have HN : Hid (g0 ≠ g1 ∧ g0 ≠ g2 ∧ g1 ≠ g2 ∧ w.heap.size ≤ lo ∧ lo ≤ g0 ∧ lo ≤ g1 ∧ lo ≤ g2 ∧ g0 < t ∧ g1 < t ∧ g2 < t) := Lib.hid (by have k0 := hr0.lt g0 rfl; have k1 := hr1.lt g1 rfl; have k2 := hr2.lt g2 rfl; omega)
  clear hW3 hb hb3 hr0 hr1 hr2 n01 n02 n12 hlo ht
  have x1 := HT3.out.c 1 rfl
  obtain ⟨v0, hv0⟩ : ∃ x, M.getD (i * 4 + 0) 0 = x := ⟨_, rfl⟩
  obtain ⟨v1, hv1⟩ : ∃ x, M.getD (i * 4 + 1) 0 = x := ⟨_, rfl⟩
  obtain ⟨v2, hv2⟩ : ∃ x, M.getD (i * 4 + 2) 0 = x := ⟨_, rfl⟩
  obtain ⟨v3, hv3⟩ : ∃ x, M.getD (i * 4 + 3) 0 = x := ⟨_, rfl⟩
  rw [Nat.add_zero] at hv0
  have y0 := HQ1.out.cellAt (i * 4) (by omega)
  rw [ic_at (by rw [HM.out]; omega), hv0] at y0
  have f0 := HQ1.out.frozenAt (i * 4)
  have y1 := HQ1.out.cellAt (i * 4 + 1) (by omega)
  rw [ic_at (by rw [HM.out]; omega), hv1] at y1
  have f1 := HQ1.out.frozenAt (i * 4 + 1)
  have y2 := HQ1.out.cellAt (i * 4 + 2) (by omega)
  rw [ic_at (by rw [HM.out]; omega), hv2] at y2
  have f2 := HQ1.out.frozenAt (i * 4 + 2)
  have y3 := HQ1.out.cellAt (i * 4 + 3) (by omega)
  rw [ic_at (by rw [HM.out]; omega), hv3] at y3
  have f3 := HQ1.out.frozenAt (i * 4 + 3)
  have HV1 := Lib.hid hv1
  have HV3 := Lib.hid hv3
  clear hv0 hv1 hv2 hv3
  go_wp2_with fail
  refine (l00Min_any v1 c _).mono ?_
  rintro e w9 ⟨rfl, rfl⟩
  go_wp2_with fail
  refine (l00Min_any v3 c _).mono ?_
  rintro e w9 ⟨rfl, rfl⟩
  go_upto_region 6 with fail
  generalize hW4 : World.setCell _ _ _ = W4
  have hk4 : Kept g1 (g1 + 1) W3 W4 := by rw [← hW4]; exact (((Kept.set W3 ⟨g1, i * 4, none⟩ (.int .i64 c) ⟨Nat.le_refl _, Nat.lt_succ_self _⟩).trans (Kept.set _ ⟨g1, i * 4 + 1, none⟩ (.int .i64 (min v1 c)) ⟨Nat.le_refl _, Nat.lt_succ_self _⟩)).trans (Kept.set _ ⟨g1, i * 4 + 3, none⟩ (.int .i64 (min v3 c)) ⟨Nat.le_refl _, Nat.lt_succ_self _⟩))
  have hq1 : W4.ownsRow lo 98 4 (.slice (some ⟨g1, 0, none⟩) n d1) n (ic (setD M i c)) := by
    have h9 := (((HQ1.out.stored (i * 4) (.int .i64 c)).1.stored (i * 4 + 1) (.int .i64 (min v1 c))).1.stored (i * 4 + 3) (.int .i64 (min v3 c))).1
    rw [← ic_set, ← ic_set, ← ic_set] at h9
    unfold setD
    rw [HV1.out, HV3.out, ← hW4]
    exact h9
  have HU0 : Hid (W4.ownsRow lo 2 1 (.slice (some ⟨g0, 0, none⟩) n d0) n (ic D)) := Lib.hid (ownsRow_sameG HQ0.out fun b hb9 => hk4.block b (by have e9 : g0 = b := Option.some.inj hb9; have h9 := HN.out; omega) (HQ0.out.lt b hb9).2)
  have HU2 : Hid (W4.ownsRow lo 2 1 (.slice (some ⟨g2, 0, none⟩) n d2) n (ic V)) := Lib.hid (ownsRow_sameG HQ2.out fun b hb9 => hk4.block b (by have e9 : g2 = b := Option.some.inj hb9; have h9 := HN.out; omega) (HQ2.out.lt b hb9).2)
  have HU1 := Lib.hid hq1
  have HT4 := Lib.hid (HT3.out.kept hk4 (by have h9 := HN.out; omega))
  have HB4 : Hid (Below w.heap.size w W4) := Lib.hid (HB3.out.trans (hk4.below (by have h9 := HN.out; omega) HB3.out.size))
  clear hW4 hk4 hq1 HQ0 HQ1 HQ2 HT3 HB3 x1 y0 y1 y2 y3 f0 f1 f2 f3
  have HRn := Lib.hid (l06Run_any t g0 0 g1 0 g2 0 n d0 d1 d2 a len cap D (setD M i c) V Zs W4 (Src.own HU0.out HU1.out HU2.out hn1 hmm) HT4.out (H.out.below HB4.out (Nat.le_refl _)) Hlen.out HDy.out hl hn12 HRg.out HAc.out)
  have hq9 := runTo_len (D := D) (V := V) (Zs := Zs) (M := setD M i c) (by rw [setD_length]; exact HM.out) len (fun j hj => (daysB_at HDy.out (show j < Zs.length by rw [Hlen.out]; exact hj)).1)
  have hen : enB D M V Zs n i c = decide (shoV (runTo D (setD M i c) V Zs n len).G V i len = 0) := by unfold enB; rw [Hlen.out]
  rw [hbb] at hen
  obtain ⟨Q, hQ⟩ : ∃ Q, runTo D (setD M i c) V Zs n len = Q := ⟨_, rfl⟩
  rw [hQ] at HRn hq9 hen
  obtain ⟨-, hq2, -, hq4⟩ := hq9
  have HQ2 := Lib.hid hq2
  have HQ4 := Lib.hid hq4
  have Hen := Lib.hid hen
  clear hen hbb hQ hq2 hq4
  go_wp2_with fail
  refine HRn.out.mono ?_
  rintro e w5 ⟨lo5, f0, f1, f2, y0, y1, y2, ga, gc, za, zc, rfl, -, -, -, -, -, -, hss, -, -, hb⟩
  clear HRn
  have HT5 := Lib.hid (HT4.out.below hb HT4.out.1)
  have HB5 : Hid (Below w.heap.size w w5) := Lib.hid (HB4.out.trans (hb.mono HB4.out.size))
  have HU5 := Lib.hid (owns_row (owns_below HU2.out hb (Nat.le_refl _)))
  have HG5 := Lib.hid hss.row
  clear hb hss HT4 HB4 HU0 HU1 HU2
  go_upto_region 7 with fail
  generalize hW6 : World.alloc w5 _ = W6
  have hb6 : Below w5.heap.size w5 W6 := by rw [← hW6]; exact below1 w5 _
  have HB6 : Hid (Below w.heap.size w W6) := Lib.hid (HB5.out.trans (hb6.mono HB5.out.size))
  have HVl : Hid (V.length = n) := Lib.hid HSrc.out.n2
  have HSh := Lib.hid (l06Short_any t n len gc d2 i _ _ ga (some ⟨g2, 0, none⟩) Q.G V W6 (HT5.out.below hb6 HT5.out.1) (HU5.out.below hb6 (Nat.le_refl _)) HVl.out (HG5.out.below hb6 (Nat.le_refl _)) HQ2.out HQ4.out hi hn12 hl)
  clear hW6 hb6 HT5 HB5 HU5 HG5
  obtain ⟨z, hz⟩ : ∃ z, shoV Q.G V i len = z := ⟨_, rfl⟩
  rw [hz] at HSh
  have he9 := Hen.out
  rw [hz] at he9
  have HE9 := Lib.hid he9
  clear hz he9
  go_wp2_with fail
  refine HSh.out.mono ?_
  rintro e w7 ⟨rfl, hb7⟩
  have HB7 : Hid (Below w.heap.size w w7) := Lib.hid (HB6.out.trans (hb7.mono HB6.out.size))
  clear hb7 HSh
  go_wp2_with fail
  go_ret
  exact ⟨by rw [HE9.out]; first | done | rfl | (congr 3; done) | simp, HB7.out⟩

end Go.Proofs.Ytckmacnmmloemaa
namespace Go.Proofs.Ytckmacnmmloemaa
open Go.RowKit
set_option linter.unusedVariables false
set_option linter.unusedSimpArgs false
set_option maxRecDepth 100000
attribute [local irreducible] wpV wpList Code.wp

set_option maxHeartbeats 16000000 in
theorem leastSize_s (a0 a1 a2 sa : Option Addr) (l0 n l2 c0 c1 c2 len sc : Nat) (D M V : List Int) (Zs : List (List Int)) (i most : Int) (w : World) (hwi : (Lit.int .i64 i).wf = true) (hwm : (Lit.int .i64 most).wf = true) (h0 : RowC w a0 (ic D)) (h1 : RowC w a1 (ic M)) (h2 : RowC w a2 (ic V)) (hD : D.length = l0) (hM : M.length = n * 4) (hV : V.length = l2) (hl : l0 ≤ 1048576 ∧ n ≤ 1048576 ∧ l2 ≤ 1048576) (h : RowSS w sa Zs) (hlen : Zs.length = len) (hrl : ∀ k, k < len → (zr Zs k).length ≤ 1048576) (hll : len ≤ 1048576) :
    Calls Try.prog 34 #[.agg #[.slice a0 l0 c0, .slice a1 n c1, .slice a2 l2 c2], .int .i64 i, .slice sa len sc, .int .i64 most] w (SayZB (leaR D M V n Zs i most) w) := by
  obtain ⟨R, hR⟩ : ∃ R, leaR D M V n Zs i most = R := ⟨_, rfl⟩
  rw [hR]
  have HR := Lib.hid hR
  clear hR
  have hbx := Bx.new w [.slice a0 l0 c0, .slice a1 n c1, .slice a2 l2 c2] 29
  have hbl := bel1 w (.cells #[.slice a0 l0 c0, .slice a1 n c1, .slice a2 l2 c2] 29)
  obtain ⟨W1, hW1⟩ : ∃ W, w.alloc (.cells #[.slice a0 l0 c0, .slice a1 n c1, .slice a2 l2 c2] 29) = W := ⟨_, rfl⟩
  have HX1 : Hid (Bx W1 w.heap.size [.slice a0 l0 c0, .slice a1 n c1, .slice a2 l2 c2]) := Lib.hid (by rw [← hW1]; exact hbx)
  have HB1 : Hid (Below w.heap.size w W1) := Lib.hid (by rw [← hW1]; exact hbl)
  clear hbx hbl
  have HH := Lib.hid (l06Has_any w.heap.size a0 a1 a2 l0 n l2 c0 c1 c2 D M V i W1 HX1.out (h0.below HB1.out (Nat.le_refl _)) (h1.below HB1.out (Nat.le_refl _)) (h2.below HB1.out (Nat.le_refl _)) hD hM hV hl hwi)
  obtain ⟨nb, hnb⟩ : ∃ b, nodeB D M V n i = b := ⟨_, rfl⟩
  rw [hnb] at HH
  have HNB := Lib.hid hnb
  have H0 := Lib.hid h0
  have H1 := Lib.hid h1
  have H2 := Lib.hid h2
  have H := Lib.hid h
  have Hlen := Lib.hid hlen
  have Hrl := Lib.hid hrl
  have HD := Lib.hid hD
  have HM := Lib.hid hM
  have HVl := Lib.hid hV
  have HL := Lib.hid hl
  clear h0 h1 h2 hD hM hV hl h hlen hrl hnb hwi hwm
  go_enter Try.func34, Try.ntmps34
  go_upto_region 1 with fail
  (try rw [hW1])
  clear hW1
  go_wp2_with fail
  refine HH.out.mono ?_
  rintro e w2 ⟨rfl, m2, hw2⟩
  have hb2 : Below W1.heap.size W1 w2 := by rw [hw2]; exact below_drewN (Below.refl _ _) _
  have HB2 : Hid (Below w.heap.size w w2) := Lib.hid (HB1.out.trans (hb2.mono HB1.out.size))
  have HX2 := Lib.hid (HX1.out.below hb2 HX1.out.1)
  clear HH hw2 hb2 HX1 HB1
  cases nb
  · have hv : R = (0, false) := by rw [← HR.out]; unfold leaR; rw [HNB.out]; rfl
    have HV := Lib.hid hv
    clear hv
    go_wp2_with fail
    rw [HV.out]
    exact bodyPost_ret (v := .tuple #[.int .i64 0, .bool false]) (by first | (simp [results, Try.results34, go_sem]; done) | (simp (maxDischargeDepth := 12) [results, Try.results34, go_sem]; done) | (simp (maxDischargeDepth := 12) [results, Try.results34, go_sem]; rfl)) rfl ⟨rfl, HB2.out⟩
  · have hnn := HNB.out
    unfold nodeB at hnn
    rw [Bool.and_eq_true, Bool.and_eq_true, decide_eq_true_eq, decide_eq_true_eq] at hnn
    obtain ⟨hrb, hi0, hi1⟩ := hnn
    have HBB := Lib.hid hrb
    have h9 := rivB_true hrb
    have HT := Lib.hid h9
    have h0n : l0 = n := by have h8 := HD.out; have h7 := h9.1; omega
    have h2n : l2 = n := by have h8 := HVl.out; have h7 := h9.1; omega
    have h12 : n ≤ 12 := by have h7 := h9.1; omega
    have hn1 : 0 < n := by have h7 := h9.1; omega
    clear h9 hrb
    obtain rfl : n = l0 := h0n.symm
    obtain rfl : n = l2 := h2n.symm
    obtain ⟨j, rfl⟩ : ∃ j : Nat, i = (j : Int) := ⟨i.toNat, by omega⟩
    have hjn : j < n := by omega
    clear hi0 hi1
    have x0 := HX2.out.c 0 rfl
    obtain ⟨bd, hbd⟩ : ∃ b, (decide (len ≤ 64) && daysB Zs n) = b := ⟨_, rfl⟩
    have HDd := Lib.hid (l06Days_any sa len sc n Zs w2 (H.out.below HB2.out (Nat.le_refl _)) Hlen.out Hrl.out hll (by omega))
    rw [hbd] at HDd
    have HBD := Lib.hid hbd
    clear hbd
    go_wp2_with fail
    refine HDd.out.mono ?_
    rintro e w3 ⟨rfl, rfl⟩
    clear HDd x0
    cases bd
    · have hv : R = (0, false) := by rw [← HR.out]; unfold leaR; rw [Hlen.out, HBD.out]; simp
      have HV := Lib.hid hv
      clear hv
      go_wp2_with fail
      rw [HV.out]
      exact bodyPost_ret (v := .tuple #[.int .i64 0, .bool false]) (by first | (simp [results, Try.results34, go_sem]; done) | (simp (maxDischargeDepth := 12) [results, Try.results34, go_sem]; done) | (simp (maxDischargeDepth := 12) [results, Try.results34, go_sem]; rfl)) rfl ⟨rfl, HB2.out⟩
    · have hbd := HBD.out
      rw [Bool.and_eq_true, decide_eq_true_eq] at hbd
      obtain ⟨h64, hdy⟩ := hbd
      have HDY := Lib.hid hdy
      clear hdy
      go_wp2_with fail
      refine (l06Unit_any most _).mono ?_
      rintro e w8 ⟨bu, hbu, rfl, rfl⟩
      have HBU := Lib.hid hbu
      clear hbu
      cases bu
      · have hv : R = (0, false) := by rw [← HR.out]; unfold leaR; rw [HBU.out]; simp
        have HV := Lib.hid hv
        clear hv
        go_wp2_with fail
        rw [HV.out]
        exact bodyPost_ret (v := .tuple #[.int .i64 0, .bool false]) (by first | (simp [results, Try.results34, go_sem]; done) | (simp (maxDischargeDepth := 12) [results, Try.results34, go_sem]; done) | (simp (maxDischargeDepth := 12) [results, Try.results34, go_sem]; rfl)) rfl ⟨rfl, HB2.out⟩
      · have hmu := HBU.out
        unfold unitB at hmu
        rw [Bool.and_eq_true, decide_eq_true_eq, decide_eq_true_eq] at hmu
        obtain ⟨hm0, hm1⟩ := hmu
        obtain ⟨ba, oa, b1, o1, b3, o3, rfl, rfl, rfl, hsrc⟩ := Src.of H0.out H1.out H2.out HD.out HM.out HVl.out hn1 (by omega)
        have HSrc := Lib.hid hsrc
        clear hsrc
        have HEn : Hid (∀ (c : Int) (W : World), Below w3.heap.size w3 W → Calls Try.prog 73 #[.pointer (some ⟨w.heap.size, 0, none⟩), .int .i64 (j : Int), .slice sa len sc, .int .i64 c] W fun e w' => e = .returned (.bool (enB D M V Zs n j c)) ∧ Below W.heap.size W w') := Lib.hid fun c W hW => l06Enough_any w.heap.size ba oa b1 o1 b3 o3 n c0 c1 c2 j sa len sc D M V Zs c W (HSrc.out.below (HB2.out.trans (hW.mono HB2.out.size)) (Nat.le_refl _)) (HX2.out.below hW HX2.out.1) (H.out.below (HB2.out.trans (hW.mono HB2.out.size)) (Nat.le_refl _)) Hlen.out HDY.out h64 h12 (rivB_range HBB.out) (by unfold acycB; rw [List.all_eq_true]; intro q hq; rw [decide_eq_true_eq]; exact HT.out.2.2 q (List.mem_range.1 hq)) hjn
        obtain ⟨E, hE⟩ : ∃ E, enB D M V Zs n j = E := ⟨_, rfl⟩
        have HE := Lib.hid hE
        simp only [hE] at HEn
        clear hE
        have HEm := Lib.hid (HEn.out most w3 (Below.refl _ _))
        obtain ⟨be, hbe⟩ : ∃ b, E most = b := ⟨_, rfl⟩
        rw [hbe] at HEm
        have HBE := Lib.hid hbe
        clear hbe
        go_wp2_with fail
        refine HEm.out.mono ?_
        rintro e w4 ⟨rfl, hb4⟩
        have HB4 : Hid (Below w.heap.size w w4) := Lib.hid (HB2.out.trans (hb4.mono HB2.out.size))
        have HW4 := Lib.hid hb4
        clear HEm hb4
        cases be
        · have hv : R = (0, false) := by rw [← HR.out]; unfold leaR; rw [Int.toNat_natCast, HE.out, HBE.out]; simp
          have HV := Lib.hid hv
          clear hv
          go_wp2_with fail
          rw [HV.out]
          exact bodyPost_ret (v := .tuple #[.int .i64 0, .bool false]) (by first | (simp [results, Try.results34, go_sem]; done) | (simp (maxDischargeDepth := 12) [results, Try.results34, go_sem]; done) | (simp (maxDischargeDepth := 12) [results, Try.results34, go_sem]; rfl)) rfl ⟨rfl, HB4.out⟩
        · have hv : R = (leaG E (-1) most, true) := by rw [← HR.out]; unfold leaR; rw [HNB.out, Hlen.out, HBD.out, HBU.out, Int.toNat_natCast, HE.out, HBE.out]; rfl
          have HV := Lib.hid hv
          clear hv
          obtain ⟨T, hT⟩ : ∃ T, leaG E (-1) most = T := ⟨_, rfl⟩
          rw [hT] at HV
          have HT9 := Lib.hid hT
          clear hT
          go_wp2_with fail
          go_loopw [10, 11] (fun lv hv wr => ∃ low high : Int, lv = .int .i64 low ∧ hv = .int .i64 high ∧ Hid (leaG E low high = T) ∧ Hid (-1 ≤ low ∧ low < high ∧ high ≤ 1000000000) ∧ Hid (Below w3.heap.size w3 wr)) (fun lv hv _ => (intOf hv - intOf lv).toNat)
          case atStart => exact ⟨-1, most, rfl, rfl, HT9, Lib.hid ⟨Int.le_refl _, by omega, hm1⟩, HW4⟩
          case round =>
          obtain ⟨low, high, rfl, rfl, HG, HLH, HW⟩ := hrel
          obtain ⟨k1, k2, k3⟩ := HLH.out
          by_cases hlt : low + 1 < high
          · have hst := leaG_step E hlt
            rw [HG.out] at hst
            obtain ⟨c, hc⟩ : ∃ c, (low + high) / 2 = c := ⟨_, rfl⟩
            have hc2 : low + (high - low) / 2 = c := by omega
            have hc3 : low < c ∧ c < high := by omega
            rw [hc] at hst
            have HC := Lib.hid (HEn.out c wr HW.out)
            obtain ⟨bc, hbc⟩ : ∃ b, E c = b := ⟨_, rfl⟩
            rw [hbc] at HC hst
            have Hst := Lib.hid hst
            have hdv : 0 ≤ high - low ∧ high - low ≤ 1000000001 := by omega
            clear hst hc hbc
            go_wp2_with fail
            refine HC.out.mono ?_
            rintro e w5 ⟨rfl, hb5⟩
            have HW5 : Hid (Below w3.heap.size w3 w5) := Lib.hid (HW.out.trans (hb5.mono HW.out.size))
            clear HC hb5
            cases bc
            · have HG1 : Hid (leaG E c high = T) := Lib.hid Hst.out.symm
              go_wp2_with fail
              go_roundw
              case rel => exact ⟨c, high, rfl, rfl, HG1, Lib.hid ⟨by omega, by omega, k3⟩, HW5⟩
              case measure => simp [intOf]; omega
            · have HG1 : Hid (leaG E low c = T) := Lib.hid Hst.out.symm
              go_wp2_with fail
              go_roundw
              case rel => exact ⟨low, c, rfl, rfl, HG1, Lib.hid ⟨k1, by omega, by omega⟩, HW5⟩
              case measure => simp [intOf]; omega
          · have hend := leaG_end E hlt
            rw [HG.out] at hend
            subst hend
            go_wp2_with fail
            rw [HV.out]
            exact bodyPost_ret (v := .tuple #[.int .i64 T, .bool true]) (by first | (simp [results, Try.results34, go_sem, *]; done) | (simp (maxDischargeDepth := 12) [results, Try.results34, go_sem, *]; done) | (simp (maxDischargeDepth := 12) [results, Try.results34, go_sem, *]; rfl)) rfl ⟨rfl, HB2.out.trans (HW.out.mono HB2.out.size)⟩

end Go.Proofs.Ytckmacnmmloemaa
namespace Go.Proofs.Ytckmacnmmloemaa
open Go.RowKit
set_option linter.unusedVariables false
set_option linter.unusedSimpArgs false
set_option maxRecDepth 100000
attribute [local irreducible] wpV wpList Code.wp

structure leaSS (w0 : World) (t0_ t1_ t2_ t3_ t4_ t5_ t8_ t9_ t17_ t18_ t19_ t20_ t21_ t22_ t23_ t24_ t25_ t26_ t27_ t28_ t29_ t30_ t31_ t32_ t33_ t34_ t35_ t36_ t37_ t38_ t39_ t40_ t41_ t42_ t43_ t44_ t45_ t46_ : Value) (pc b0 o0 b1 o1 b2 o2 n c0 c1 c2 i : Nat) (D M V : List Int) (s dd l q : Int) (d : Array Bool) (a : Act) (w9 : World) where
  u6 : Value
  u7 : Value
  u10 : Value
  u11 : Value
  u12 : Value
  u13 : Value
  u14 : Value
  u15 : Value
  u16 : Value
  g0 : Nat
  g1 : Nat
  g2 : Nat
  d0 : Nat
  d1 : Nat
  d2 : Nat
  p6 : Nat
  p7 : Nat
  ea : a = ⟨#[t0_, t1_, t2_, t3_, t4_, t5_, u6, u7, t8_, t9_, u10, u11, u12, u13, u14, u15, u16, t17_, t18_, t19_, t20_, t21_, t22_, t23_, t24_, t25_, t26_, t27_, t28_, t29_, t30_, t31_, t32_, t33_, t34_, t35_, t36_, t37_, t38_, t39_, t40_, t41_, t42_, t43_, t44_, t45_, t46_], []⟩
  f0 : Gd d 0 (u10 = .agg #[.slice (some ⟨b0, o0, none⟩) n c0, .slice (some ⟨b1, o1, none⟩) n c1, .slice (some ⟨b2, o2, none⟩) n c2])
  f1 : Gd d 1 (u11 = .agg #[.slice (some ⟨g0, 0, none⟩) n d0, .slice (some ⟨g1, 0, none⟩) n d1, .slice (some ⟨g2, 0, none⟩) n d2])
  f2 : Gd d 2 (u12 = .pointer (some ⟨pc, 1, none⟩))
  f3 : Gd d 3 (u13 = .slice (some ⟨b1, o1, none⟩) n c1)
  f4 : Gd d 4 (u14 = .int .i64 (i : Int))
  f5 : Gd d 5 (u15 = .pointer (some ⟨b1, o1 + i * 4, none⟩))
  f6 : Gd d 6 (u16 = .agg #[.int .i64 s, .int .i64 dd, .int .i64 l, .int .i64 q])
  f7 : Gd d 7 (u6 = .pointer (some ⟨p6, 0, none⟩))
  f8 : Gd d 8 (u7 = .pointer (some ⟨p7, 0, none⟩))
  rf : Gd d 1 (w9.ownsRow w0.heap.size 2 1 (.slice (some ⟨g0, 0, none⟩) n d0) n (ic D) ∧ w9.ownsRow w0.heap.size 98 4 (.slice (some ⟨g1, 0, none⟩) n d1) n (ic M) ∧ w9.ownsRow w0.heap.size 2 1 (.slice (some ⟨g2, 0, none⟩) n d2) n (ic V))
  rn : Gd d 1 (g0 ≠ g1 ∧ g0 ≠ g2 ∧ g1 ≠ g2)
  s7 : Gd d 7 (w0.heap.size ≤ p6 ∧ p6 < w9.heap.size)
  s8 : Gd d 8 (w0.heap.size ≤ p7 ∧ p7 < w9.heap.size)
  n78 : Gd d 7 (Gd d 8 (p6 ≠ p7))
  nr7 : Gd d 1 (Gd d 7 (p6 ≠ g0 ∧ p6 ≠ g1 ∧ p6 ≠ g2))
  nr8 : Gd d 1 (Gd d 8 (p7 ≠ g0 ∧ p7 ≠ g1 ∧ p7 ≠ g2))
  b7 : Gd d 7 (Ng d 9 (Bw w9 p6 [.slice none 0 0, .slice none 0 0, .slice none 0 0]))
  c7 : Gd d 9 (Bw w9 p6 [.slice (some ⟨g0, 0, none⟩) n d0, .slice (some ⟨g1, 0, none⟩) n d1, .slice (some ⟨g2, 0, none⟩) n d2])
  b8 : Gd d 8 (Ng d 10 (Bw w9 p7 [.int .i64 0, .int .i64 0, .int .i64 0, .int .i64 0]))
  c8 : Gd d 10 (Bw w9 p7 [.int .i64 s, .int .i64 dd, .int .i64 l, .int .i64 q])
  hbel : Below w0.heap.size w0 w9
def leaS (w0 : World) (t0_ t1_ t2_ t3_ t4_ t5_ t8_ t9_ t17_ t18_ t19_ t20_ t21_ t22_ t23_ t24_ t25_ t26_ t27_ t28_ t29_ t30_ t31_ t32_ t33_ t34_ t35_ t36_ t37_ t38_ t39_ t40_ t41_ t42_ t43_ t44_ t45_ t46_ : Value) (pc b0 o0 b1 o1 b2 o2 n c0 c1 c2 i : Nat) (D M V : List Int) (s dd l q : Int) (d : Array Bool) (a : Act) (w9 : World) : Prop := Nonempty (leaSS w0 t0_ t1_ t2_ t3_ t4_ t5_ t8_ t9_ t17_ t18_ t19_ t20_ t21_ t22_ t23_ t24_ t25_ t26_ t27_ t28_ t29_ t30_ t31_ t32_ t33_ t34_ t35_ t36_ t37_ t38_ t39_ t40_ t41_ t42_ t43_ t44_ t45_ t46_ pc b0 o0 b1 o1 b2 o2 n c0 c1 c2 i D M V s dd l q d a w9)

set_option maxHeartbeats 32000000 in
theorem leaClo (pc pi pd b0 o0 b1 o1 b2 o2 n c0 c1 c2 i len sc : Nat) (sa : Option Addr) (D M V : List Int) (Zs : List (List Int)) (c : Int) (w : World) (hs : Src w b0 o0 b1 o1 b2 o2 n D M V) (hpc : Bx w pc [.slice (some ⟨b0, o0, none⟩) n c0, .slice (some ⟨b1, o1, none⟩) n c1, .slice (some ⟨b2, o2, none⟩) n c2]) (hpi : Bx w pi [.int .i64 (i : Int)]) (hpd : Bx w pd [.slice sa len sc]) (h : RowSS w sa Zs) (hlen : Zs.length = len) (hrl : ∀ k, k < len → (zr Zs k).length ≤ 1048576) (hdy : daysB Zs n = true) (hl64 : len ≤ 64) (hrv : rivB D M V n = true) (hn12 : n ≤ 12) (hi : i < n) (hc0 : 0 ≤ c) (hc1 : c ≤ 1000000000) :
    Calls Try.prog 76 #[.int .i64 c, .pointer (some ⟨pc, 0, none⟩), .pointer (some ⟨pi, 0, none⟩), .pointer (some ⟨pd, 0, none⟩)] w (SayB (enB D M V Zs n i c) w) := by
  obtain ⟨bb, hbb⟩ : ∃ b, enB D M V Zs n i c = b := ⟨_, rfl⟩
  rw [hbb]
  have HSrc := Lib.hid hs
  have HPc := Lib.hid hpc
  have HPi := Lib.hid hpi
  have HPd := Lib.hid hpd
  have H := Lib.hid h
  have Hlen := Lib.hid hlen
  have Hrl := Lib.hid hrl
  have HDy := Lib.hid hdy
  have HRv := Lib.hid hrv
  have hMl := hs.n1
  have HM := Lib.hid hMl
  have hn1 := hs.pos
  have hi0 : (0 : Int) ≤ (i : Int) := by omega
  have hi1 : (i : Int) < (n : Int) := by omega
  have hmm : n ≤ 1048576 := by omega
  have m0 := hs.k1 (i * 4) (by rw [hMl]; omega)
  have m1 := hs.k1 (i * 4 + 1) (by rw [hMl]; omega)
  have m2 := hs.k1 (i * 4 + 2) (by rw [hMl]; omega)
  have m3 := hs.k1 (i * 4 + 3) (by rw [hMl]; omega)
  rw [← Nat.add_assoc] at m1
  rw [← Nat.add_assoc] at m2
  rw [← Nat.add_assoc] at m3
  obtain ⟨s, hv0⟩ : ∃ x, M.getD (i * 4) 0 = x := ⟨_, rfl⟩
  obtain ⟨dd, hv1⟩ : ∃ x, M.getD (i * 4 + 1) 0 = x := ⟨_, rfl⟩
  obtain ⟨l, hv2⟩ : ∃ x, M.getD (i * 4 + 2) 0 = x := ⟨_, rfl⟩
  obtain ⟨q, hv3⟩ : ∃ x, M.getD (i * 4 + 3) 0 = x := ⟨_, rfl⟩
  rw [hv0] at m0
  rw [hv1] at m1
  rw [hv2] at m2
  rw [hv3] at m3
  have HV0 := Lib.hid hv0
  have HV1 := Lib.hid hv1
  have HV2 := Lib.hid hv2
  have HV3 := Lib.hid hv3
  have Hm0 := Lib.hid m0
  have Hm1 := Lib.hid m1
  have Hm2 := Lib.hid m2
  have Hm3 := Lib.hid m3
  have hl1 := hs.l1
  have hwc := hpc.1
  clear hs hpc hpi hpd h hlen hrl hdy hrv hMl hv0 hv1 hv2 hv3 m0 m1 m2 m3
  have HOw : Hid (∀ W, Below w.heap.size w W → Calls Try.prog 57 #[.agg #[.slice (some ⟨b0, o0, none⟩) n c0, .slice (some ⟨b1, o1, none⟩) n c1, .slice (some ⟨b2, o2, none⟩) n c2]] W (OwnQ D M V n W)) := Lib.hid fun W hW => ownRiver_any b0 o0 b1 o1 b2 o2 n c0 c1 c2 D M V W (HSrc.out.below hW (Nat.le_refl _))
  go_enter Try.func76, Try.ntmps76
  go_wp2_with fail
  refine wp_region_inv (id := 1) (leaS (w) _ _ _ _ _ _ _ _ _ _ _ _ _ _ _ _ _ _ _ _ _ _ _ _ _ _ _ _ _ _ _ _ _ _ _ _ _ _ pc b0 o0 b1 o1 b2 o2 n c0 c1 c2 i D M V s dd l q) (by kernel_rfl) (by kernel_rfl) ⟨⟨_, _, _, _, _, _, _, _, _, 0, 0, 0, 0, 0, 0, 0, 0, rfl, .start, .start, .start, .start, .start, .start, .start, .start, .start, .start, .start, .start, .start, .start, .start, .start, .start, .start, .start, .start, beld (Below.refl _ _) 1⟩⟩ ?hend1 ?hsteps1
  rotate_left
  case hsteps1 =>
    refine .cons 1 rfl ?_ ?_
    · intro d a w9 hsz hcl hinv hd hdep
      obtain ⟨⟨u6, u7, u10, u11, u12, u13, u14, u15, u16, g0, g1, g2, d0, d1, d2, p6, p7, rfl, f0, f1, f2, f3, f4, f5, f6, f7, f8, rf, rn, s7, s8, n78, nr7, nr8, b7, c7, b8, c8, hbel⟩⟩ := hinv
      have x0 := (hbel.cell (p := ⟨pc, 0, none⟩) hwc).trans (HPc.out.c 0 rfl)
      have x1 := (hbel.cell (p := ⟨pc, 1, none⟩) hwc).trans (HPc.out.c 1 rfl)
      have x2 := (hbel.cell (p := ⟨pc, 2, none⟩) hwc).trans (HPc.out.c 2 rfl)
      go_wp2_with fail
      exact ⟨⟨u6, u7, (.agg #[.slice (some ⟨b0, o0, none⟩) n c0, .slice (some ⟨b1, o1, none⟩) n c1, .slice (some ⟨b2, o2, none⟩) n c2]), u11, u12, u13, u14, u15, u16, g0, g1, g2, d0, d1, d2, p6, p7, rfl, Gd.new (by first | rfl | simp), (f1.keep (i := 0) (by decide)), (f2.keep (i := 0) (by decide)), (f3.keep (i := 0) (by decide)), (f4.keep (i := 0) (by decide)), (f5.keep (i := 0) (by decide)), (f6.keep (i := 0) (by decide)), (f7.keep (i := 0) (by decide)), (f8.keep (i := 0) (by decide)), (rf.keep (i := 0) (by decide)), (rn.keep (i := 0) (by decide)), (s7.keep (i := 0) (by decide)), (s8.keep (i := 0) (by decide)), (Gd.keep (i := 0) (n78.imp fun h => Gd.keep (i := 0) h (by decide)) (by decide)), (Gd.keep (i := 0) (nr7.imp fun h => Gd.keep (i := 0) h (by decide)) (by decide)), (Gd.keep (i := 0) (nr8.imp fun h => Gd.keep (i := 0) h (by decide)) (by decide)), (Gd.keep (i := 0) (b7.imp fun h => Ng.keep (i := 0) h (by decide)) (by decide)), (c7.keep (i := 0) (by decide)), (Gd.keep (i := 0) (b8.imp fun h => Ng.keep (i := 0) h (by decide)) (by decide)), (c8.keep (i := 0) (by decide)), hbel⟩⟩
    refine .cons 2 rfl ?_ ?_
    · intro d a w9 hsz hcl hinv hd hdep
      obtain ⟨⟨u6, u7, u10, u11, u12, u13, u14, u15, u16, g0, g1, g2, d0, d1, d2, p6, p7, rfl, f0, f1, f2, f3, f4, f5, f6, f7, f8, rf, rn, s7, s8, n78, nr7, nr8, b7, c7, b8, c8, hbel⟩⟩ := hinv
      have e0 := f0 (hdep.get 0 rfl)
      subst e0
      have q9 := hcl.not hd 9 _ rfl rfl
      go_wp2_with fail
      refine (HOw.out _ hbel).mono ?_
      rintro e w8 ⟨lo, k0, k1, k2, y0, y1, y2, rfl, r0, r1, r2, n01, n02, n12, hlo, hb⟩
      have z0 := (r0.lt k0 rfl).1
      have z1 := (r1.lt k1 rfl).1
      have z2 := (r2.lt k2 rfl).1
      have hw0 := hbel.size
      go_wp2_with fail
      exact ⟨⟨u6, u7, (.agg #[.slice (some ⟨b0, o0, none⟩) n c0, .slice (some ⟨b1, o1, none⟩) n c1, .slice (some ⟨b2, o2, none⟩) n c2]), (.agg #[.slice (some ⟨k0, 0, none⟩) n y0, .slice (some ⟨k1, 0, none⟩) n y1, .slice (some ⟨k2, 0, none⟩) n y2]), u12, u13, u14, u15, u16, k0, k1, k2, y0, y1, y2, p6, p7, rfl, Gd.new rfl, Gd.new (by first | rfl | simp), (f2.keep (i := 1) (by decide)), (f3.keep (i := 1) (by decide)), (f4.keep (i := 1) (by decide)), (f5.keep (i := 1) (by decide)), (f6.keep (i := 1) (by decide)), (f7.keep (i := 1) (by decide)), (f8.keep (i := 1) (by decide)), Gd.new ⟨owns_lo r0 (Nat.le_trans hw0 hlo), owns_lo r1 (Nat.le_trans hw0 hlo), owns_lo r2 (Nat.le_trans hw0 hlo)⟩, Gd.new ⟨n01, n02, n12⟩, (Gd.keep (i := 1) (fun h9 => ⟨(s7 h9).1, Nat.lt_of_lt_of_le (s7 h9).2 hb.size⟩) (by decide)), (Gd.keep (i := 1) (fun h9 => ⟨(s8 h9).1, Nat.lt_of_lt_of_le (s8 h9).2 hb.size⟩) (by decide)), (Gd.keep (i := 1) (n78.imp fun h => Gd.keep (i := 1) h (by decide)) (by decide)), (fun _ hj => by rw [set_ne (by decide)] at hj; have h9 := (s7 hj).2; refine ⟨?_, ?_, ?_⟩ <;> omega), (fun _ hj => by rw [set_ne (by decide)] at hj; have h9 := (s8 hj).2; refine ⟨?_, ?_, ?_⟩ <;> omega), (Gd.keep (i := 1) (fun h9 => Ng.keep (i := 1) (fun h8 => (b7 h9 h8).below hb (s7 h9).2) (by decide)) (by decide)), (Gd.undone (i := 1) (q9) (by decide)), (Gd.keep (i := 1) (fun h9 => Ng.keep (i := 1) (fun h8 => (b8 h9 h8).below hb (s8 h9).2) (by decide)) (by decide)), (Gd.keep (i := 1) (fun h9 => (c8 h9).below hb (c8 h9).1.1) (by decide)), (hbel.trans (hb.mono hbel.size))⟩⟩
    refine .cons 3 rfl ?_ ?_
    · intro d a w9 hsz hcl hinv hd hdep
      obtain ⟨⟨u6, u7, u10, u11, u12, u13, u14, u15, u16, g0, g1, g2, d0, d1, d2, p6, p7, rfl, f0, f1, f2, f3, f4, f5, f6, f7, f8, rf, rn, s7, s8, n78, nr7, nr8, b7, c7, b8, c8, hbel⟩⟩ := hinv
      go_wp2_with fail
      exact ⟨⟨u6, u7, u10, u11, (.pointer (some ⟨pc, 1, none⟩)), u13, u14, u15, u16, g0, g1, g2, d0, d1, d2, p6, p7, rfl, (f0.keep (i := 2) (by decide)), (f1.keep (i := 2) (by decide)), Gd.new (by first | rfl | simp), (f3.keep (i := 2) (by decide)), (f4.keep (i := 2) (by decide)), (f5.keep (i := 2) (by decide)), (f6.keep (i := 2) (by decide)), (f7.keep (i := 2) (by decide)), (f8.keep (i := 2) (by decide)), (rf.keep (i := 2) (by decide)), (rn.keep (i := 2) (by decide)), (s7.keep (i := 2) (by decide)), (s8.keep (i := 2) (by decide)), (Gd.keep (i := 2) (n78.imp fun h => Gd.keep (i := 2) h (by decide)) (by decide)), (Gd.keep (i := 2) (nr7.imp fun h => Gd.keep (i := 2) h (by decide)) (by decide)), (Gd.keep (i := 2) (nr8.imp fun h => Gd.keep (i := 2) h (by decide)) (by decide)), (Gd.keep (i := 2) (b7.imp fun h => Ng.keep (i := 2) h (by decide)) (by decide)), (c7.keep (i := 2) (by decide)), (Gd.keep (i := 2) (b8.imp fun h => Ng.keep (i := 2) h (by decide)) (by decide)), (c8.keep (i := 2) (by decide)), hbel⟩⟩
    refine .cons 4 rfl ?_ ?_
    · intro d a w9 hsz hcl hinv hd hdep
      obtain ⟨⟨u6, u7, u10, u11, u12, u13, u14, u15, u16, g0, g1, g2, d0, d1, d2, p6, p7, rfl, f0, f1, f2, f3, f4, f5, f6, f7, f8, rf, rn, s7, s8, n78, nr7, nr8, b7, c7, b8, c8, hbel⟩⟩ := hinv
      have e2 := f2 (hdep.get 2 rfl)
      subst e2
      have x1 := (hbel.cell (p := ⟨pc, 1, none⟩) hwc).trans (HPc.out.c 1 rfl)
      go_wp2_with fail
      exact ⟨⟨u6, u7, u10, u11, (.pointer (some ⟨pc, 1, none⟩)), (.slice (some ⟨b1, o1, none⟩) n c1), u14, u15, u16, g0, g1, g2, d0, d1, d2, p6, p7, rfl, (f0.keep (i := 3) (by decide)), (f1.keep (i := 3) (by decide)), Gd.new rfl, Gd.new (by first | rfl | simp), (f4.keep (i := 3) (by decide)), (f5.keep (i := 3) (by decide)), (f6.keep (i := 3) (by decide)), (f7.keep (i := 3) (by decide)), (f8.keep (i := 3) (by decide)), (rf.keep (i := 3) (by decide)), (rn.keep (i := 3) (by decide)), (s7.keep (i := 3) (by decide)), (s8.keep (i := 3) (by decide)), (Gd.keep (i := 3) (n78.imp fun h => Gd.keep (i := 3) h (by decide)) (by decide)), (Gd.keep (i := 3) (nr7.imp fun h => Gd.keep (i := 3) h (by decide)) (by decide)), (Gd.keep (i := 3) (nr8.imp fun h => Gd.keep (i := 3) h (by decide)) (by decide)), (Gd.keep (i := 3) (b7.imp fun h => Ng.keep (i := 3) h (by decide)) (by decide)), (c7.keep (i := 3) (by decide)), (Gd.keep (i := 3) (b8.imp fun h => Ng.keep (i := 3) h (by decide)) (by decide)), (c8.keep (i := 3) (by decide)), hbel⟩⟩
    refine .cons 5 rfl ?_ ?_
    · intro d a w9 hsz hcl hinv hd hdep
      obtain ⟨⟨u6, u7, u10, u11, u12, u13, u14, u15, u16, g0, g1, g2, d0, d1, d2, p6, p7, rfl, f0, f1, f2, f3, f4, f5, f6, f7, f8, rf, rn, s7, s8, n78, nr7, nr8, b7, c7, b8, c8, hbel⟩⟩ := hinv
      have x0 := (hbel.cell (p := ⟨pi, 0, none⟩) HPi.out.1).trans (HPi.out.c 0 rfl)
      go_wp2_with fail
      exact ⟨⟨u6, u7, u10, u11, u12, u13, (.int .i64 (i : Int)), u15, u16, g0, g1, g2, d0, d1, d2, p6, p7, rfl, (f0.keep (i := 4) (by decide)), (f1.keep (i := 4) (by decide)), (f2.keep (i := 4) (by decide)), (f3.keep (i := 4) (by decide)), Gd.new (by first | rfl | simp), (f5.keep (i := 4) (by decide)), (f6.keep (i := 4) (by decide)), (f7.keep (i := 4) (by decide)), (f8.keep (i := 4) (by decide)), (rf.keep (i := 4) (by decide)), (rn.keep (i := 4) (by decide)), (s7.keep (i := 4) (by decide)), (s8.keep (i := 4) (by decide)), (Gd.keep (i := 4) (n78.imp fun h => Gd.keep (i := 4) h (by decide)) (by decide)), (Gd.keep (i := 4) (nr7.imp fun h => Gd.keep (i := 4) h (by decide)) (by decide)), (Gd.keep (i := 4) (nr8.imp fun h => Gd.keep (i := 4) h (by decide)) (by decide)), (Gd.keep (i := 4) (b7.imp fun h => Ng.keep (i := 4) h (by decide)) (by decide)), (c7.keep (i := 4) (by decide)), (Gd.keep (i := 4) (b8.imp fun h => Ng.keep (i := 4) h (by decide)) (by decide)), (c8.keep (i := 4) (by decide)), hbel⟩⟩
    refine .cons 6 rfl ?_ ?_
    · intro d a w9 hsz hcl hinv hd hdep
      obtain ⟨⟨u6, u7, u10, u11, u12, u13, u14, u15, u16, g0, g1, g2, d0, d1, d2, p6, p7, rfl, f0, f1, f2, f3, f4, f5, f6, f7, f8, rf, rn, s7, s8, n78, nr7, nr8, b7, c7, b8, c8, hbel⟩⟩ := hinv
      have e3 := f3 (hdep.get 3 rfl)
      subst e3
      have e4 := f4 (hdep.get 4 rfl)
      subst e4
      go_wp2_with fail
      exact ⟨⟨u6, u7, u10, u11, u12, (.slice (some ⟨b1, o1, none⟩) n c1), (.int .i64 (i : Int)), (.pointer (some ⟨b1, o1 + i * 4, none⟩)), u16, g0, g1, g2, d0, d1, d2, p6, p7, rfl, (f0.keep (i := 5) (by decide)), (f1.keep (i := 5) (by decide)), (f2.keep (i := 5) (by decide)), Gd.new rfl, Gd.new rfl, Gd.new (by first | rfl | simp), (f6.keep (i := 5) (by decide)), (f7.keep (i := 5) (by decide)), (f8.keep (i := 5) (by decide)), (rf.keep (i := 5) (by decide)), (rn.keep (i := 5) (by decide)), (s7.keep (i := 5) (by decide)), (s8.keep (i := 5) (by decide)), (Gd.keep (i := 5) (n78.imp fun h => Gd.keep (i := 5) h (by decide)) (by decide)), (Gd.keep (i := 5) (nr7.imp fun h => Gd.keep (i := 5) h (by decide)) (by decide)), (Gd.keep (i := 5) (nr8.imp fun h => Gd.keep (i := 5) h (by decide)) (by decide)), (Gd.keep (i := 5) (b7.imp fun h => Ng.keep (i := 5) h (by decide)) (by decide)), (c7.keep (i := 5) (by decide)), (Gd.keep (i := 5) (b8.imp fun h => Ng.keep (i := 5) h (by decide)) (by decide)), (c8.keep (i := 5) (by decide)), hbel⟩⟩
    refine .cons 7 rfl ?_ ?_
    · intro d a w9 hsz hcl hinv hd hdep
      obtain ⟨⟨u6, u7, u10, u11, u12, u13, u14, u15, u16, g0, g1, g2, d0, d1, d2, p6, p7, rfl, f0, f1, f2, f3, f4, f5, f6, f7, f8, rf, rn, s7, s8, n78, nr7, nr8, b7, c7, b8, c8, hbel⟩⟩ := hinv
      have e5 := f5 (hdep.get 5 rfl)
      subst e5
      have y0 := (hbel.cell (p := ⟨b1, o1 + i * 4, none⟩) hl1).trans Hm0.out
      have y1 := (hbel.cell (p := ⟨b1, o1 + i * 4 + 1, none⟩) hl1).trans Hm1.out
      have y2 := (hbel.cell (p := ⟨b1, o1 + i * 4 + 2, none⟩) hl1).trans Hm2.out
      have y3 := (hbel.cell (p := ⟨b1, o1 + i * 4 + 3, none⟩) hl1).trans Hm3.out
      go_wp2_with fail
      exact ⟨⟨u6, u7, u10, u11, u12, u13, u14, (.pointer (some ⟨b1, o1 + i * 4, none⟩)), (.agg #[.int .i64 s, .int .i64 dd, .int .i64 l, .int .i64 q]), g0, g1, g2, d0, d1, d2, p6, p7, rfl, (f0.keep (i := 6) (by decide)), (f1.keep (i := 6) (by decide)), (f2.keep (i := 6) (by decide)), (f3.keep (i := 6) (by decide)), (f4.keep (i := 6) (by decide)), Gd.new rfl, Gd.new (by first | rfl | simp), (f7.keep (i := 6) (by decide)), (f8.keep (i := 6) (by decide)), (rf.keep (i := 6) (by decide)), (rn.keep (i := 6) (by decide)), (s7.keep (i := 6) (by decide)), (s8.keep (i := 6) (by decide)), (Gd.keep (i := 6) (n78.imp fun h => Gd.keep (i := 6) h (by decide)) (by decide)), (Gd.keep (i := 6) (nr7.imp fun h => Gd.keep (i := 6) h (by decide)) (by decide)), (Gd.keep (i := 6) (nr8.imp fun h => Gd.keep (i := 6) h (by decide)) (by decide)), (Gd.keep (i := 6) (b7.imp fun h => Ng.keep (i := 6) h (by decide)) (by decide)), (c7.keep (i := 6) (by decide)), (Gd.keep (i := 6) (b8.imp fun h => Ng.keep (i := 6) h (by decide)) (by decide)), (c8.keep (i := 6) (by decide)), hbel⟩⟩
    refine .cons 8 rfl ?_ ?_
    · intro d a w9 hsz hcl hinv hd hdep
      obtain ⟨⟨u6, u7, u10, u11, u12, u13, u14, u15, u16, g0, g1, g2, d0, d1, d2, p6, p7, rfl, f0, f1, f2, f3, f4, f5, f6, f7, f8, rf, rn, s7, s8, n78, nr7, nr8, b7, c7, b8, c8, hbel⟩⟩ := hinv
      have q9 := hcl.not hd 9 _ rfl rfl
      go_wp2_with fail
      exact ⟨⟨(.pointer (some ⟨w9.heap.size, 0, none⟩)), u7, u10, u11, u12, u13, u14, u15, u16, g0, g1, g2, d0, d1, d2, w9.heap.size, p7, rfl, (f0.keep (i := 7) (by decide)), (f1.keep (i := 7) (by decide)), (f2.keep (i := 7) (by decide)), (f3.keep (i := 7) (by decide)), (f4.keep (i := 7) (by decide)), (f5.keep (i := 7) (by decide)), (f6.keep (i := 7) (by decide)), Gd.new (by first | rfl | simp), (f8.keep (i := 7) (by decide)), (Gd.keep (i := 7) (fun h9 => ⟨(rf h9).1.alloc _, (rf h9).2.1.alloc _, (rf h9).2.2.alloc _⟩) (by decide)), (rn.keep (i := 7) (by decide)), Gd.new ⟨hbel.size, by simp⟩, (Gd.keep (i := 7) (fun h9 => ⟨(s8 h9).1, by have h7 := (s8 h9).2; simp; omega⟩) (by decide)), (fun _ hj => by rw [set_ne (by decide)] at hj; have h9 := (s8 hj).2; omega), (fun hj _ => by rw [set_ne (by decide)] at hj; obtain ⟨r0, r1, r2⟩ := rf hj; have z0 := (r0.lt g0 rfl).2; have z1 := (r1.lt g1 rfl).2; have z2 := (r2.lt g2 rfl).2; refine ⟨?_, ?_, ?_⟩ <;> omega), (Gd.keep (i := 7) (nr8.imp fun h => Gd.keep (i := 7) h (by decide)) (by decide)), Gd.new (fun _ => Bw.new w9 [.slice none 0 0, .slice none 0 0, .slice none 0 0] _), (Gd.undone (i := 7) (q9) (by decide)), (Gd.keep (i := 7) (fun h9 => Ng.keep (i := 7) (fun h8 => (b8 h9 h8).alloc _) (by decide)) (by decide)), (Gd.keep (i := 7) (fun h9 => (c8 h9).alloc _) (by decide)), (hbel.alloc hbel.size _)⟩⟩
    refine .cons 9 rfl ?_ ?_
    · intro d a w9 hsz hcl hinv hd hdep
      obtain ⟨⟨u6, u7, u10, u11, u12, u13, u14, u15, u16, g0, g1, g2, d0, d1, d2, p6, p7, rfl, f0, f1, f2, f3, f4, f5, f6, f7, f8, rf, rn, s7, s8, n78, nr7, nr8, b7, c7, b8, c8, hbel⟩⟩ := hinv
      have q9 := hcl.not hd 10 _ rfl rfl
      go_wp2_with fail
      exact ⟨⟨u6, (.pointer (some ⟨w9.heap.size, 0, none⟩)), u10, u11, u12, u13, u14, u15, u16, g0, g1, g2, d0, d1, d2, p6, w9.heap.size, rfl, (f0.keep (i := 8) (by decide)), (f1.keep (i := 8) (by decide)), (f2.keep (i := 8) (by decide)), (f3.keep (i := 8) (by decide)), (f4.keep (i := 8) (by decide)), (f5.keep (i := 8) (by decide)), (f6.keep (i := 8) (by decide)), (f7.keep (i := 8) (by decide)), Gd.new (by first | rfl | simp), (Gd.keep (i := 8) (fun h9 => ⟨(rf h9).1.alloc _, (rf h9).2.1.alloc _, (rf h9).2.2.alloc _⟩) (by decide)), (rn.keep (i := 8) (by decide)), (Gd.keep (i := 8) (fun h9 => ⟨(s7 h9).1, by have h7 := (s7 h9).2; simp; omega⟩) (by decide)), Gd.new ⟨hbel.size, by simp⟩, (fun hj _ => by rw [set_ne (by decide)] at hj; have h9 := (s7 hj).2; omega), (Gd.keep (i := 8) (nr7.imp fun h => Gd.keep (i := 8) h (by decide)) (by decide)), (fun hj _ => by rw [set_ne (by decide)] at hj; obtain ⟨r0, r1, r2⟩ := rf hj; have z0 := (r0.lt g0 rfl).2; have z1 := (r1.lt g1 rfl).2; have z2 := (r2.lt g2 rfl).2; refine ⟨?_, ?_, ?_⟩ <;> omega), (Gd.keep (i := 8) (fun h9 => Ng.keep (i := 8) (fun h8 => (b7 h9 h8).alloc _) (by decide)) (by decide)), (Gd.keep (i := 8) (fun h9 => (c7 h9).alloc _) (by decide)), Gd.new (fun _ => Bw.new w9 [.int .i64 0, .int .i64 0, .int .i64 0, .int .i64 0] _), (Gd.undone (i := 8) (q9) (by decide)), (hbel.alloc hbel.size _)⟩⟩
    refine .cons 10 rfl ?_ ?_
    · intro d a w9 hsz hcl hinv hd hdep
      obtain ⟨⟨u6, u7, u10, u11, u12, u13, u14, u15, u16, g0, g1, g2, d0, d1, d2, p6, p7, rfl, f0, f1, f2, f3, f4, f5, f6, f7, f8, rf, rn, s7, s8, n78, nr7, nr8, b7, c7, b8, c8, hbel⟩⟩ := hinv
      have e7 := f7 (hdep.get 7 rfl)
      subst e7
      have e1 := f1 (hdep.get 1 rfl)
      subst e1
      have hal := hdep.get 7 rfl
      have hbp := b7 hal hd
      have hc0 := hbp.c 0 rfl
      have hc1 := hbp.c 1 rfl
      have hc2 := hbp.c 2 rfl
      have hf0 := hbp.f 0 (by simp)
      have hf1 := hbp.f 1 (by simp)
      have hf2 := hbp.f 2 (by simp)
      have hp9 := s7 hal
      go_wp2_with fail
      exact ⟨⟨(.pointer (some ⟨p6, 0, none⟩)), u7, u10, (.agg #[.slice (some ⟨g0, 0, none⟩) n d0, .slice (some ⟨g1, 0, none⟩) n d1, .slice (some ⟨g2, 0, none⟩) n d2]), u12, u13, u14, u15, u16, g0, g1, g2, d0, d1, d2, p6, p7, rfl, (f0.keep (i := 9) (by decide)), Gd.new rfl, (f2.keep (i := 9) (by decide)), (f3.keep (i := 9) (by decide)), (f4.keep (i := 9) (by decide)), (f5.keep (i := 9) (by decide)), (f6.keep (i := 9) (by decide)), Gd.new rfl, (f8.keep (i := 9) (by decide)), (Gd.keep (i := 9) (fun h9 => ⟨(owns_far (owns_far (owns_far (rf h9).1 (by have h7 := nr7 h9 hal; simp [Value.ownBlock]; omega) _) (by have h7 := nr7 h9 hal; simp [Value.ownBlock]; omega) _) (by have h7 := nr7 h9 hal; simp [Value.ownBlock]; omega) _), (owns_far (owns_far (owns_far (rf h9).2.1 (by have h7 := nr7 h9 hal; simp [Value.ownBlock]; omega) _) (by have h7 := nr7 h9 hal; simp [Value.ownBlock]; omega) _) (by have h7 := nr7 h9 hal; simp [Value.ownBlock]; omega) _), (owns_far (owns_far (owns_far (rf h9).2.2 (by have h7 := nr7 h9 hal; simp [Value.ownBlock]; omega) _) (by have h7 := nr7 h9 hal; simp [Value.ownBlock]; omega) _) (by have h7 := nr7 h9 hal; simp [Value.ownBlock]; omega) _)⟩) (by decide)), (rn.keep (i := 9) (by decide)), (Gd.keep (i := 9) (fun h9 => ⟨(s7 h9).1, by simp only [setCell_size]; exact (s7 h9).2⟩) (by decide)), (Gd.keep (i := 9) (fun h9 => ⟨(s8 h9).1, by simp only [setCell_size]; exact (s8 h9).2⟩) (by decide)), (Gd.keep (i := 9) (n78.imp fun h => Gd.keep (i := 9) h (by decide)) (by decide)), (Gd.keep (i := 9) (nr7.imp fun h => Gd.keep (i := 9) h (by decide)) (by decide)), (Gd.keep (i := 9) (nr8.imp fun h => Gd.keep (i := 9) h (by decide)) (by decide)), (Gd.keep (i := 9) (fun h9 => Ng.new (by rw [hsz]; exact (by decide : 9 < 11))) (by decide)), Gd.new (((hbp.put 0 (by simp) (.slice (some ⟨g0, 0, none⟩) n d0)).put 1 (by simp) (.slice (some ⟨g1, 0, none⟩) n d1)).put 2 (by simp) (.slice (some ⟨g2, 0, none⟩) n d2)), (Gd.keep (i := 9) (fun h9x => Ng.keep (i := 9) (fun h8 => ((((b8 h9x h8).setOther (p := ⟨p6, 0, none⟩) (by have h7 := n78 hal h9x; show p6 ≠ p7; omega) _).setOther (p := ⟨p6, 1, none⟩) (by have h7 := n78 hal h9x; show p6 ≠ p7; omega) _).setOther (p := ⟨p6, 2, none⟩) (by have h7 := n78 hal h9x; show p6 ≠ p7; omega) _)) (by decide)) (by decide)), (Gd.keep (i := 9) (fun h9y => by have h9x := (hcl 10 _ rfl h9y).get 8 rfl; exact ((((c8 h9y).setOther (p := ⟨p6, 0, none⟩) (by have h7 := n78 hal h9x; show p6 ≠ p7; omega) _).setOther (p := ⟨p6, 1, none⟩) (by have h7 := n78 hal h9x; show p6 ≠ p7; omega) _).setOther (p := ⟨p6, 2, none⟩) (by have h7 := n78 hal h9x; show p6 ≠ p7; omega) _)) (by decide)), (((hbel.setCell (p := ⟨p6, 0, none⟩) hp9.1 _).setCell (p := ⟨p6, 1, none⟩) hp9.1 _).setCell (p := ⟨p6, 2, none⟩) hp9.1 _)⟩⟩
    refine .cons 11 rfl ?_ trivial
    · intro d a w9 hsz hcl hinv hd hdep
      obtain ⟨⟨u6, u7, u10, u11, u12, u13, u14, u15, u16, g0, g1, g2, d0, d1, d2, p6, p7, rfl, f0, f1, f2, f3, f4, f5, f6, f7, f8, rf, rn, s7, s8, n78, nr7, nr8, b7, c7, b8, c8, hbel⟩⟩ := hinv
      have e8 := f8 (hdep.get 8 rfl)
      subst e8
      have e6 := f6 (hdep.get 6 rfl)
      subst e6
      have hal := hdep.get 8 rfl
      have hbp := b8 hal hd
      have hc0 := hbp.c 0 rfl
      have hc1 := hbp.c 1 rfl
      have hc2 := hbp.c 2 rfl
      have hc3 := hbp.c 3 rfl
      have hf0 := hbp.f 0 (by simp)
      have hf1 := hbp.f 1 (by simp)
      have hf2 := hbp.f 2 (by simp)
      have hf3 := hbp.f 3 (by simp)
      have hp9 := s8 hal
      go_wp2_with fail
      exact ⟨⟨u6, (.pointer (some ⟨p7, 0, none⟩)), u10, u11, u12, u13, u14, u15, (.agg #[.int .i64 s, .int .i64 dd, .int .i64 l, .int .i64 q]), g0, g1, g2, d0, d1, d2, p6, p7, rfl, (f0.keep (i := 10) (by decide)), (f1.keep (i := 10) (by decide)), (f2.keep (i := 10) (by decide)), (f3.keep (i := 10) (by decide)), (f4.keep (i := 10) (by decide)), (f5.keep (i := 10) (by decide)), Gd.new rfl, (f7.keep (i := 10) (by decide)), Gd.new rfl, (Gd.keep (i := 10) (fun h9 => ⟨(owns_far (owns_far (owns_far (owns_far (rf h9).1 (by have h7 := nr8 h9 hal; simp [Value.ownBlock]; omega) _) (by have h7 := nr8 h9 hal; simp [Value.ownBlock]; omega) _) (by have h7 := nr8 h9 hal; simp [Value.ownBlock]; omega) _) (by have h7 := nr8 h9 hal; simp [Value.ownBlock]; omega) _), (owns_far (owns_far (owns_far (owns_far (rf h9).2.1 (by have h7 := nr8 h9 hal; simp [Value.ownBlock]; omega) _) (by have h7 := nr8 h9 hal; simp [Value.ownBlock]; omega) _) (by have h7 := nr8 h9 hal; simp [Value.ownBlock]; omega) _) (by have h7 := nr8 h9 hal; simp [Value.ownBlock]; omega) _), (owns_far (owns_far (owns_far (owns_far (rf h9).2.2 (by have h7 := nr8 h9 hal; simp [Value.ownBlock]; omega) _) (by have h7 := nr8 h9 hal; simp [Value.ownBlock]; omega) _) (by have h7 := nr8 h9 hal; simp [Value.ownBlock]; omega) _) (by have h7 := nr8 h9 hal; simp [Value.ownBlock]; omega) _)⟩) (by decide)), (rn.keep (i := 10) (by decide)), (Gd.keep (i := 10) (fun h9 => ⟨(s7 h9).1, by simp only [setCell_size]; exact (s7 h9).2⟩) (by decide)), (Gd.keep (i := 10) (fun h9 => ⟨(s8 h9).1, by simp only [setCell_size]; exact (s8 h9).2⟩) (by decide)), (Gd.keep (i := 10) (n78.imp fun h => Gd.keep (i := 10) h (by decide)) (by decide)), (Gd.keep (i := 10) (nr7.imp fun h => Gd.keep (i := 10) h (by decide)) (by decide)), (Gd.keep (i := 10) (nr8.imp fun h => Gd.keep (i := 10) h (by decide)) (by decide)), (Gd.keep (i := 10) (fun h9x => Ng.keep (i := 10) (fun h8 => (((((b7 h9x h8).setOther (p := ⟨p7, 0, none⟩) (by have h7 := n78 h9x hal; show p7 ≠ p6; omega) _).setOther (p := ⟨p7, 1, none⟩) (by have h7 := n78 h9x hal; show p7 ≠ p6; omega) _).setOther (p := ⟨p7, 2, none⟩) (by have h7 := n78 h9x hal; show p7 ≠ p6; omega) _).setOther (p := ⟨p7, 3, none⟩) (by have h7 := n78 h9x hal; show p7 ≠ p6; omega) _)) (by decide)) (by decide)), (Gd.keep (i := 10) (fun h9y => by have h9x := (hcl 9 _ rfl h9y).get 7 rfl; exact (((((c7 h9y).setOther (p := ⟨p7, 0, none⟩) (by have h7 := n78 h9x hal; show p7 ≠ p6; omega) _).setOther (p := ⟨p7, 1, none⟩) (by have h7 := n78 h9x hal; show p7 ≠ p6; omega) _).setOther (p := ⟨p7, 2, none⟩) (by have h7 := n78 h9x hal; show p7 ≠ p6; omega) _).setOther (p := ⟨p7, 3, none⟩) (by have h7 := n78 h9x hal; show p7 ≠ p6; omega) _)) (by decide)), (Gd.keep (i := 10) (fun h9 => Ng.new (by rw [hsz]; exact (by decide : 10 < 11))) (by decide)), Gd.new ((((hbp.put 0 (by simp) (.int .i64 s)).put 1 (by simp) (.int .i64 dd)).put 2 (by simp) (.int .i64 l)).put 3 (by simp) (.int .i64 q)), ((((hbel.setCell (p := ⟨p7, 0, none⟩) hp9.1 _).setCell (p := ⟨p7, 1, none⟩) hp9.1 _).setCell (p := ⟨p7, 2, none⟩) hp9.1 _).setCell (p := ⟨p7, 3, none⟩) hp9.1 _)⟩⟩
  case hend1 =>
    intro d a w9 hinv hall
    obtain ⟨⟨u6, u7, u10, u11, u12, u13, u14, u15, u16, g0, g1, g2, d0, d1, d2, p6, p7, rfl, f0, f1, f2, f3, f4, f5, f6, f7, f8, rf, rn, s7, s8, n78, nr7, nr8, b7, c7, b8, c8, hbel⟩⟩ := hinv
    have e0 := f0 (hall 0 (by decide))
    subst e0
    have e1 := f1 (hall 1 (by decide))
    subst e1
    have e2 := f2 (hall 2 (by decide))
    subst e2
    have e3 := f3 (hall 3 (by decide))
    subst e3
    have e4 := f4 (hall 4 (by decide))
    subst e4
    have e5 := f5 (hall 5 (by decide))
    subst e5
    have e6 := f6 (hall 6 (by decide))
    subst e6
    have e7 := f7 (hall 7 (by decide))
    subst e7
    have e8 := f8 (hall 8 (by decide))
    subst e8
    obtain ⟨hr0, hr1, hr2⟩ := rf (hall 1 (by decide))
    obtain ⟨n01, n02, n12⟩ := rn (hall 1 (by decide))
    have hs7 := s7 (hall 7 (by decide))
    have hs8 := s8 (hall 8 (by decide))
    have hn78 := n78 (hall 7 (by decide)) (hall 8 (by decide))
    have hnr7 := nr7 (hall 1 (by decide)) (hall 7 (by decide))
    have hnr8 := nr8 (hall 1 (by decide)) (hall 8 (by decide))
    have hc7 := c7 (hall 9 (by decide))
    have hc8 := c8 (hall 10 (by decide))
    have HBL := Lib.hid hbel
    clear f0 f1 f2 f3 f4 f5 f6 f7 f8 rf rn s7 s8 n78 nr7 nr8 b7 c7 b8 c8 hbel
    have HC7 := Lib.hid hc7
    have HC8 := Lib.hid hc8
    have HR0 := Lib.hid hr0
    have HR1 := Lib.hid hr1
    have HR2 := Lib.hid hr2
    have HN := Lib.hid hnr7
    have HNn : Hid (g0 ≠ g1 ∧ g0 ≠ g2 ∧ g1 ≠ g2) := Lib.hid ⟨n01, n02, n12⟩
    have HS7 := Lib.hid hs7
    have hg1 : w.heap.size ≤ g1 := (hr1.lt g1 rfl).1
    have HG1 := Lib.hid hg1
    have x1 := hc7.c 1 rfl
    have y0 := hc8.c 0 rfl
    have y1 := hc8.c 1 rfl
    have y2 := hc8.c 2 rfl
    have y3 := hc8.c 3 rfl
    have xi := (HBL.out.cell (p := ⟨pi, 0, none⟩) HPi.out.1).trans (HPi.out.c 0 rfl)
    have z0 := hr1.cellAt (i * 4) (by omega)
    rw [ic_at (by rw [HM.out]; omega)] at z0
    have k0 := hr1.frozenAt (i * 4)
    have z1 := hr1.cellAt (i * 4 + 1) (by omega)
    rw [ic_at (by rw [HM.out]; omega)] at z1
    have k1 := hr1.frozenAt (i * 4 + 1)
    have z2 := hr1.cellAt (i * 4 + 2) (by omega)
    rw [ic_at (by rw [HM.out]; omega)] at z2
    have k2 := hr1.frozenAt (i * 4 + 2)
    have z3 := hr1.cellAt (i * 4 + 3) (by omega)
    rw [ic_at (by rw [HM.out]; omega)] at z3
    have k3 := hr1.frozenAt (i * 4 + 3)
    clear hc7 hc8 hr0 hr1 hr2 hnr7 hnr8 n01 n02 n12 hs7 hs8 hn78 hg1
    go_upto_region 3 with fail
    generalize hW4 : World.setCell _ _ _ = W4
    have hk4 : Kept g1 (g1 + 1) w9 W4 := by rw [← hW4]; exact (((Kept.set w9 ⟨g1, i * 4, none⟩ (.int .i64 (c)) ⟨Nat.le_refl _, Nat.lt_succ_self _⟩).trans (Kept.set _ ⟨g1, i * 4 + 1, none⟩ (.int .i64 (min dd c)) ⟨Nat.le_refl _, Nat.lt_succ_self _⟩)).trans (Kept.set _ ⟨g1, i * 4 + 2, none⟩ (.int .i64 (l)) ⟨Nat.le_refl _, Nat.lt_succ_self _⟩)).trans (Kept.set _ ⟨g1, i * 4 + 3, none⟩ (.int .i64 (min q c)) ⟨Nat.le_refl _, Nat.lt_succ_self _⟩)
    have hq1 : W4.ownsRow w.heap.size 98 4 (.slice (some ⟨g1, 0, none⟩) n d1) n (ic (setD M i c)) := by
      have h9 := ((((HR1.out.stored (i * 4) (.int .i64 (c))).1.stored (i * 4 + 1) (.int .i64 (min dd c))).1.stored (i * 4 + 2) (.int .i64 (l))).1.stored (i * 4 + 3) (.int .i64 (min q c))).1
      rw [← ic_set, ← ic_set, ← ic_set, ← ic_set] at h9
      have e9 : (((M.set (i * 4) c).set (i * 4 + 1) (min dd c)).set (i * 4 + 2) l).set (i * 4 + 3) (min q c) = setD M i c := by
        unfold setD
        rw [HV1.out, HV3.out]
        congr 1
        have h7 : ((M.set (i * 4) c).set (i * 4 + 1) (min dd c)).getD (i * 4 + 2) 0 = l := by rw [getD_set _ _ _ _ (by rw [List.length_set, HM.out]; omega), if_neg (by omega), getD_set _ _ _ _ (by rw [HM.out]; omega), if_neg (by omega)]; exact HV2.out
        rw [← h7]
        exact set_self (by simp only [List.length_set]; rw [HM.out]; omega)
      rw [e9] at h9
      rw [← hW4]
      exact h9
    have HU0 : Hid (W4.ownsRow w.heap.size 2 1 (.slice (some ⟨g0, 0, none⟩) n d0) n (ic D)) := Lib.hid (ownsRow_sameG HR0.out fun b hb9 => hk4.block b (by have e9 : g0 = b := Option.some.inj hb9; have h9 := HNn.out; omega) (HR0.out.lt b hb9).2)
    have HU2 : Hid (W4.ownsRow w.heap.size 2 1 (.slice (some ⟨g2, 0, none⟩) n d2) n (ic V)) := Lib.hid (ownsRow_sameG HR2.out fun b hb9 => hk4.block b (by have e9 : g2 = b := Option.some.inj hb9; have h9 := HNn.out; omega) (HR2.out.lt b hb9).2)
    have HU1 := Lib.hid hq1
    have HT4 := Lib.hid (HC7.out.kept hk4 (by have h9 := HN.out; omega))
    have HB4 : Hid (Below w.heap.size w W4) := Lib.hid (HBL.out.trans (hk4.below HG1.out HBL.out.size))
    clear hW4 hk4 hq1 HR0 HR1 HR2 HC7 HC8 HBL x1 xi y0 y1 y2 y3 z0 z1 z2 z3 k0 k1 k2 k3
    have HSD := Lib.hid (shortDays_i (some ⟨g0, 0, none⟩) (some ⟨g1, 0, none⟩) (some ⟨g2, 0, none⟩) sa n n n d0 d1 d2 len sc D (setD M i c) V Zs W4 (owns_row HU0.out) (owns_row HU1.out) (owns_row HU2.out) HSrc.out.n0 (by rw [setD_length]; exact HM.out) HSrc.out.n2 ⟨hmm, hmm, hmm⟩ (H.out.below HB4.out (Nat.le_refl _)) Hlen.out Hrl.out)
    have hsr : shoR D (setD M i c) V n Zs = ((List.range n).map fun q => shoV (runTo D (setD M i c) V Zs n Zs.length).G V q Zs.length, true) := by unfold shoR; rw [rivB_setD HRv.out HM.out hi hc0 hc1, HDy.out, Hlen.out, decide_eq_true hl64]; rfl
    rw [hsr] at HSD
    have hen : enB D M V Zs n i c = decide (shoV (runTo D (setD M i c) V Zs n Zs.length).G V i Zs.length = 0) := rfl
    rw [hbb] at hen
    obtain ⟨Y, hY⟩ : ∃ Y, ((List.range n).map fun q => shoV (runTo D (setD M i c) V Zs n Zs.length).G V q Zs.length) = Y := ⟨_, rfl⟩
    have hyl : Y.length = n := by rw [← hY]; simp
    have hyi : Y.getD i 0 = shoV (runTo D (setD M i c) V Zs n Zs.length).G V i Zs.length := by rw [← hY, List.getD_eq_getElem?_getD, List.getElem?_map, List.getElem?_range hi]; rfl
    rw [hY] at HSD
    rw [← hyi] at hen
    obtain ⟨y, hy⟩ : ∃ y, Y.getD i 0 = y := ⟨_, rfl⟩
    rw [hy] at hen
    have Hen := Lib.hid hen
    have Hy := Lib.hid hy
    have Hyl := Lib.hid hyl
    clear hsr hen hbb hY hyl hyi hy
    have x0 := HT4.out.c 0 rfl
    have x1 := HT4.out.c 1 rfl
    have x2 := HT4.out.c 2 rfl
    have xd : W4.cell? ⟨pd, 0, none⟩ = some (.slice sa len sc) := (HB4.out.cell (p := ⟨pd, 0, none⟩) HPd.out.1).trans (HPd.out.c 0 rfl)
    go_wp2_with fail
    refine HSD.out.mono ?_
    rintro e w5 ⟨lo5, hi5, ya, yc, rfl, hb, hz, hlo5⟩
    simp only at hz
    rw [Hyl.out] at hz
    (try rw [Hyl.out])
    have HB5 : Hid (Below w.heap.size w w5) := Lib.hid (HB4.out.trans (hb.mono HB4.out.size))
    have xj : w5.cell? ⟨pi, 0, none⟩ = some (.int .i64 (i : Int)) := (HB5.out.cell (p := ⟨pi, 0, none⟩) HPi.out.1).trans (HPi.out.c 0 rfl)
    obtain ⟨ba, oa, rfl, hba, hca⟩ := hz.row.cells (fun e => by have h9 := Hyl.out; rw [e, List.length_nil] at h9; omega)
    have xy := hca i (by rw [Hyl.out]; exact hi)
    rw [Hy.out] at xy
    clear hb hz hlo5 hca hba x0 x1 x2 xd HSD
    go_wp2_with fail
    go_ret
    exact ⟨_, rfl, by rw [Hen.out]; first | rfl | (congr 2; done) | simp, HB5.out⟩

set_option maxHeartbeats 32000000 in
theorem leaCloN (pc pi pd b0 o0 b1 o1 b2 o2 n c0 c1 c2 i len sc : Nat) (sa : Option Addr) (D M V : List Int) (Zs : List (List Int)) (c : Int) (w : World) (hs : Src w b0 o0 b1 o1 b2 o2 n D M V) (hpc : Bx w pc [.slice (some ⟨b0, o0, none⟩) n c0, .slice (some ⟨b1, o1, none⟩) n c1, .slice (some ⟨b2, o2, none⟩) n c2]) (hpi : Bx w pi [.int .i64 (i : Int)]) (hpd : Bx w pd [.slice sa len sc]) (h : RowSS w sa Zs) (hlen : Zs.length = len) (hrl : ∀ k, k < len → (zr Zs k).length ≤ 1048576) (hdy : (decide (Zs.length ≤ 64) && daysB Zs n) = false) (hrv : rivB D M V n = true) (hn12 : n ≤ 12) (hi : i < n) (hc0 : 0 ≤ c) (hc1 : c ≤ 1000000000) :
    Calls Try.prog 76 #[.int .i64 c, .pointer (some ⟨pc, 0, none⟩), .pointer (some ⟨pi, 0, none⟩), .pointer (some ⟨pd, 0, none⟩)] w (SayB false w) := by
  have HSrc := Lib.hid hs
  have HPc := Lib.hid hpc
  have HPi := Lib.hid hpi
  have HPd := Lib.hid hpd
  have H := Lib.hid h
  have Hlen := Lib.hid hlen
  have Hrl := Lib.hid hrl
  have HDy := Lib.hid hdy
  have HRv := Lib.hid hrv
  have hMl := hs.n1
  have HM := Lib.hid hMl
  have hn1 := hs.pos
  have hi0 : (0 : Int) ≤ (i : Int) := by omega
  have hi1 : (i : Int) < (n : Int) := by omega
  have hmm : n ≤ 1048576 := by omega
  have m0 := hs.k1 (i * 4) (by rw [hMl]; omega)
  have m1 := hs.k1 (i * 4 + 1) (by rw [hMl]; omega)
  have m2 := hs.k1 (i * 4 + 2) (by rw [hMl]; omega)
  have m3 := hs.k1 (i * 4 + 3) (by rw [hMl]; omega)
  rw [← Nat.add_assoc] at m1
  rw [← Nat.add_assoc] at m2
  rw [← Nat.add_assoc] at m3
  obtain ⟨s, hv0⟩ : ∃ x, M.getD (i * 4) 0 = x := ⟨_, rfl⟩
  obtain ⟨dd, hv1⟩ : ∃ x, M.getD (i * 4 + 1) 0 = x := ⟨_, rfl⟩
  obtain ⟨l, hv2⟩ : ∃ x, M.getD (i * 4 + 2) 0 = x := ⟨_, rfl⟩
  obtain ⟨q, hv3⟩ : ∃ x, M.getD (i * 4 + 3) 0 = x := ⟨_, rfl⟩
  rw [hv0] at m0
  rw [hv1] at m1
  rw [hv2] at m2
  rw [hv3] at m3
  have HV0 := Lib.hid hv0
  have HV1 := Lib.hid hv1
  have HV2 := Lib.hid hv2
  have HV3 := Lib.hid hv3
  have Hm0 := Lib.hid m0
  have Hm1 := Lib.hid m1
  have Hm2 := Lib.hid m2
  have Hm3 := Lib.hid m3
  have hl1 := hs.l1
  have hwc := hpc.1
  clear hs hpc hpi hpd h hlen hrl hdy hrv hMl hv0 hv1 hv2 hv3 m0 m1 m2 m3
  have HOw : Hid (∀ W, Below w.heap.size w W → Calls Try.prog 57 #[.agg #[.slice (some ⟨b0, o0, none⟩) n c0, .slice (some ⟨b1, o1, none⟩) n c1, .slice (some ⟨b2, o2, none⟩) n c2]] W (OwnQ D M V n W)) := Lib.hid fun W hW => ownRiver_any b0 o0 b1 o1 b2 o2 n c0 c1 c2 D M V W (HSrc.out.below hW (Nat.le_refl _))
  go_enter Try.func76, Try.ntmps76
  go_wp2_with fail
  refine wp_region_inv (id := 1) (leaS (w) _ _ _ _ _ _ _ _ _ _ _ _ _ _ _ _ _ _ _ _ _ _ _ _ _ _ _ _ _ _ _ _ _ _ _ _ _ _ pc b0 o0 b1 o1 b2 o2 n c0 c1 c2 i D M V s dd l q) (by kernel_rfl) (by kernel_rfl) ⟨⟨_, _, _, _, _, _, _, _, _, 0, 0, 0, 0, 0, 0, 0, 0, rfl, .start, .start, .start, .start, .start, .start, .start, .start, .start, .start, .start, .start, .start, .start, .start, .start, .start, .start, .start, .start, beld (Below.refl _ _) 1⟩⟩ ?hend1 ?hsteps1
  rotate_left
  case hsteps1 =>
    refine .cons 1 rfl ?_ ?_
    · intro d a w9 hsz hcl hinv hd hdep
      obtain ⟨⟨u6, u7, u10, u11, u12, u13, u14, u15, u16, g0, g1, g2, d0, d1, d2, p6, p7, rfl, f0, f1, f2, f3, f4, f5, f6, f7, f8, rf, rn, s7, s8, n78, nr7, nr8, b7, c7, b8, c8, hbel⟩⟩ := hinv
      have x0 := (hbel.cell (p := ⟨pc, 0, none⟩) hwc).trans (HPc.out.c 0 rfl)
      have x1 := (hbel.cell (p := ⟨pc, 1, none⟩) hwc).trans (HPc.out.c 1 rfl)
      have x2 := (hbel.cell (p := ⟨pc, 2, none⟩) hwc).trans (HPc.out.c 2 rfl)
      go_wp2_with fail
      exact ⟨⟨u6, u7, (.agg #[.slice (some ⟨b0, o0, none⟩) n c0, .slice (some ⟨b1, o1, none⟩) n c1, .slice (some ⟨b2, o2, none⟩) n c2]), u11, u12, u13, u14, u15, u16, g0, g1, g2, d0, d1, d2, p6, p7, rfl, Gd.new (by first | rfl | simp), (f1.keep (i := 0) (by decide)), (f2.keep (i := 0) (by decide)), (f3.keep (i := 0) (by decide)), (f4.keep (i := 0) (by decide)), (f5.keep (i := 0) (by decide)), (f6.keep (i := 0) (by decide)), (f7.keep (i := 0) (by decide)), (f8.keep (i := 0) (by decide)), (rf.keep (i := 0) (by decide)), (rn.keep (i := 0) (by decide)), (s7.keep (i := 0) (by decide)), (s8.keep (i := 0) (by decide)), (Gd.keep (i := 0) (n78.imp fun h => Gd.keep (i := 0) h (by decide)) (by decide)), (Gd.keep (i := 0) (nr7.imp fun h => Gd.keep (i := 0) h (by decide)) (by decide)), (Gd.keep (i := 0) (nr8.imp fun h => Gd.keep (i := 0) h (by decide)) (by decide)), (Gd.keep (i := 0) (b7.imp fun h => Ng.keep (i := 0) h (by decide)) (by decide)), (c7.keep (i := 0) (by decide)), (Gd.keep (i := 0) (b8.imp fun h => Ng.keep (i := 0) h (by decide)) (by decide)), (c8.keep (i := 0) (by decide)), hbel⟩⟩
    refine .cons 2 rfl ?_ ?_
    · intro d a w9 hsz hcl hinv hd hdep
      obtain ⟨⟨u6, u7, u10, u11, u12, u13, u14, u15, u16, g0, g1, g2, d0, d1, d2, p6, p7, rfl, f0, f1, f2, f3, f4, f5, f6, f7, f8, rf, rn, s7, s8, n78, nr7, nr8, b7, c7, b8, c8, hbel⟩⟩ := hinv
      have e0 := f0 (hdep.get 0 rfl)
      subst e0
      have q9 := hcl.not hd 9 _ rfl rfl
      go_wp2_with fail
      refine (HOw.out _ hbel).mono ?_
      rintro e w8 ⟨lo, k0, k1, k2, y0, y1, y2, rfl, r0, r1, r2, n01, n02, n12, hlo, hb⟩
      have z0 := (r0.lt k0 rfl).1
      have z1 := (r1.lt k1 rfl).1
      have z2 := (r2.lt k2 rfl).1
      have hw0 := hbel.size
      go_wp2_with fail
      exact ⟨⟨u6, u7, (.agg #[.slice (some ⟨b0, o0, none⟩) n c0, .slice (some ⟨b1, o1, none⟩) n c1, .slice (some ⟨b2, o2, none⟩) n c2]), (.agg #[.slice (some ⟨k0, 0, none⟩) n y0, .slice (some ⟨k1, 0, none⟩) n y1, .slice (some ⟨k2, 0, none⟩) n y2]), u12, u13, u14, u15, u16, k0, k1, k2, y0, y1, y2, p6, p7, rfl, Gd.new rfl, Gd.new (by first | rfl | simp), (f2.keep (i := 1) (by decide)), (f3.keep (i := 1) (by decide)), (f4.keep (i := 1) (by decide)), (f5.keep (i := 1) (by decide)), (f6.keep (i := 1) (by decide)), (f7.keep (i := 1) (by decide)), (f8.keep (i := 1) (by decide)), Gd.new ⟨owns_lo r0 (Nat.le_trans hw0 hlo), owns_lo r1 (Nat.le_trans hw0 hlo), owns_lo r2 (Nat.le_trans hw0 hlo)⟩, Gd.new ⟨n01, n02, n12⟩, (Gd.keep (i := 1) (fun h9 => ⟨(s7 h9).1, Nat.lt_of_lt_of_le (s7 h9).2 hb.size⟩) (by decide)), (Gd.keep (i := 1) (fun h9 => ⟨(s8 h9).1, Nat.lt_of_lt_of_le (s8 h9).2 hb.size⟩) (by decide)), (Gd.keep (i := 1) (n78.imp fun h => Gd.keep (i := 1) h (by decide)) (by decide)), (fun _ hj => by rw [set_ne (by decide)] at hj; have h9 := (s7 hj).2; refine ⟨?_, ?_, ?_⟩ <;> omega), (fun _ hj => by rw [set_ne (by decide)] at hj; have h9 := (s8 hj).2; refine ⟨?_, ?_, ?_⟩ <;> omega), (Gd.keep (i := 1) (fun h9 => Ng.keep (i := 1) (fun h8 => (b7 h9 h8).below hb (s7 h9).2) (by decide)) (by decide)), (Gd.undone (i := 1) (q9) (by decide)), (Gd.keep (i := 1) (fun h9 => Ng.keep (i := 1) (fun h8 => (b8 h9 h8).below hb (s8 h9).2) (by decide)) (by decide)), (Gd.keep (i := 1) (fun h9 => (c8 h9).below hb (c8 h9).1.1) (by decide)), (hbel.trans (hb.mono hbel.size))⟩⟩
    refine .cons 3 rfl ?_ ?_
    · intro d a w9 hsz hcl hinv hd hdep
      obtain ⟨⟨u6, u7, u10, u11, u12, u13, u14, u15, u16, g0, g1, g2, d0, d1, d2, p6, p7, rfl, f0, f1, f2, f3, f4, f5, f6, f7, f8, rf, rn, s7, s8, n78, nr7, nr8, b7, c7, b8, c8, hbel⟩⟩ := hinv
      go_wp2_with fail
      exact ⟨⟨u6, u7, u10, u11, (.pointer (some ⟨pc, 1, none⟩)), u13, u14, u15, u16, g0, g1, g2, d0, d1, d2, p6, p7, rfl, (f0.keep (i := 2) (by decide)), (f1.keep (i := 2) (by decide)), Gd.new (by first | rfl | simp), (f3.keep (i := 2) (by decide)), (f4.keep (i := 2) (by decide)), (f5.keep (i := 2) (by decide)), (f6.keep (i := 2) (by decide)), (f7.keep (i := 2) (by decide)), (f8.keep (i := 2) (by decide)), (rf.keep (i := 2) (by decide)), (rn.keep (i := 2) (by decide)), (s7.keep (i := 2) (by decide)), (s8.keep (i := 2) (by decide)), (Gd.keep (i := 2) (n78.imp fun h => Gd.keep (i := 2) h (by decide)) (by decide)), (Gd.keep (i := 2) (nr7.imp fun h => Gd.keep (i := 2) h (by decide)) (by decide)), (Gd.keep (i := 2) (nr8.imp fun h => Gd.keep (i := 2) h (by decide)) (by decide)), (Gd.keep (i := 2) (b7.imp fun h => Ng.keep (i := 2) h (by decide)) (by decide)), (c7.keep (i := 2) (by decide)), (Gd.keep (i := 2) (b8.imp fun h => Ng.keep (i := 2) h (by decide)) (by decide)), (c8.keep (i := 2) (by decide)), hbel⟩⟩
    refine .cons 4 rfl ?_ ?_
    · intro d a w9 hsz hcl hinv hd hdep
      obtain ⟨⟨u6, u7, u10, u11, u12, u13, u14, u15, u16, g0, g1, g2, d0, d1, d2, p6, p7, rfl, f0, f1, f2, f3, f4, f5, f6, f7, f8, rf, rn, s7, s8, n78, nr7, nr8, b7, c7, b8, c8, hbel⟩⟩ := hinv
      have e2 := f2 (hdep.get 2 rfl)
      subst e2
      have x1 := (hbel.cell (p := ⟨pc, 1, none⟩) hwc).trans (HPc.out.c 1 rfl)
      go_wp2_with fail
      exact ⟨⟨u6, u7, u10, u11, (.pointer (some ⟨pc, 1, none⟩)), (.slice (some ⟨b1, o1, none⟩) n c1), u14, u15, u16, g0, g1, g2, d0, d1, d2, p6, p7, rfl, (f0.keep (i := 3) (by decide)), (f1.keep (i := 3) (by decide)), Gd.new rfl, Gd.new (by first | rfl | simp), (f4.keep (i := 3) (by decide)), (f5.keep (i := 3) (by decide)), (f6.keep (i := 3) (by decide)), (f7.keep (i := 3) (by decide)), (f8.keep (i := 3) (by decide)), (rf.keep (i := 3) (by decide)), (rn.keep (i := 3) (by decide)), (s7.keep (i := 3) (by decide)), (s8.keep (i := 3) (by decide)), (Gd.keep (i := 3) (n78.imp fun h => Gd.keep (i := 3) h (by decide)) (by decide)), (Gd.keep (i := 3) (nr7.imp fun h => Gd.keep (i := 3) h (by decide)) (by decide)), (Gd.keep (i := 3) (nr8.imp fun h => Gd.keep (i := 3) h (by decide)) (by decide)), (Gd.keep (i := 3) (b7.imp fun h => Ng.keep (i := 3) h (by decide)) (by decide)), (c7.keep (i := 3) (by decide)), (Gd.keep (i := 3) (b8.imp fun h => Ng.keep (i := 3) h (by decide)) (by decide)), (c8.keep (i := 3) (by decide)), hbel⟩⟩
    refine .cons 5 rfl ?_ ?_
    · intro d a w9 hsz hcl hinv hd hdep
      obtain ⟨⟨u6, u7, u10, u11, u12, u13, u14, u15, u16, g0, g1, g2, d0, d1, d2, p6, p7, rfl, f0, f1, f2, f3, f4, f5, f6, f7, f8, rf, rn, s7, s8, n78, nr7, nr8, b7, c7, b8, c8, hbel⟩⟩ := hinv
      have x0 := (hbel.cell (p := ⟨pi, 0, none⟩) HPi.out.1).trans (HPi.out.c 0 rfl)
      go_wp2_with fail
      exact ⟨⟨u6, u7, u10, u11, u12, u13, (.int .i64 (i : Int)), u15, u16, g0, g1, g2, d0, d1, d2, p6, p7, rfl, (f0.keep (i := 4) (by decide)), (f1.keep (i := 4) (by decide)), (f2.keep (i := 4) (by decide)), (f3.keep (i := 4) (by decide)), Gd.new (by first | rfl | simp), (f5.keep (i := 4) (by decide)), (f6.keep (i := 4) (by decide)), (f7.keep (i := 4) (by decide)), (f8.keep (i := 4) (by decide)), (rf.keep (i := 4) (by decide)), (rn.keep (i := 4) (by decide)), (s7.keep (i := 4) (by decide)), (s8.keep (i := 4) (by decide)), (Gd.keep (i := 4) (n78.imp fun h => Gd.keep (i := 4) h (by decide)) (by decide)), (Gd.keep (i := 4) (nr7.imp fun h => Gd.keep (i := 4) h (by decide)) (by decide)), (Gd.keep (i := 4) (nr8.imp fun h => Gd.keep (i := 4) h (by decide)) (by decide)), (Gd.keep (i := 4) (b7.imp fun h => Ng.keep (i := 4) h (by decide)) (by decide)), (c7.keep (i := 4) (by decide)), (Gd.keep (i := 4) (b8.imp fun h => Ng.keep (i := 4) h (by decide)) (by decide)), (c8.keep (i := 4) (by decide)), hbel⟩⟩
    refine .cons 6 rfl ?_ ?_
    · intro d a w9 hsz hcl hinv hd hdep
      obtain ⟨⟨u6, u7, u10, u11, u12, u13, u14, u15, u16, g0, g1, g2, d0, d1, d2, p6, p7, rfl, f0, f1, f2, f3, f4, f5, f6, f7, f8, rf, rn, s7, s8, n78, nr7, nr8, b7, c7, b8, c8, hbel⟩⟩ := hinv
      have e3 := f3 (hdep.get 3 rfl)
      subst e3
      have e4 := f4 (hdep.get 4 rfl)
      subst e4
      go_wp2_with fail
      exact ⟨⟨u6, u7, u10, u11, u12, (.slice (some ⟨b1, o1, none⟩) n c1), (.int .i64 (i : Int)), (.pointer (some ⟨b1, o1 + i * 4, none⟩)), u16, g0, g1, g2, d0, d1, d2, p6, p7, rfl, (f0.keep (i := 5) (by decide)), (f1.keep (i := 5) (by decide)), (f2.keep (i := 5) (by decide)), Gd.new rfl, Gd.new rfl, Gd.new (by first | rfl | simp), (f6.keep (i := 5) (by decide)), (f7.keep (i := 5) (by decide)), (f8.keep (i := 5) (by decide)), (rf.keep (i := 5) (by decide)), (rn.keep (i := 5) (by decide)), (s7.keep (i := 5) (by decide)), (s8.keep (i := 5) (by decide)), (Gd.keep (i := 5) (n78.imp fun h => Gd.keep (i := 5) h (by decide)) (by decide)), (Gd.keep (i := 5) (nr7.imp fun h => Gd.keep (i := 5) h (by decide)) (by decide)), (Gd.keep (i := 5) (nr8.imp fun h => Gd.keep (i := 5) h (by decide)) (by decide)), (Gd.keep (i := 5) (b7.imp fun h => Ng.keep (i := 5) h (by decide)) (by decide)), (c7.keep (i := 5) (by decide)), (Gd.keep (i := 5) (b8.imp fun h => Ng.keep (i := 5) h (by decide)) (by decide)), (c8.keep (i := 5) (by decide)), hbel⟩⟩
    refine .cons 7 rfl ?_ ?_
    · intro d a w9 hsz hcl hinv hd hdep
      obtain ⟨⟨u6, u7, u10, u11, u12, u13, u14, u15, u16, g0, g1, g2, d0, d1, d2, p6, p7, rfl, f0, f1, f2, f3, f4, f5, f6, f7, f8, rf, rn, s7, s8, n78, nr7, nr8, b7, c7, b8, c8, hbel⟩⟩ := hinv
      have e5 := f5 (hdep.get 5 rfl)
      subst e5
      have y0 := (hbel.cell (p := ⟨b1, o1 + i * 4, none⟩) hl1).trans Hm0.out
      have y1 := (hbel.cell (p := ⟨b1, o1 + i * 4 + 1, none⟩) hl1).trans Hm1.out
      have y2 := (hbel.cell (p := ⟨b1, o1 + i * 4 + 2, none⟩) hl1).trans Hm2.out
      have y3 := (hbel.cell (p := ⟨b1, o1 + i * 4 + 3, none⟩) hl1).trans Hm3.out
      go_wp2_with fail
      exact ⟨⟨u6, u7, u10, u11, u12, u13, u14, (.pointer (some ⟨b1, o1 + i * 4, none⟩)), (.agg #[.int .i64 s, .int .i64 dd, .int .i64 l, .int .i64 q]), g0, g1, g2, d0, d1, d2, p6, p7, rfl, (f0.keep (i := 6) (by decide)), (f1.keep (i := 6) (by decide)), (f2.keep (i := 6) (by decide)), (f3.keep (i := 6) (by decide)), (f4.keep (i := 6) (by decide)), Gd.new rfl, Gd.new (by first | rfl | simp), (f7.keep (i := 6) (by decide)), (f8.keep (i := 6) (by decide)), (rf.keep (i := 6) (by decide)), (rn.keep (i := 6) (by decide)), (s7.keep (i := 6) (by decide)), (s8.keep (i := 6) (by decide)), (Gd.keep (i := 6) (n78.imp fun h => Gd.keep (i := 6) h (by decide)) (by decide)), (Gd.keep (i := 6) (nr7.imp fun h => Gd.keep (i := 6) h (by decide)) (by decide)), (Gd.keep (i := 6) (nr8.imp fun h => Gd.keep (i := 6) h (by decide)) (by decide)), (Gd.keep (i := 6) (b7.imp fun h => Ng.keep (i := 6) h (by decide)) (by decide)), (c7.keep (i := 6) (by decide)), (Gd.keep (i := 6) (b8.imp fun h => Ng.keep (i := 6) h (by decide)) (by decide)), (c8.keep (i := 6) (by decide)), hbel⟩⟩
    refine .cons 8 rfl ?_ ?_
    · intro d a w9 hsz hcl hinv hd hdep
      obtain ⟨⟨u6, u7, u10, u11, u12, u13, u14, u15, u16, g0, g1, g2, d0, d1, d2, p6, p7, rfl, f0, f1, f2, f3, f4, f5, f6, f7, f8, rf, rn, s7, s8, n78, nr7, nr8, b7, c7, b8, c8, hbel⟩⟩ := hinv
      have q9 := hcl.not hd 9 _ rfl rfl
      go_wp2_with fail
      exact ⟨⟨(.pointer (some ⟨w9.heap.size, 0, none⟩)), u7, u10, u11, u12, u13, u14, u15, u16, g0, g1, g2, d0, d1, d2, w9.heap.size, p7, rfl, (f0.keep (i := 7) (by decide)), (f1.keep (i := 7) (by decide)), (f2.keep (i := 7) (by decide)), (f3.keep (i := 7) (by decide)), (f4.keep (i := 7) (by decide)), (f5.keep (i := 7) (by decide)), (f6.keep (i := 7) (by decide)), Gd.new (by first | rfl | simp), (f8.keep (i := 7) (by decide)), (Gd.keep (i := 7) (fun h9 => ⟨(rf h9).1.alloc _, (rf h9).2.1.alloc _, (rf h9).2.2.alloc _⟩) (by decide)), (rn.keep (i := 7) (by decide)), Gd.new ⟨hbel.size, by simp⟩, (Gd.keep (i := 7) (fun h9 => ⟨(s8 h9).1, by have h7 := (s8 h9).2; simp; omega⟩) (by decide)), (fun _ hj => by rw [set_ne (by decide)] at hj; have h9 := (s8 hj).2; omega), (fun hj _ => by rw [set_ne (by decide)] at hj; obtain ⟨r0, r1, r2⟩ := rf hj; have z0 := (r0.lt g0 rfl).2; have z1 := (r1.lt g1 rfl).2; have z2 := (r2.lt g2 rfl).2; refine ⟨?_, ?_, ?_⟩ <;> omega), (Gd.keep (i := 7) (nr8.imp fun h => Gd.keep (i := 7) h (by decide)) (by decide)), Gd.new (fun _ => Bw.new w9 [.slice none 0 0, .slice none 0 0, .slice none 0 0] _), (Gd.undone (i := 7) (q9) (by decide)), (Gd.keep (i := 7) (fun h9 => Ng.keep (i := 7) (fun h8 => (b8 h9 h8).alloc _) (by decide)) (by decide)), (Gd.keep (i := 7) (fun h9 => (c8 h9).alloc _) (by decide)), (hbel.alloc hbel.size _)⟩⟩
    refine .cons 9 rfl ?_ ?_
    · intro d a w9 hsz hcl hinv hd hdep
      obtain ⟨⟨u6, u7, u10, u11, u12, u13, u14, u15, u16, g0, g1, g2, d0, d1, d2, p6, p7, rfl, f0, f1, f2, f3, f4, f5, f6, f7, f8, rf, rn, s7, s8, n78, nr7, nr8, b7, c7, b8, c8, hbel⟩⟩ := hinv
      have q9 := hcl.not hd 10 _ rfl rfl
      go_wp2_with fail
      exact ⟨⟨u6, (.pointer (some ⟨w9.heap.size, 0, none⟩)), u10, u11, u12, u13, u14, u15, u16, g0, g1, g2, d0, d1, d2, p6, w9.heap.size, rfl, (f0.keep (i := 8) (by decide)), (f1.keep (i := 8) (by decide)), (f2.keep (i := 8) (by decide)), (f3.keep (i := 8) (by decide)), (f4.keep (i := 8) (by decide)), (f5.keep (i := 8) (by decide)), (f6.keep (i := 8) (by decide)), (f7.keep (i := 8) (by decide)), Gd.new (by first | rfl | simp), (Gd.keep (i := 8) (fun h9 => ⟨(rf h9).1.alloc _, (rf h9).2.1.alloc _, (rf h9).2.2.alloc _⟩) (by decide)), (rn.keep (i := 8) (by decide)), (Gd.keep (i := 8) (fun h9 => ⟨(s7 h9).1, by have h7 := (s7 h9).2; simp; omega⟩) (by decide)), Gd.new ⟨hbel.size, by simp⟩, (fun hj _ => by rw [set_ne (by decide)] at hj; have h9 := (s7 hj).2; omega), (Gd.keep (i := 8) (nr7.imp fun h => Gd.keep (i := 8) h (by decide)) (by decide)), (fun hj _ => by rw [set_ne (by decide)] at hj; obtain ⟨r0, r1, r2⟩ := rf hj; have z0 := (r0.lt g0 rfl).2; have z1 := (r1.lt g1 rfl).2; have z2 := (r2.lt g2 rfl).2; refine ⟨?_, ?_, ?_⟩ <;> omega), (Gd.keep (i := 8) (fun h9 => Ng.keep (i := 8) (fun h8 => (b7 h9 h8).alloc _) (by decide)) (by decide)), (Gd.keep (i := 8) (fun h9 => (c7 h9).alloc _) (by decide)), Gd.new (fun _ => Bw.new w9 [.int .i64 0, .int .i64 0, .int .i64 0, .int .i64 0] _), (Gd.undone (i := 8) (q9) (by decide)), (hbel.alloc hbel.size _)⟩⟩
    refine .cons 10 rfl ?_ ?_
    · intro d a w9 hsz hcl hinv hd hdep
      obtain ⟨⟨u6, u7, u10, u11, u12, u13, u14, u15, u16, g0, g1, g2, d0, d1, d2, p6, p7, rfl, f0, f1, f2, f3, f4, f5, f6, f7, f8, rf, rn, s7, s8, n78, nr7, nr8, b7, c7, b8, c8, hbel⟩⟩ := hinv
      have e7 := f7 (hdep.get 7 rfl)
      subst e7
      have e1 := f1 (hdep.get 1 rfl)
      subst e1
      have hal := hdep.get 7 rfl
      have hbp := b7 hal hd
      have hc0 := hbp.c 0 rfl
      have hc1 := hbp.c 1 rfl
      have hc2 := hbp.c 2 rfl
      have hf0 := hbp.f 0 (by simp)
      have hf1 := hbp.f 1 (by simp)
      have hf2 := hbp.f 2 (by simp)
      have hp9 := s7 hal
      go_wp2_with fail
      exact ⟨⟨(.pointer (some ⟨p6, 0, none⟩)), u7, u10, (.agg #[.slice (some ⟨g0, 0, none⟩) n d0, .slice (some ⟨g1, 0, none⟩) n d1, .slice (some ⟨g2, 0, none⟩) n d2]), u12, u13, u14, u15, u16, g0, g1, g2, d0, d1, d2, p6, p7, rfl, (f0.keep (i := 9) (by decide)), Gd.new rfl, (f2.keep (i := 9) (by decide)), (f3.keep (i := 9) (by decide)), (f4.keep (i := 9) (by decide)), (f5.keep (i := 9) (by decide)), (f6.keep (i := 9) (by decide)), Gd.new rfl, (f8.keep (i := 9) (by decide)), (Gd.keep (i := 9) (fun h9 => ⟨(owns_far (owns_far (owns_far (rf h9).1 (by have h7 := nr7 h9 hal; simp [Value.ownBlock]; omega) _) (by have h7 := nr7 h9 hal; simp [Value.ownBlock]; omega) _) (by have h7 := nr7 h9 hal; simp [Value.ownBlock]; omega) _), (owns_far (owns_far (owns_far (rf h9).2.1 (by have h7 := nr7 h9 hal; simp [Value.ownBlock]; omega) _) (by have h7 := nr7 h9 hal; simp [Value.ownBlock]; omega) _) (by have h7 := nr7 h9 hal; simp [Value.ownBlock]; omega) _), (owns_far (owns_far (owns_far (rf h9).2.2 (by have h7 := nr7 h9 hal; simp [Value.ownBlock]; omega) _) (by have h7 := nr7 h9 hal; simp [Value.ownBlock]; omega) _) (by have h7 := nr7 h9 hal; simp [Value.ownBlock]; omega) _)⟩) (by decide)), (rn.keep (i := 9) (by decide)), (Gd.keep (i := 9) (fun h9 => ⟨(s7 h9).1, by simp only [setCell_size]; exact (s7 h9).2⟩) (by decide)), (Gd.keep (i := 9) (fun h9 => ⟨(s8 h9).1, by simp only [setCell_size]; exact (s8 h9).2⟩) (by decide)), (Gd.keep (i := 9) (n78.imp fun h => Gd.keep (i := 9) h (by decide)) (by decide)), (Gd.keep (i := 9) (nr7.imp fun h => Gd.keep (i := 9) h (by decide)) (by decide)), (Gd.keep (i := 9) (nr8.imp fun h => Gd.keep (i := 9) h (by decide)) (by decide)), (Gd.keep (i := 9) (fun h9 => Ng.new (by rw [hsz]; exact (by decide : 9 < 11))) (by decide)), Gd.new (((hbp.put 0 (by simp) (.slice (some ⟨g0, 0, none⟩) n d0)).put 1 (by simp) (.slice (some ⟨g1, 0, none⟩) n d1)).put 2 (by simp) (.slice (some ⟨g2, 0, none⟩) n d2)), (Gd.keep (i := 9) (fun h9x => Ng.keep (i := 9) (fun h8 => ((((b8 h9x h8).setOther (p := ⟨p6, 0, none⟩) (by have h7 := n78 hal h9x; show p6 ≠ p7; omega) _).setOther (p := ⟨p6, 1, none⟩) (by have h7 := n78 hal h9x; show p6 ≠ p7; omega) _).setOther (p := ⟨p6, 2, none⟩) (by have h7 := n78 hal h9x; show p6 ≠ p7; omega) _)) (by decide)) (by decide)), (Gd.keep (i := 9) (fun h9y => by have h9x := (hcl 10 _ rfl h9y).get 8 rfl; exact ((((c8 h9y).setOther (p := ⟨p6, 0, none⟩) (by have h7 := n78 hal h9x; show p6 ≠ p7; omega) _).setOther (p := ⟨p6, 1, none⟩) (by have h7 := n78 hal h9x; show p6 ≠ p7; omega) _).setOther (p := ⟨p6, 2, none⟩) (by have h7 := n78 hal h9x; show p6 ≠ p7; omega) _)) (by decide)), (((hbel.setCell (p := ⟨p6, 0, none⟩) hp9.1 _).setCell (p := ⟨p6, 1, none⟩) hp9.1 _).setCell (p := ⟨p6, 2, none⟩) hp9.1 _)⟩⟩
    refine .cons 11 rfl ?_ trivial
    · intro d a w9 hsz hcl hinv hd hdep
      obtain ⟨⟨u6, u7, u10, u11, u12, u13, u14, u15, u16, g0, g1, g2, d0, d1, d2, p6, p7, rfl, f0, f1, f2, f3, f4, f5, f6, f7, f8, rf, rn, s7, s8, n78, nr7, nr8, b7, c7, b8, c8, hbel⟩⟩ := hinv
      have e8 := f8 (hdep.get 8 rfl)
      subst e8
      have e6 := f6 (hdep.get 6 rfl)
      subst e6
      have hal := hdep.get 8 rfl
      have hbp := b8 hal hd
      have hc0 := hbp.c 0 rfl
      have hc1 := hbp.c 1 rfl
      have hc2 := hbp.c 2 rfl
      have hc3 := hbp.c 3 rfl
      have hf0 := hbp.f 0 (by simp)
      have hf1 := hbp.f 1 (by simp)
      have hf2 := hbp.f 2 (by simp)
      have hf3 := hbp.f 3 (by simp)
      have hp9 := s8 hal
      go_wp2_with fail
      exact ⟨⟨u6, (.pointer (some ⟨p7, 0, none⟩)), u10, u11, u12, u13, u14, u15, (.agg #[.int .i64 s, .int .i64 dd, .int .i64 l, .int .i64 q]), g0, g1, g2, d0, d1, d2, p6, p7, rfl, (f0.keep (i := 10) (by decide)), (f1.keep (i := 10) (by decide)), (f2.keep (i := 10) (by decide)), (f3.keep (i := 10) (by decide)), (f4.keep (i := 10) (by decide)), (f5.keep (i := 10) (by decide)), Gd.new rfl, (f7.keep (i := 10) (by decide)), Gd.new rfl, (Gd.keep (i := 10) (fun h9 => ⟨(owns_far (owns_far (owns_far (owns_far (rf h9).1 (by have h7 := nr8 h9 hal; simp [Value.ownBlock]; omega) _) (by have h7 := nr8 h9 hal; simp [Value.ownBlock]; omega) _) (by have h7 := nr8 h9 hal; simp [Value.ownBlock]; omega) _) (by have h7 := nr8 h9 hal; simp [Value.ownBlock]; omega) _), (owns_far (owns_far (owns_far (owns_far (rf h9).2.1 (by have h7 := nr8 h9 hal; simp [Value.ownBlock]; omega) _) (by have h7 := nr8 h9 hal; simp [Value.ownBlock]; omega) _) (by have h7 := nr8 h9 hal; simp [Value.ownBlock]; omega) _) (by have h7 := nr8 h9 hal; simp [Value.ownBlock]; omega) _), (owns_far (owns_far (owns_far (owns_far (rf h9).2.2 (by have h7 := nr8 h9 hal; simp [Value.ownBlock]; omega) _) (by have h7 := nr8 h9 hal; simp [Value.ownBlock]; omega) _) (by have h7 := nr8 h9 hal; simp [Value.ownBlock]; omega) _) (by have h7 := nr8 h9 hal; simp [Value.ownBlock]; omega) _)⟩) (by decide)), (rn.keep (i := 10) (by decide)), (Gd.keep (i := 10) (fun h9 => ⟨(s7 h9).1, by simp only [setCell_size]; exact (s7 h9).2⟩) (by decide)), (Gd.keep (i := 10) (fun h9 => ⟨(s8 h9).1, by simp only [setCell_size]; exact (s8 h9).2⟩) (by decide)), (Gd.keep (i := 10) (n78.imp fun h => Gd.keep (i := 10) h (by decide)) (by decide)), (Gd.keep (i := 10) (nr7.imp fun h => Gd.keep (i := 10) h (by decide)) (by decide)), (Gd.keep (i := 10) (nr8.imp fun h => Gd.keep (i := 10) h (by decide)) (by decide)), (Gd.keep (i := 10) (fun h9x => Ng.keep (i := 10) (fun h8 => (((((b7 h9x h8).setOther (p := ⟨p7, 0, none⟩) (by have h7 := n78 h9x hal; show p7 ≠ p6; omega) _).setOther (p := ⟨p7, 1, none⟩) (by have h7 := n78 h9x hal; show p7 ≠ p6; omega) _).setOther (p := ⟨p7, 2, none⟩) (by have h7 := n78 h9x hal; show p7 ≠ p6; omega) _).setOther (p := ⟨p7, 3, none⟩) (by have h7 := n78 h9x hal; show p7 ≠ p6; omega) _)) (by decide)) (by decide)), (Gd.keep (i := 10) (fun h9y => by have h9x := (hcl 9 _ rfl h9y).get 7 rfl; exact (((((c7 h9y).setOther (p := ⟨p7, 0, none⟩) (by have h7 := n78 h9x hal; show p7 ≠ p6; omega) _).setOther (p := ⟨p7, 1, none⟩) (by have h7 := n78 h9x hal; show p7 ≠ p6; omega) _).setOther (p := ⟨p7, 2, none⟩) (by have h7 := n78 h9x hal; show p7 ≠ p6; omega) _).setOther (p := ⟨p7, 3, none⟩) (by have h7 := n78 h9x hal; show p7 ≠ p6; omega) _)) (by decide)), (Gd.keep (i := 10) (fun h9 => Ng.new (by rw [hsz]; exact (by decide : 10 < 11))) (by decide)), Gd.new ((((hbp.put 0 (by simp) (.int .i64 s)).put 1 (by simp) (.int .i64 dd)).put 2 (by simp) (.int .i64 l)).put 3 (by simp) (.int .i64 q)), ((((hbel.setCell (p := ⟨p7, 0, none⟩) hp9.1 _).setCell (p := ⟨p7, 1, none⟩) hp9.1 _).setCell (p := ⟨p7, 2, none⟩) hp9.1 _).setCell (p := ⟨p7, 3, none⟩) hp9.1 _)⟩⟩
  case hend1 =>
    intro d a w9 hinv hall
    obtain ⟨⟨u6, u7, u10, u11, u12, u13, u14, u15, u16, g0, g1, g2, d0, d1, d2, p6, p7, rfl, f0, f1, f2, f3, f4, f5, f6, f7, f8, rf, rn, s7, s8, n78, nr7, nr8, b7, c7, b8, c8, hbel⟩⟩ := hinv
    have e0 := f0 (hall 0 (by decide))
    subst e0
    have e1 := f1 (hall 1 (by decide))
    subst e1
    have e2 := f2 (hall 2 (by decide))
    subst e2
    have e3 := f3 (hall 3 (by decide))
    subst e3
    have e4 := f4 (hall 4 (by decide))
    subst e4
    have e5 := f5 (hall 5 (by decide))
    subst e5
    have e6 := f6 (hall 6 (by decide))
    subst e6
    have e7 := f7 (hall 7 (by decide))
    subst e7
    have e8 := f8 (hall 8 (by decide))
    subst e8
    obtain ⟨hr0, hr1, hr2⟩ := rf (hall 1 (by decide))
    obtain ⟨n01, n02, n12⟩ := rn (hall 1 (by decide))
    have hs7 := s7 (hall 7 (by decide))
    have hs8 := s8 (hall 8 (by decide))
    have hn78 := n78 (hall 7 (by decide)) (hall 8 (by decide))
    have hnr7 := nr7 (hall 1 (by decide)) (hall 7 (by decide))
    have hnr8 := nr8 (hall 1 (by decide)) (hall 8 (by decide))
    have hc7 := c7 (hall 9 (by decide))
    have hc8 := c8 (hall 10 (by decide))
    have HBL := Lib.hid hbel
    clear f0 f1 f2 f3 f4 f5 f6 f7 f8 rf rn s7 s8 n78 nr7 nr8 b7 c7 b8 c8 hbel
    have HC7 := Lib.hid hc7
    have HC8 := Lib.hid hc8
    have HR0 := Lib.hid hr0
    have HR1 := Lib.hid hr1
    have HR2 := Lib.hid hr2
    have HN := Lib.hid hnr7
    have HNn : Hid (g0 ≠ g1 ∧ g0 ≠ g2 ∧ g1 ≠ g2) := Lib.hid ⟨n01, n02, n12⟩
    have HS7 := Lib.hid hs7
    have hg1 : w.heap.size ≤ g1 := (hr1.lt g1 rfl).1
    have HG1 := Lib.hid hg1
    have x1 := hc7.c 1 rfl
    have y0 := hc8.c 0 rfl
    have y1 := hc8.c 1 rfl
    have y2 := hc8.c 2 rfl
    have y3 := hc8.c 3 rfl
    have xi := (HBL.out.cell (p := ⟨pi, 0, none⟩) HPi.out.1).trans (HPi.out.c 0 rfl)
    have z0 := hr1.cellAt (i * 4) (by omega)
    rw [ic_at (by rw [HM.out]; omega)] at z0
    have k0 := hr1.frozenAt (i * 4)
    have z1 := hr1.cellAt (i * 4 + 1) (by omega)
    rw [ic_at (by rw [HM.out]; omega)] at z1
    have k1 := hr1.frozenAt (i * 4 + 1)
    have z2 := hr1.cellAt (i * 4 + 2) (by omega)
    rw [ic_at (by rw [HM.out]; omega)] at z2
    have k2 := hr1.frozenAt (i * 4 + 2)
    have z3 := hr1.cellAt (i * 4 + 3) (by omega)
    rw [ic_at (by rw [HM.out]; omega)] at z3
    have k3 := hr1.frozenAt (i * 4 + 3)
    clear hc7 hc8 hr0 hr1 hr2 hnr7 hnr8 n01 n02 n12 hs7 hs8 hn78 hg1
    go_upto_region 3 with fail
    generalize hW4 : World.setCell _ _ _ = W4
    have hk4 : Kept g1 (g1 + 1) w9 W4 := by rw [← hW4]; exact (((Kept.set w9 ⟨g1, i * 4, none⟩ (.int .i64 (c)) ⟨Nat.le_refl _, Nat.lt_succ_self _⟩).trans (Kept.set _ ⟨g1, i * 4 + 1, none⟩ (.int .i64 (min dd c)) ⟨Nat.le_refl _, Nat.lt_succ_self _⟩)).trans (Kept.set _ ⟨g1, i * 4 + 2, none⟩ (.int .i64 (l)) ⟨Nat.le_refl _, Nat.lt_succ_self _⟩)).trans (Kept.set _ ⟨g1, i * 4 + 3, none⟩ (.int .i64 (min q c)) ⟨Nat.le_refl _, Nat.lt_succ_self _⟩)
    have hq1 : W4.ownsRow w.heap.size 98 4 (.slice (some ⟨g1, 0, none⟩) n d1) n (ic (setD M i c)) := by
      have h9 := ((((HR1.out.stored (i * 4) (.int .i64 (c))).1.stored (i * 4 + 1) (.int .i64 (min dd c))).1.stored (i * 4 + 2) (.int .i64 (l))).1.stored (i * 4 + 3) (.int .i64 (min q c))).1
      rw [← ic_set, ← ic_set, ← ic_set, ← ic_set] at h9
      have e9 : (((M.set (i * 4) c).set (i * 4 + 1) (min dd c)).set (i * 4 + 2) l).set (i * 4 + 3) (min q c) = setD M i c := by
        unfold setD
        rw [HV1.out, HV3.out]
        congr 1
        have h7 : ((M.set (i * 4) c).set (i * 4 + 1) (min dd c)).getD (i * 4 + 2) 0 = l := by rw [getD_set _ _ _ _ (by rw [List.length_set, HM.out]; omega), if_neg (by omega), getD_set _ _ _ _ (by rw [HM.out]; omega), if_neg (by omega)]; exact HV2.out
        rw [← h7]
        exact set_self (by simp only [List.length_set]; rw [HM.out]; omega)
      rw [e9] at h9
      rw [← hW4]
      exact h9
    have HU0 : Hid (W4.ownsRow w.heap.size 2 1 (.slice (some ⟨g0, 0, none⟩) n d0) n (ic D)) := Lib.hid (ownsRow_sameG HR0.out fun b hb9 => hk4.block b (by have e9 : g0 = b := Option.some.inj hb9; have h9 := HNn.out; omega) (HR0.out.lt b hb9).2)
    have HU2 : Hid (W4.ownsRow w.heap.size 2 1 (.slice (some ⟨g2, 0, none⟩) n d2) n (ic V)) := Lib.hid (ownsRow_sameG HR2.out fun b hb9 => hk4.block b (by have e9 : g2 = b := Option.some.inj hb9; have h9 := HNn.out; omega) (HR2.out.lt b hb9).2)
    have HU1 := Lib.hid hq1
    have HT4 := Lib.hid (HC7.out.kept hk4 (by have h9 := HN.out; omega))
    have HB4 : Hid (Below w.heap.size w W4) := Lib.hid (HBL.out.trans (hk4.below HG1.out HBL.out.size))
    clear hW4 hk4 hq1 HR0 HR1 HR2 HC7 HC8 HBL x1 xi y0 y1 y2 y3 z0 z1 z2 z3 k0 k1 k2 k3
    have HSD := Lib.hid (shortDays_i (some ⟨g0, 0, none⟩) (some ⟨g1, 0, none⟩) (some ⟨g2, 0, none⟩) sa n n n d0 d1 d2 len sc D (setD M i c) V Zs W4 (owns_row HU0.out) (owns_row HU1.out) (owns_row HU2.out) HSrc.out.n0 (by rw [setD_length]; exact HM.out) HSrc.out.n2 ⟨hmm, hmm, hmm⟩ (H.out.below HB4.out (Nat.le_refl _)) Hlen.out Hrl.out)
    have hsr : shoR D (setD M i c) V n Zs = ([], false) := by unfold shoR; rw [rivB_setD HRv.out HM.out hi hc0 hc1, Bool.true_and, HDy.out]; rfl
    rw [hsr] at HSD
    clear hsr
    have x0 := HT4.out.c 0 rfl
    have x1 := HT4.out.c 1 rfl
    have x2 := HT4.out.c 2 rfl
    have xd : W4.cell? ⟨pd, 0, none⟩ = some (.slice sa len sc) := (HB4.out.cell (p := ⟨pd, 0, none⟩) HPd.out.1).trans (HPd.out.c 0 rfl)
    go_wp2_with fail
    refine HSD.out.mono ?_
    rintro e w5 ⟨lo5, hi5, ya, yc, rfl, hb, hz, hlo5⟩
    have HB5 : Hid (Below w.heap.size w w5) := Lib.hid (HB4.out.trans (hb.mono HB4.out.size))
    clear hb hz hlo5 x0 x1 x2 xd HSD
    go_wp2_with fail
    go_ret
    exact ⟨_, rfl, rfl, HB5.out⟩

end Go.Proofs.Ytckmacnmmloemaa
namespace Go.Proofs.Ytckmacnmmloemaa
open Go.RowKit
set_option linter.unusedVariables false
set_option linter.unusedSimpArgs false
set_option maxRecDepth 100000
attribute [local irreducible] wpV wpList Code.wp

set_option maxHeartbeats 16000000 in
theorem leastSize_i (a0 a1 a2 sa : Option Addr) (l0 n l2 c0 c1 c2 len sc : Nat) (D M V : List Int) (Zs : List (List Int)) (i most : Int) (w : World) (hwi : (Lit.int .i64 i).wf = true) (hwm : (Lit.int .i64 most).wf = true) (h0 : RowC w a0 (ic D)) (h1 : RowC w a1 (ic M)) (h2 : RowC w a2 (ic V)) (hD : D.length = l0) (hM : M.length = n * 4) (hV : V.length = l2) (hl : l0 ≤ 1048576 ∧ n ≤ 1048576 ∧ l2 ≤ 1048576) (h : RowSS w sa Zs) (hlen : Zs.length = len) (hrl : ∀ k, k < len → (zr Zs k).length ≤ 1048576) :
    Calls Try.prog 35 #[.agg #[.slice a0 l0 c0, .slice a1 n c1, .slice a2 l2 c2], .int .i64 i, .slice sa len sc, .int .i64 most] w (SayZB (leaR D M V n Zs i most) w) := by
  obtain ⟨R, hR⟩ : ∃ R, leaR D M V n Zs i most = R := ⟨_, rfl⟩
  rw [hR]
  have HR := Lib.hid hR
  clear hR
  have hmf : ∀ (fn : Fn) (first cap : Array Value) (w : World), (Instr.makeFunc fn first cap).run Try.prog w = .ok (.func fn first cap) w := fun _ _ _ _ => rfl
  have eg : ∀ args w, (callFunc 76 args).run Try.prog w = .ok (.enter 76 args) w := enters_of Try.func76 (by kernel_rfl) rfl
  obtain ⟨W1, hW1⟩ : ∃ W, ((w.alloc (.cells #[.slice a0 l0 c0, .slice a1 n c1, .slice a2 l2 c2] 29)).alloc (.cells #[.int .i64 i] 2)).alloc (.cells #[.slice sa len sc] 39) = W := ⟨_, rfl⟩
  have HX1 : Hid (Bx W1 w.heap.size [.slice a0 l0 c0, .slice a1 n c1, .slice a2 l2 c2]) := Lib.hid (by rw [← hW1]; exact ((Bx.new w [.slice a0 l0 c0, .slice a1 n c1, .slice a2 l2 c2] _).alloc _).alloc _)
  have HY1 : Hid (Bx W1 (w.heap.size + 1) [.int .i64 i]) := Lib.hid (by rw [← hW1]; exact (Bx.new1G w _ [.int .i64 i] _).alloc _)
  have HZ1 : Hid (Bx W1 (w.heap.size + 2) [.slice sa len sc]) := Lib.hid (by rw [← hW1]; exact (Bw.new2G w _ _ [.slice sa len sc] _).1)
  have HB1 : Hid (Below w.heap.size w W1) := Lib.hid (by rw [← hW1]; exact below3 w _ _ _)
  have HH := Lib.hid (hasNode_i a0 a1 a2 l0 n l2 c0 c1 c2 D M V i W1 (h0.below HB1.out (Nat.le_refl _)) (h1.below HB1.out (Nat.le_refl _)) (h2.below HB1.out (Nat.le_refl _)) hD hM hV hl hwi)
  obtain ⟨nb, hnb⟩ : ∃ b, nodeB D M V n i = b := ⟨_, rfl⟩
  rw [hnb] at HH
  have HNB := Lib.hid hnb
  have H0 := Lib.hid h0
  have H1 := Lib.hid h1
  have H2 := Lib.hid h2
  have H := Lib.hid h
  have Hlen := Lib.hid hlen
  have Hrl := Lib.hid hrl
  have HD := Lib.hid hD
  have HM := Lib.hid hM
  have HVl := Lib.hid hV
  have HL := Lib.hid hl
  clear h0 h1 h2 hD hM hV hl h hlen hrl hnb hwi hwm
  go_enter Try.func35, Try.ntmps35
  go_upto_region 1 with fail
  (try rw [hW1])
  clear hW1
  have x0 := HX1.out.c 0 rfl
  have x1 := HX1.out.c 1 rfl
  have x2 := HX1.out.c 2 rfl
  have y0 := HY1.out.c 0 rfl
  go_wp2_with fail
  refine HH.out.mono ?_
  rintro e w2 ⟨b9, hb9, rfl, hb2⟩
  subst hb9
  have HB2 : Hid (Below w.heap.size w w2) := Lib.hid (HB1.out.trans (hb2.mono HB1.out.size))
  have HX2 := Lib.hid (HX1.out.below hb2 HX1.out.1)
  have HY2 := Lib.hid (HY1.out.below hb2 HY1.out.1)
  have HZ2 := Lib.hid (HZ1.out.below hb2 HZ1.out.1)
  clear HH hb2 HX1 HY1 HZ1 HB1 x0 x1 x2 y0
  cases nb
  · have hv : R = (0, false) := by rw [← HR.out]; unfold leaR; rw [HNB.out]; rfl
    have HV := Lib.hid hv
    clear hv
    go_wp2_with fail
    rw [HV.out]
    exact bodyPost_ret (v := .tuple #[.int .i64 0, .bool false]) (by first | (simp [results, Try.results35, go_sem]; done) | (simp (maxDischargeDepth := 12) [results, Try.results35, go_sem]; done) | (simp (maxDischargeDepth := 12) [results, Try.results35, go_sem]; rfl)) rfl ⟨rfl, HB2.out⟩
  · have hnn := HNB.out
    unfold nodeB at hnn
    rw [Bool.and_eq_true, Bool.and_eq_true, decide_eq_true_eq, decide_eq_true_eq] at hnn
    obtain ⟨hrb, hi0, hi1⟩ := hnn
    have HBB := Lib.hid hrb
    have h9 := rivB_true hrb
    have h0n : l0 = n := by have h8 := HD.out; have h7 := h9.1; omega
    have h2n : l2 = n := by have h8 := HVl.out; have h7 := h9.1; omega
    have h12 : n ≤ 12 := by have h7 := h9.1; omega
    have hn1 : 0 < n := by have h7 := h9.1; omega
    clear h9 hrb
    obtain rfl : n = l0 := h0n.symm
    obtain rfl : n = l2 := h2n.symm
    obtain ⟨j, rfl⟩ : ∃ j : Nat, i = (j : Int) := ⟨i.toNat, by omega⟩
    have hjn : j < n := by omega
    clear hi0 hi1
    go_wp2_with fail
    refine (isUnits_any most _).mono ?_
    rintro e w8 ⟨bu, hbu, rfl, rfl⟩
    have HBU := Lib.hid hbu
    clear hbu
    cases bu
    · have hv : R = (0, false) := by rw [← HR.out]; unfold leaR; rw [HBU.out]; simp
      have HV := Lib.hid hv
      clear hv
      go_wp2_with fail
      rw [HV.out]
      exact bodyPost_ret (v := .tuple #[.int .i64 0, .bool false]) (by first | (simp [results, Try.results35, go_sem]; done) | (simp (maxDischargeDepth := 12) [results, Try.results35, go_sem]; done) | (simp (maxDischargeDepth := 12) [results, Try.results35, go_sem]; rfl)) rfl ⟨rfl, HB2.out⟩
    · have hmu := HBU.out
      unfold unitB at hmu
      rw [Bool.and_eq_true, decide_eq_true_eq, decide_eq_true_eq] at hmu
      obtain ⟨hm0, hm1⟩ := hmu
      obtain ⟨ba, oa, b1, o1, b3, o3, rfl, rfl, rfl, hsrc⟩ := Src.of (H0.out.below HB2.out (Nat.le_refl _)) (H1.out.below HB2.out (Nat.le_refl _)) (H2.out.below HB2.out (Nat.le_refl _)) HD.out HM.out HVl.out hn1 (by omega)
      have HSrc := Lib.hid hsrc
      clear hsrc
      obtain ⟨bd, hbd⟩ : ∃ b, (decide (Zs.length ≤ 64) && daysB Zs n) = b := ⟨_, rfl⟩
      have HBD := Lib.hid hbd
      clear hbd
      cases bd
      · have HEn : Hid (∀ (c : Int) (W : World), 0 ≤ c → c ≤ 1000000000 → Below w2.heap.size w2 W → Calls Try.prog 76 #[.int .i64 c, .pointer (some ⟨w.heap.size, 0, none⟩), .pointer (some ⟨w.heap.size + 1, 0, none⟩), .pointer (some ⟨w.heap.size + 2, 0, none⟩)] W (SayB false W)) := Lib.hid fun c W hc0 hc1 hW => leaCloN w.heap.size (w.heap.size + 1) (w.heap.size + 2) ba oa b1 o1 b3 o3 n c0 c1 c2 j len sc sa D M V Zs c W (HSrc.out.below hW (Nat.le_refl _)) (HX2.out.below hW HX2.out.1) (HY2.out.below hW HY2.out.1) (HZ2.out.below hW HZ2.out.1) (H.out.below (HB2.out.trans (hW.mono HB2.out.size)) (Nat.le_refl _)) Hlen.out Hrl.out HBD.out HBB.out h12 hjn hc0 hc1
        have HEm := Lib.hid (HEn.out most w2 hm0 hm1 (Below.refl _ _))
        go_wp2_with fail
        refine HEm.out.mono ?_
        rintro e w4 ⟨b9, hb9, rfl, hb4⟩
        subst hb9
        have HB4 : Hid (Below w.heap.size w w4) := Lib.hid (HB2.out.trans (hb4.mono HB2.out.size))
        clear HEm HEn hb4
        have hv : R = (0, false) := by rw [← HR.out]; unfold leaR; rw [HBD.out]; simp
        have HV := Lib.hid hv
        clear hv
        go_wp2_with fail
        rw [HV.out]
        exact bodyPost_ret (v := .tuple #[.int .i64 0, .bool false]) (by first | (simp [results, Try.results35, go_sem]; done) | (simp (maxDischargeDepth := 12) [results, Try.results35, go_sem]; done) | (simp (maxDischargeDepth := 12) [results, Try.results35, go_sem]; rfl)) rfl ⟨rfl, HB4.out⟩
      · have hbd := HBD.out
        rw [Bool.and_eq_true, decide_eq_true_eq] at hbd
        obtain ⟨h64, hdy⟩ := hbd
        have hl64 : len ≤ 64 := by rw [← Hlen.out]; exact h64
        have HDY := Lib.hid hdy
        clear hdy h64
        have HEn : Hid (∀ (c : Int) (W : World), 0 ≤ c → c ≤ 1000000000 → Below w2.heap.size w2 W → Calls Try.prog 76 #[.int .i64 c, .pointer (some ⟨w.heap.size, 0, none⟩), .pointer (some ⟨w.heap.size + 1, 0, none⟩), .pointer (some ⟨w.heap.size + 2, 0, none⟩)] W (SayB (enB D M V Zs n j c) W)) := Lib.hid fun c W hc0 hc1 hW => leaClo w.heap.size (w.heap.size + 1) (w.heap.size + 2) ba oa b1 o1 b3 o3 n c0 c1 c2 j len sc sa D M V Zs c W (HSrc.out.below hW (Nat.le_refl _)) (HX2.out.below hW HX2.out.1) (HY2.out.below hW HY2.out.1) (HZ2.out.below hW HZ2.out.1) (H.out.below (HB2.out.trans (hW.mono HB2.out.size)) (Nat.le_refl _)) Hlen.out Hrl.out HDY.out hl64 HBB.out h12 hjn hc0 hc1
        obtain ⟨E, hE⟩ : ∃ E, enB D M V Zs n j = E := ⟨_, rfl⟩
        have HE := Lib.hid hE
        simp only [hE] at HEn
        clear hE
        have HEm := Lib.hid (HEn.out most w2 hm0 hm1 (Below.refl _ _))
        obtain ⟨be, hbe⟩ : ∃ b, E most = b := ⟨_, rfl⟩
        rw [hbe] at HEm
        have HBE := Lib.hid hbe
        clear hbe
        go_wp2_with fail
        refine HEm.out.mono ?_
        rintro e w4 ⟨b9, hb9, rfl, hb4⟩
        subst hb9
        have HB4 : Hid (Below w.heap.size w w4) := Lib.hid (HB2.out.trans (hb4.mono HB2.out.size))
        have HW4 := Lib.hid hb4
        clear HEm hb4
        cases be
        · have hv : R = (0, false) := by rw [← HR.out]; unfold leaR; rw [Int.toNat_natCast, HE.out, HBE.out]; simp
          have HV := Lib.hid hv
          clear hv
          go_wp2_with fail
          rw [HV.out]
          exact bodyPost_ret (v := .tuple #[.int .i64 0, .bool false]) (by first | (simp [results, Try.results35, go_sem]; done) | (simp (maxDischargeDepth := 12) [results, Try.results35, go_sem]; done) | (simp (maxDischargeDepth := 12) [results, Try.results35, go_sem]; rfl)) rfl ⟨rfl, HB4.out⟩
        · have hv : R = (leaG E (-1) most, true) := by rw [← HR.out]; unfold leaR; rw [HNB.out, HBD.out, HBU.out, Int.toNat_natCast, HE.out, HBE.out]; rfl
          have HV := Lib.hid hv
          clear hv
          obtain ⟨T, hT⟩ : ∃ T, leaG E (-1) most = T := ⟨_, rfl⟩
          rw [hT] at HV
          have HT9 := Lib.hid hT
          clear hT
          go_wp2_with fail
          go_loopw [11, 12] (fun lv hv wr => ∃ low high : Int, lv = .int .i64 low ∧ hv = .int .i64 high ∧ Hid (leaG E low high = T) ∧ Hid (-1 ≤ low ∧ low < high ∧ high ≤ 1000000000) ∧ Hid (Below w2.heap.size w2 wr)) (fun lv hv _ => (intOf hv - intOf lv).toNat)
          case atStart => exact ⟨-1, most, rfl, rfl, HT9, Lib.hid ⟨Int.le_refl _, by omega, hm1⟩, HW4⟩
          case round =>
          obtain ⟨low, high, rfl, rfl, HG, HLH, HW⟩ := hrel
          obtain ⟨k1, k2, k3⟩ := HLH.out
          by_cases hlt : low + 1 < high
          · have hst := leaG_step E hlt
            rw [HG.out] at hst
            obtain ⟨c, hc⟩ : ∃ c, (low + high) / 2 = c := ⟨_, rfl⟩
            have hc3 : low < c ∧ c < high := by omega
            have HC := Lib.hid (HEn.out c wr (by omega) (by omega) HW.out)
            rw [hc] at hst
            obtain ⟨bc, hbc⟩ : ∃ b, E c = b := ⟨_, rfl⟩
            rw [hbc] at HC hst
            have Hst := Lib.hid hst
            have hdv : 0 ≤ low + high ∧ low + high ≤ 2000000000 := by omega
            clear hst hbc
            go_wp2_with fail
            refine HC.out.mono ?_
            rintro e w5 ⟨b9, hb9, rfl, hb5⟩
            subst hb9
            have HW5 : Hid (Below w2.heap.size w2 w5) := Lib.hid (HW.out.trans (hb5.mono HW.out.size))
            clear HC hb5
            cases bc
            · have HG1 : Hid (leaG E c high = T) := Lib.hid Hst.out.symm
              go_wp2_with fail
              go_roundw
              case rel => exact ⟨c, high, rfl, rfl, HG1, Lib.hid ⟨by omega, by omega, k3⟩, HW5⟩
              case measure => simp [intOf]; omega
            · have HG1 : Hid (leaG E low c = T) := Lib.hid Hst.out.symm
              go_wp2_with fail
              go_roundw
              case rel => exact ⟨low, c, rfl, rfl, HG1, Lib.hid ⟨k1, by omega, by omega⟩, HW5⟩
              case measure => simp [intOf]; omega
          · have hend := leaG_end E hlt
            rw [HG.out] at hend
            subst hend
            go_wp2_with fail
            rw [HV.out]
            exact bodyPost_ret (v := .tuple #[.int .i64 T, .bool true]) (by first | (simp [results, Try.results35, go_sem, *]; done) | (simp (maxDischargeDepth := 12) [results, Try.results35, go_sem, *]; done) | (simp (maxDischargeDepth := 12) [results, Try.results35, go_sem, *]; rfl)) rfl ⟨rfl, HB2.out.trans (HW.out.mono HB2.out.size)⟩
end Go.Proofs.Ytckmacnmmloemaa
