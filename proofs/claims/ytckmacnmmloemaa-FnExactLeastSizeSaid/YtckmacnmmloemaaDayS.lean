/- A day of a river: the model. -/
import Derived.Test.YtckmacnmmloemaaOwnS
import Derived.Test.YtckmacnmmloemaaOrdS
import Derived.Test.YtckmacnmmloemaaPasD
import Derived.Deep.Cut
import Derived.Deep.QuietTactic
import Derived.Deep.RegionHeld3
import Derived.StillTailTactics
namespace Go.Proofs.Ytckmacnmmloemaa
open Go.RowKit
set_option linter.unusedVariables false
set_option linter.unusedSimpArgs false
set_option maxRecDepth 100000
attribute [local irreducible] wpV wpList Code.wp

def DayQ (D V : List Int) (S : DaySt) (n : Nat) (w : World) (e : Ending) (w' : World) : Prop :=
  ∃ lo g0 g1 g2 h1 h2 d0 d1 d2 e1 e2, e = .returned (.tuple #[.agg #[.slice (some ⟨g0, 0, none⟩) n d0, .slice (some ⟨g1, 0, none⟩) n d1, .slice (some ⟨g2, 0, none⟩) n d2], .slice (some ⟨h1, 0, none⟩) n e1, .slice (some ⟨h2, 0, none⟩) n e2]) ∧ w'.ownsRow lo 2 1 (.slice (some ⟨g0, 0, none⟩) n d0) n (ic D) ∧ w'.ownsRow lo 98 4 (.slice (some ⟨g1, 0, none⟩) n d1) n (ic S.M) ∧ w'.ownsRow lo 2 1 (.slice (some ⟨g2, 0, none⟩) n d2) n (ic V) ∧ w'.ownsRow lo 2 1 (.slice (some ⟨h1, 0, none⟩) n e1) n (ic S.G) ∧ w'.ownsRow lo 2 1 (.slice (some ⟨h2, 0, none⟩) n e2) n (ic S.L) ∧ (g0 ≠ g1 ∧ g0 ≠ g2 ∧ g1 ≠ g2 ∧ g0 ≠ h1 ∧ g0 ≠ h2 ∧ g1 ≠ h1 ∧ g1 ≠ h2 ∧ g2 ≠ h1 ∧ g2 ≠ h2 ∧ h1 ≠ h2) ∧ w.heap.size ≤ lo ∧ Below w.heap.size w w' ∧ ∃ t, g0 < t ∧ g1 < t ∧ g2 < t ∧ t ≤ h1 ∧ t ≤ h2 ∧ lo ≤ t
theorem kahn_at {D : List Int} {t k : Nat} (h : k < (kahn D t).length) : (kahn D t).getD k 0 < D.length := by
  rw [List.getD_eq_getElem?_getD, List.getElem?_eq_getElem h]
  exact (kahn_kd D t).lt _ (List.getElem_mem _)
theorem ints_getD {C : List Nat} {k : Nat} (h : k < C.length) : (ints C).getD k 0 = ((C.getD k 0 : Nat) : Int) := by
  rw [List.getD_eq_getElem?_getD, List.getD_eq_getElem?_getD]; unfold ints; rw [List.getElem?_map, List.getElem?_eq_getElem h]; rfl
theorem iw {z x : Int} (h : wrap64 z = x) : IntKind.i64.wrap z = x := by rw [wrap_w64]; exact h
set_option maxHeartbeats 32000000 in
theorem l06Day_any (pa b0 o0 b1 o1 b2 o2 n c0 c1 c2 bi oi ci : Nat) (D M V I : List Int) (w : World) (hs : Src w b0 o0 b1 o1 b2 o2 n D M V) (hpa : Bx w pa [.slice (some ⟨b0, o0, none⟩) n c0, .slice (some ⟨b1, o1, none⟩) n c1, .slice (some ⟨b2, o2, none⟩) n c2]) (hIb : bi < w.heap.size) (hI : ∀ j, j < I.length → w.cell? ⟨bi, oi + j, none⟩ = some (.int .i64 (I.getD j 0))) (hIl : I.length = n) (hn12 : n ≤ 12) (hr : ∀ j, j < D.length → -1 ≤ D.getD j 0 ∧ D.getD j 0 ≤ (D.length : Int) - 1) (ha : acycB D = true) :
    Calls Try.prog 53 #[.pointer (some ⟨pa, 0, none⟩), .slice (some ⟨bi, oi, none⟩) n ci] w (DayQ D V (dayTo D M V I n (kahn D n) n) n w) := by
  have HSrc := Lib.hid hs
  have HPa := Lib.hid hpa
  have HI := Lib.hid hI
  have HIl := Lib.hid hIl
  have HIb := Lib.hid hIb
  have HRg := Lib.hid hr
  have HAc := Lib.hid ha
  have hn1 := hs.pos
  have hn0 := hs.n0
  have HN0 := Lib.hid hn0
  clear hs hpa hI hIl hIb hr ha hn0
  have hmm : n ≤ 1048576 := by omega
  obtain ⟨O, hO⟩ : ∃ O, kahn D n = O := ⟨_, rfl⟩
  have HOl : Hid (O.length = n) := Lib.hid (by rw [← hO]; have h9 := kahn_full HAc.out n (by rw [HN0.out]; exact Nat.le_refl _); exact h9)
  have HOt : Hid (∀ k, k < n → O.getD k 0 < n) := Lib.hid (fun k hk => by have h9 := kahn_at (D := D) (t := n) (k := k) (by rw [hO, HOl.out]; exact hk); rw [hO, HN0.out] at h9; exact h9)
  have HO := Lib.hid hO
  obtain ⟨W0, hW0⟩ : ∃ W, w.alloc (.cells #[.slice none 0 0, .slice none 0 0, .slice none 0 0] 29) = W := ⟨_, rfl⟩
  have HP0 : Hid (Bw W0 w.heap.size [.slice none 0 0, .slice none 0 0, .slice none 0 0]) := Lib.hid (by rw [← hW0]; exact Bw.new w [.slice none 0 0, .slice none 0 0, .slice none 0 0] _)
  have HB0 : Hid (Below w.heap.size w W0) := Lib.hid (by rw [← hW0]; exact bel1 w _)
  have HZ0 : Hid (W0.heap.size = w.heap.size + 1) := Lib.hid (by rw [← hW0]; simp)
  have HOw := Lib.hid (l06Own_any pa b0 o0 b1 o1 b2 o2 n c0 c1 c2 D M V W0 (HSrc.out.below HB0.out (Nat.le_refl _)) (HPa.out.below HB0.out HPa.out.1))
  rw [hO]
  clear hO
  go_enter Try.func53, Try.ntmps53
  go_upto_region 1 with fail
  (try rw [hW0])
  clear hW0
  go_wp2_with fail
  refine HOw.out.mono ?_
  rintro e w2 ⟨lo, g0, g1, g2, d0, d1, d2, rfl, hr0, hr1, hr2, n01, n02, n12, hlo, hb⟩
  clear HOw
  have HLo : Hid (w.heap.size + 1 ≤ lo) := Lib.hid (by have h9 := HZ0.out; omega)
  have HP2 := Lib.hid (HP0.out.below hb HP0.out.1.1)
  have HB2 : Hid (Below w.heap.size w w2) := Lib.hid (HB0.out.trans (hb.mono HB0.out.size))
  have HN9 : Hid (g0 ≠ g1 ∧ g0 ≠ g2 ∧ g1 ≠ g2) := Lib.hid ⟨n01, n02, n12⟩
  have HG9 : Hid (lo ≤ g0 ∧ lo ≤ g1 ∧ lo ≤ g2 ∧ g0 < w2.heap.size ∧ g1 < w2.heap.size ∧ g2 < w2.heap.size) := Lib.hid (by have h1 := hr0.lt g0 rfl; have h2 := hr1.lt g1 rfl; have h3 := hr2.lt g2 rfl; omega)
  have HQ0 := Lib.hid hr0
  have HQ1 := Lib.hid hr1
  have HQ2 := Lib.hid hr2
  clear hr0 hr1 hr2 n01 n02 n12 hlo hb HP0 HB0 HZ0
  obtain ⟨t, ht⟩ : ∃ t, w2.heap.size = t := ⟨_, rfl⟩
  rw [ht] at HG9
  have Ht := Lib.hid ht
  go_upto_region 2 with fail
  generalize hW3 : World.alloc _ _ = W3
  (try rw [ht])
  have HT3 : Hid (Bw W3 t [.slice (some ⟨g0, 0, none⟩) n d0, .slice (some ⟨g1, 0, none⟩) n d1, .slice (some ⟨g2, 0, none⟩) n d2]) := Lib.hid (by rw [← hW3, ← ht]; exact Bw.new w2 [.slice (some ⟨g0, 0, none⟩) n d0, .slice (some ⟨g1, 0, none⟩) n d1, .slice (some ⟨g2, 0, none⟩) n d2] _)
  have HP3 : Hid (Bw W3 w.heap.size [.slice none 0 0, .slice none 0 0, .slice none 0 0]) := Lib.hid (by rw [← hW3]; exact HP2.out.alloc _)
  have HQ03 : Hid (W3.ownsRow lo 2 1 (.slice (some ⟨g0, 0, none⟩) n d0) n (ic (D))) := Lib.hid (by rw [← hW3]; exact HQ0.out.alloc _)
  have HQ13 : Hid (W3.ownsRow lo 98 4 (.slice (some ⟨g1, 0, none⟩) n d1) n (ic (M))) := Lib.hid (by rw [← hW3]; exact HQ1.out.alloc _)
  have HQ23 : Hid (W3.ownsRow lo 2 1 (.slice (some ⟨g2, 0, none⟩) n d2) n (ic (V))) := Lib.hid (by rw [← hW3]; exact HQ2.out.alloc _)
  have HB3 : Hid (Below w.heap.size w W3) := Lib.hid (by rw [← hW3]; exact HB2.out.alloc HB2.out.size _)
  have HS3 : Hid (W3.heap.size = t + 1) := Lib.hid (by rw [← hW3, ← ht]; simp)
  clear hW3 ht HQ0 HQ1 HQ2 HP2 HB2
  have p0 : W3.cell? ⟨pa, 0, none⟩ = some (.slice (some ⟨b0, o0, none⟩) n c0) := (HB3.out.cell (p := ⟨pa, 0, none⟩) HPa.out.1).trans (HPa.out.c 0 rfl)
  go_wp2_with (at_make; refine makeZ rfl rfl _ _ rfl .i64 .i64 _ _ n rfl rfl rfl rfl hmm (lo := lo) (by have h8 := HG9.out; have h7 := HS3.out; omega) ?_)
  intro w4 hrow hgr
  have hb := below_made (Below.refl _ _) hgr (Nat.le_refl _)
  skip
  obtain ⟨hG, hhG⟩ : ∃ h, W3.heap.size = h := ⟨_, rfl⟩
  rw [hhG] at hrow ⊢
  have HEG : Hid (hG = t + 1) := Lib.hid (by have h9 := HS3.out; omega)
  have HQGx : Hid (w4.ownsRow lo 2 1 (.slice (some ⟨hG, 0, none⟩) n n) n (ic (List.replicate n 0))) := Lib.hid (by unfold ic; rw [List.map_replicate]; exact hrow)
  have HT4 := Lib.hid (HT3.out.below hb HT3.out.1.1)
  have HP4 := Lib.hid (HP3.out.below hb HP3.out.1.1)
  have HQ04 := Lib.hid (owns_below HQ03.out hb (Nat.le_refl _))
  have HQ14 := Lib.hid (owns_below HQ13.out hb (Nat.le_refl _))
  have HQ24 := Lib.hid (owns_below HQ23.out hb (Nat.le_refl _))
  have HB4 : Hid (Below w.heap.size w w4) := Lib.hid (HB3.out.trans (hb.mono HB3.out.size))
  clear HT3 HP3 HB3 HQ03 HQ13 HQ23
  have HQG4 := HQGx
  have HS4 : Hid (t + 1 ≤ w4.heap.size) := Lib.hid (by have h9 := hb.size; have h8 := HS3.out; omega)
  clear hrow hgr hb hhG HQGx
  clear p0
  go_wp2_with (at_make; refine makeZ rfl rfl _ _ rfl .i64 .i64 _ _ n rfl rfl rfl rfl hmm (lo := lo) (by have h8 := HG9.out; have h7 := HS4.out; omega) ?_)
  intro w5 hrow hgr
  have hb := below_made (Below.refl _ _) hgr (Nat.le_refl _)
  skip
  obtain ⟨hL, hhL⟩ : ∃ h, w4.heap.size = h := ⟨_, rfl⟩
  rw [hhL] at hrow ⊢
  have HEL : Hid (hG < hL) := Lib.hid (by have h9 := (HQG4.out.lt hG rfl).2; omega)
  have HQLx : Hid (w5.ownsRow lo 2 1 (.slice (some ⟨hL, 0, none⟩) n n) n (ic (List.replicate n 0))) := Lib.hid (by unfold ic; rw [List.map_replicate]; exact hrow)
  have HT5 := Lib.hid (HT4.out.below hb HT4.out.1.1)
  have HP5 := Lib.hid (HP4.out.below hb HP4.out.1.1)
  have HQ05 := Lib.hid (owns_below HQ04.out hb (Nat.le_refl _))
  have HQ15 := Lib.hid (owns_below HQ14.out hb (Nat.le_refl _))
  have HQ25 := Lib.hid (owns_below HQ24.out hb (Nat.le_refl _))
  have HQG5 := Lib.hid (owns_below HQG4.out hb (Nat.le_refl _))
  have HB5 : Hid (Below w.heap.size w w5) := Lib.hid (HB4.out.trans (hb.mono HB4.out.size))
  clear HT4 HP4 HB4 HQ04 HQ14 HQ24 HQG4
  have HQL5 := HQLx
  have HS5 : Hid (t + 1 ≤ w5.heap.size) := Lib.hid (by have h9 := hb.size; have h8 := HS4.out; omega)
  clear hrow hgr hb hhL HQLx
  have HR5 : Hid ((w5.alloc (.cells #[] 2)).ownsRow lo 2 1 (.slice (some ⟨w5.heap.size, 0, none⟩) 0 0) 0 []) := Lib.hid (World.ownsRow_lit (base := lo) (e := 2) (size := 1) w5 #[] 0 (by have h8 := HG9.out; have h7 := HS5.out; omega) (by decide) rfl)
  have HCe : Hid (∀ j, j < I.length → (w5.alloc (.cells #[] 2)).cell? ⟨bi, oi + j, none⟩ = some (.int .i64 (I.getD j 0))) := Lib.hid fun j hj => by rw [(bel1 w5 _).cell (p := ⟨bi, oi + j, none⟩) (Nat.lt_of_lt_of_le HIb.out HB5.out.size), HB5.out.cell (p := ⟨bi, oi + j, none⟩) HIb.out]; exact HI.out j hj
  go_wp2_with (at_builtin; refine pushFirstZ rfl rfl _ _ rfl rfl HR5.out bi oi _ n rfl (by rw [HIl.out, Nat.mul_one]) HCe.out hn1 hmm (by have h8 := HG9.out; have h7 := HS5.out; simp; omega) ?_)
  intro hC eC w6 hrow hgrow hgn hgl
  have hb : Below w5.heap.size w5 w6 := (bel1 w5 (.cells #[] 2)).grown hgrow (by simp) (fun j hj => by simp only [Value.ownBlock, Option.some.injEq] at hj; omega)
  have HEC : Hid (hL < hC) := Lib.hid (by have h9 := (HQL5.out.lt hL rfl).2; rcases hgn with h | h; (simp only [Value.ownBlock, Option.some.injEq] at h; omega); (try simp at h); omega)
  have HQCx := Lib.hid hrow
  have HT6 := Lib.hid (HT5.out.below hb HT5.out.1.1)
  have HP6 := Lib.hid (HP5.out.below hb HP5.out.1.1)
  have HQ06 := Lib.hid (owns_below HQ05.out hb (Nat.le_refl _))
  have HQ16 := Lib.hid (owns_below HQ15.out hb (Nat.le_refl _))
  have HQ26 := Lib.hid (owns_below HQ25.out hb (Nat.le_refl _))
  have HQG6 := Lib.hid (owns_below HQG5.out hb (Nat.le_refl _))
  have HQL6 := Lib.hid (owns_below HQL5.out hb (Nat.le_refl _))
  have HB6 : Hid (Below w.heap.size w w6) := Lib.hid (HB5.out.trans (hb.mono HB5.out.size))
  clear HT5 HP5 HB5 HQ05 HQ15 HQ25 HQG5 HQL5
  have HQC6 := HQCx
  have HS6 : Hid (t + 1 ≤ w6.heap.size) := Lib.hid (by have h9 := hb.size; have h8 := HS5.out; omega)
  clear hrow hgrow hgn hgl hb HQCx HR5 HCe
  have hsr := HSrc.out.below HB6.out (Nat.le_refl _)
  have HOr := Lib.hid (l06Order_any pa b0 o0 n c0 (.slice (some ⟨b1, o1, none⟩) n c1) (.slice (some ⟨b2, o2, none⟩) n c2) D w6 (HPa.out.below HB6.out HPa.out.1) hsr.l0 hsr.k0 HN0.out hn1 hn12 HRg.out HAc.out)
  clear hsr
  go_wp2_with fail
  refine HOr.out.mono ?_
  rintro e w7 ⟨gO, eO, rfl, hrow, hb⟩
  have HEO : Hid (hC < gO) := Lib.hid (by have h9 := (HQC6.out.lt hC rfl).2; have h8 := (hrow.lt gO rfl).1; omega)
  have HQOx : Hid (w7.ownsRow lo 2 1 (.slice (some ⟨gO, 0, none⟩) n eO) n (ic (ints O))) := Lib.hid (by rw [← HO.out]; exact owns_lo hrow (by have h8 := HG9.out; have h7 := HS6.out; omega))
  have HT7 := Lib.hid (HT6.out.below hb HT6.out.1.1)
  have HP7 := Lib.hid (HP6.out.below hb HP6.out.1.1)
  have HQ07 := Lib.hid (owns_below HQ06.out hb (Nat.le_refl _))
  have HQ17 := Lib.hid (owns_below HQ16.out hb (Nat.le_refl _))
  have HQ27 := Lib.hid (owns_below HQ26.out hb (Nat.le_refl _))
  have HQG7 := Lib.hid (owns_below HQG6.out hb (Nat.le_refl _))
  have HQL7 := Lib.hid (owns_below HQL6.out hb (Nat.le_refl _))
  have HQC7 := Lib.hid (owns_below HQC6.out hb (Nat.le_refl _))
  have HB7 : Hid (Below w.heap.size w w7) := Lib.hid (HB6.out.trans (hb.mono HB6.out.size))
  clear HT6 HP6 HB6 HQ06 HQ16 HQ26 HQG6 HQL6 HQC6
  have HQO7 := HQOx
  clear hrow hb HQOx HOr
  go_wp2_with fail
  go_loopw [13, 14, 15, 16, 17, 18] (fun iv v14 v15 v16 v17 v18 wr => ∃ k : Nat, k ≤ n ∧ iv = .int .i64 (k : Int) ∧ Hid (wr.ownsRow lo 2 1 (.slice (some ⟨g0, 0, none⟩) n d0) n (ic (D))) ∧ Hid (wr.ownsRow lo 98 4 (.slice (some ⟨g1, 0, none⟩) n d1) n (ic ((dayTo D M V I n O k).M))) ∧ Hid (wr.ownsRow lo 2 1 (.slice (some ⟨g2, 0, none⟩) n d2) n (ic (V))) ∧ Hid (wr.ownsRow lo 2 1 (.slice (some ⟨hG, 0, none⟩) n n) n (ic ((dayTo D M V I n O k).G))) ∧ Hid (wr.ownsRow lo 2 1 (.slice (some ⟨hL, 0, none⟩) n n) n (ic ((dayTo D M V I n O k).L))) ∧ Hid (wr.ownsRow lo 2 1 (.slice (some ⟨hC, 0, none⟩) n eC) n (ic ((dayTo D M V I n O k).C))) ∧ Hid (wr.ownsRow lo 2 1 (.slice (some ⟨gO, 0, none⟩) n eO) n (ic (ints O))) ∧ Hid (Bw wr t [.slice (some ⟨g0, 0, none⟩) n d0, .slice (some ⟨g1, 0, none⟩) n d1, .slice (some ⟨g2, 0, none⟩) n d2]) ∧ Hid (Bw wr w.heap.size [.slice none 0 0, .slice none 0 0, .slice none 0 0]) ∧ Hid (Below w.heap.size w wr)) (fun iv _ _ _ _ _ _ => n - (intOf iv).toNat)
  case atStart => exact ⟨0, Nat.zero_le _, rfl, HQ07, HQ17, HQ27, HQG7, HQL7, HQC7, HQO7, HT7, HP7, HB7⟩
  case round =>
  clear HQ07 HQ17 HQ27 HQG7 HQL7 HQC7 HQO7 HT7 HP7 HB7
  obtain ⟨k, hk, rfl, RQ0, RQ1, RQ2, RQG, RQL, RQC, RQO, RT, RP, RB⟩ := hrel
  have hk0 : (0 : Int) ≤ (k : Int) := by omega
  by_cases hlt : k < n
  · have hk1 : (k : Int) < (n : Int) := by omega
    obtain ⟨S, hS⟩ : ∃ S, dayTo D M V I n O k = S := ⟨_, rfl⟩
    have hln := dayTo_len (D := D) (V := V) (O := O) HSrc.out.n1 HIl.out k
    rw [hS] at RQ1 RQG RQL RQC hln
    have HSt := Lib.hid hS
    clear hS
    obtain ⟨M1, C1, G1, L1⟩ := S
    simp only at RQ1 RQG RQL RQC hln
    have Hln := Lib.hid hln
    clear hln
    obtain ⟨i, hi⟩ : ∃ i, O.getD k 0 = i := ⟨_, rfl⟩
    have hin : i < n := hi ▸ HOt.out k hlt
    have Hi := Lib.hid hi
    clear hi
    have hin1 : (i : Int) < (n : Int) := by omega
    have hi0 : (0 : Int) ≤ (i : Int) := by omega
    obtain ⟨s, hs⟩ : ∃ z, M1.getD (i * 4) 0 = z := ⟨_, rfl⟩
    have Ns := Lib.hid hs
    clear hs
    obtain ⟨d, hd⟩ : ∃ z, M1.getD (i * 4 + 1) 0 = z := ⟨_, rfl⟩
    have Nd := Lib.hid hd
    clear hd
    obtain ⟨l, hl⟩ : ∃ z, M1.getD (i * 4 + 2) 0 = z := ⟨_, rfl⟩
    have Nl := Lib.hid hl
    clear hl
    obtain ⟨q, hq⟩ : ∃ z, M1.getD (i * 4 + 3) 0 = z := ⟨_, rfl⟩
    have Nq := Lib.hid hq
    clear hq
    obtain ⟨v, hv⟩ : ∃ z, V.getD (i) 0 = z := ⟨_, rfl⟩
    have Nv := Lib.hid hv
    clear hv
    obtain ⟨c, hc⟩ : ∃ z, C1.getD (i) 0 = z := ⟨_, rfl⟩
    have Nc := Lib.hid hc
    clear hc
    obtain ⟨z, hz⟩ : ∃ z, D.getD (i) 0 = z := ⟨_, rfl⟩
    have Nz := Lib.hid hz
    clear hz
    obtain ⟨u, hu⟩ : ∃ z, G1.getD (i) 0 = z := ⟨_, rfl⟩
    have Nu := Lib.hid hu
    clear hu
    obtain ⟨y, hy⟩ : ∃ z, L1.getD (i) 0 = z := ⟨_, rfl⟩
    have Ny := Lib.hid hy
    clear hy
    obtain ⟨x1, ex1⟩ : ∃ z, wrap64 (c + q) = z := ⟨_, rfl⟩
    obtain ⟨x2, ex2⟩ : ∃ z, wrap64 (x1 - d) = z := ⟨_, rfl⟩
    obtain ⟨m1, em1⟩ : ∃ z, max 0 x2 = z := ⟨_, rfl⟩
    obtain ⟨gg, egg⟩ : ∃ z, min v m1 = z := ⟨_, rfl⟩
    obtain ⟨x3, ex3⟩ : ∃ z, wrap64 (x1 - gg) = z := ⟨_, rfl⟩
    obtain ⟨x4, ex4⟩ : ∃ z, wrap64 (x3 - d) = z := ⟨_, rfl⟩
    obtain ⟨m2, em2⟩ : ∃ z, max 0 x4 = z := ⟨_, rfl⟩
    obtain ⟨ee, eee⟩ : ∃ z, min l m2 = z := ⟨_, rfl⟩
    obtain ⟨x5, ex5⟩ : ∃ z, wrap64 (x3 - ee) = z := ⟨_, rfl⟩
    obtain ⟨nn, enn⟩ : ∃ z, min s x5 = z := ⟨_, rfl⟩
    obtain ⟨lv, elv⟩ : ∃ z, wrap64 (x3 - nn) = z := ⟨_, rfl⟩
    have HDG : Hid (dayG d q v c = gg) := Lib.hid (by unfold dayG dayW W64; rw [ex1, ex2, Int.max_comm, em1, egg])
    have HDN : Hid (dayN s d l q v c = nn) := Lib.hid (by unfold dayN dayF dayE dayX; rw [HDG.out]; unfold dayW W64; rw [ex1, ex3, ex4, Int.max_comm x4 0, em2, eee, ex5, Int.min_comm, enn])
    have HDL : Hid (dayL s d l q v c = lv) := Lib.hid (by unfold dayL; rw [HDN.out]; unfold dayX; rw [HDG.out]; unfold dayW W64; rw [ex1, ex3, elv])
    have HStep : Hid (dayTo D M V I n O (k + 1) = ⟨M1.set (i * 4 + 3) nn, if z < 0 then C1 else C1.set z.toNat (wrap64 (C1.getD z.toNat 0 + lv)), G1.set i gg, L1.set i lv⟩) := Lib.hid (by show dayStep D V (dayTo D M V I n O k) (O.getD k 0) = _; rw [HSt.out, Hi.out]; unfold dayStep; simp only [Ns.out, Nd.out, Nl.out, Nq.out, Nv.out, Nc.out, Nz.out, HDG.out, HDN.out, HDL.out])
    have Ex1 := Lib.hid ex1
    have Ex2 := Lib.hid ex2
    have Em1 := Lib.hid em1
    have Egg := Lib.hid egg
    have Ex3 := Lib.hid ex3
    have Ex4 := Lib.hid ex4
    have Em2 := Lib.hid em2
    have Eee := Lib.hid eee
    have Ex5 := Lib.hid ex5
    have Enn := Lib.hid enn
    have Elv := Lib.hid elv
    clear ex1 ex2 em1 egg ex3 ex4 em2 eee ex5 enn elv
    have HMn : Hid (∀ a b W, Calls Try.prog 97 #[.int .i64 a, .int .i64 b] W fun e w' => e = .returned (.int .i64 (min a b)) ∧ w' = W) := Lib.hid fun a b W => l00Min_any a b W
    have HMx : Hid (∀ a b W, Calls Try.prog 98 #[.int .i64 a, .int .i64 b] W fun e w' => e = .returned (.int .i64 (max a b)) ∧ w' = W) := Lib.hid fun a b W => l00Max_any a b W
    have co : wr.cell? ⟨gO, k, none⟩ = some (.int .i64 (i : Int)) := by rw [RQO.out.cellAt k (by omega), ic_at (by rw [ints_length, HOl.out]; exact hlt), ints_getD (by rw [HOl.out]; exact hlt), Hi.out]
    have xt1 := RT.out.c 1 rfl
    have cc : wr.cell? ⟨hC, i, none⟩ = some (.int .i64 c) := by rw [RQC.out.cellAt (i) (by omega), ic_at (by rw [Hln.out.2.1]; omega), Nc.out]
    have cq : wr.cell? ⟨g1, i * 4 + 3, none⟩ = some (.int .i64 q) := by rw [RQ1.out.cellAt (i * 4 + 3) (by omega), ic_at (by rw [Hln.out.1]; omega), Nq.out]
    have w1a := Ex1.out
    have w1b := iw Ex1.out
    go_wp2_with fail
    go_quiet (fail)
    generalize hW : World.drewN wr _ = W1
    have hb : Below wr.heap.size wr W1 := by rw [← hW]; exact below_drewN (Below.refl _ _) _
    clear hW co xt1 cc cq
    have RQ0' := Lib.hid (owns_below RQ0.out hb (Nat.le_refl _))
    have RQ1' := Lib.hid (owns_below RQ1.out hb (Nat.le_refl _))
    have RQ2' := Lib.hid (owns_below RQ2.out hb (Nat.le_refl _))
    have RQG' := Lib.hid (owns_below RQG.out hb (Nat.le_refl _))
    have RQL' := Lib.hid (owns_below RQL.out hb (Nat.le_refl _))
    have RQC' := Lib.hid (owns_below RQC.out hb (Nat.le_refl _))
    have RQO' := Lib.hid (owns_below RQO.out hb (Nat.le_refl _))
    have RT' := Lib.hid (RT.out.below hb RT.out.1.1)
    have RP' := Lib.hid (RP.out.below hb RP.out.1.1)
    have RB' : Hid (Below w.heap.size w W1) := Lib.hid (RB.out.trans (hb.mono RB.out.size))
    clear RQ0 RQ1 RQ2 RQG RQL RQC RQO RT RP RB
    have RQ0 := RQ0'
    have RQ1 := RQ1'
    have RQ2 := RQ2'
    have RQG := RQG'
    have RQL := RQL'
    have RQC := RQC'
    have RQO := RQO'
    have RT := RT'
    have RP := RP'
    have RB := RB'
    clear RQ0' RQ1' RQ2' RQG' RQL' RQC' RQO' RT' RP' RB'
    clear hb
    have xt2 := RT.out.c 2 rfl
    have cv : W1.cell? ⟨g2, i, none⟩ = some (.int .i64 v) := by rw [RQ2.out.cellAt (i) (by omega), ic_at (by rw [HSrc.out.n2]; omega), Nv.out]
    have cd : W1.cell? ⟨g1, i * 4 + 1, none⟩ = some (.int .i64 d) := by rw [RQ1.out.cellAt (i * 4 + 1) (by omega), ic_at (by rw [Hln.out.1]; omega), Nd.out]
    have cu : W1.cell? ⟨hG, i, none⟩ = some (.int .i64 u) := by rw [RQG.out.cellAt (i) (by omega), ic_at (by rw [Hln.out.2.2.1]; omega), Nu.out]
    have fu := RQG.out.frozenAt i
    have w2a := Ex2.out
    have w2b := iw Ex2.out
    have wm1 := Em1.out
    have wgg := Egg.out
    have hdr : Below W1.heap.size W1 W1.drew := (Below.refl _ _).drew
    have HKp : Hid (∀ (W : World), (W = W1 ∨ W = W1.drew) → W.cell? ⟨t, 2, none⟩ = some (.slice (some ⟨g2, 0, none⟩) n d2) ∧ W.cell? ⟨g2, i, none⟩ = some (.int .i64 v) ∧ W.cell? ⟨g1, i * 4 + 1, none⟩ = some (.int .i64 d)) := Lib.hid (fun W hW => by rcases hW with rfl | rfl <;> exact ⟨xt2, cv, cd⟩)
    have hn1 : ¬ hG = t := by have g9 := HG9.out; have n9 := HN9.out; have eG := HEG.out; have eL := HEL.out; have eC := HEC.out; have eO := HEO.out; have lo9 := HLo.out; omega
    have hn2 : ¬ hG = g2 := by have g9 := HG9.out; have n9 := HN9.out; have eG := HEG.out; have eL := HEL.out; have eC := HEC.out; have eO := HEO.out; have lo9 := HLo.out; omega
    have hn3 : ¬ hG = g1 := by have g9 := HG9.out; have n9 := HN9.out; have eG := HEG.out; have eL := HEL.out; have eC := HEC.out; have eO := HEO.out; have lo9 := HLo.out; omega
    have hn4 : ¬ t = hG := fun e => hn1 e.symm
    have hn5 : ¬ g2 = hG := fun e => hn2 e.symm
    have hn6 : ¬ g1 = hG := fun e => hn3 e.symm
    go_wp2_with fail
    go_region_held3 (fun W => W.cell? ⟨t, 2, none⟩ = some (.slice (some ⟨g2, 0, none⟩) n d2) ∧ W.cell? ⟨g2, i, none⟩ = some (.int .i64 v) ∧ W.cell? ⟨g1, i * 4 + 1, none⟩ = some (.int .i64 d))
      (first | exact HKp.out _ (.inl rfl) | exact HKp.out _ (.inr rfl) | exact ⟨by simp [go_sem, xt2, hn1, hn4], by simp [go_sem, cv, hn2, hn5], by simp [go_sem, cd, hn3, hn6]⟩)
      (first | (go_at_call 98; refine (HMx.out _ _ _).mono ?_; rintro e w9 ⟨rfl, rfl⟩) | (go_at_call 97; refine (HMn.out _ _ _).mono ?_; rintro e w9 ⟨rfl, rfl⟩) | fail)
    go_upto_region 14 with fail
    (try rw [wm1]); (try rw [wgg])
    clear hdr
    generalize hW : World.setCell _ _ _ = W2
    (try simp only [wm1, wgg] at hW)
    have hst := (RQG.out.stored (i) (.int .i64 gg)).1
    rw [← ic_set] at hst
    have RQ0' : Hid (W2.ownsRow lo 2 1 (.slice (some ⟨g0, 0, none⟩) n d0) n (ic (D))) := Lib.hid (by rw [← hW]; exact owns_far RQ0.out (by have g9 := HG9.out; have n9 := HN9.out; have eG := HEG.out; have eL := HEL.out; have eC := HEC.out; have eO := HEO.out; have lo9 := HLo.out; simp [Value.ownBlock]; omega) _)
    have RQ1' : Hid (W2.ownsRow lo 98 4 (.slice (some ⟨g1, 0, none⟩) n d1) n (ic (M1))) := Lib.hid (by rw [← hW]; exact owns_far RQ1.out (by have g9 := HG9.out; have n9 := HN9.out; have eG := HEG.out; have eL := HEL.out; have eC := HEC.out; have eO := HEO.out; have lo9 := HLo.out; simp [Value.ownBlock]; omega) _)
    have RQ2' : Hid (W2.ownsRow lo 2 1 (.slice (some ⟨g2, 0, none⟩) n d2) n (ic (V))) := Lib.hid (by rw [← hW]; exact owns_far RQ2.out (by have g9 := HG9.out; have n9 := HN9.out; have eG := HEG.out; have eL := HEL.out; have eC := HEC.out; have eO := HEO.out; have lo9 := HLo.out; simp [Value.ownBlock]; omega) _)
    have RQG' : Hid (W2.ownsRow lo 2 1 (.slice (some ⟨hG, 0, none⟩) n n) n (ic (G1.set i gg))) := Lib.hid (by rw [← hW]; exact hst)
    have RQL' : Hid (W2.ownsRow lo 2 1 (.slice (some ⟨hL, 0, none⟩) n n) n (ic (L1))) := Lib.hid (by rw [← hW]; exact owns_far RQL.out (by have g9 := HG9.out; have n9 := HN9.out; have eG := HEG.out; have eL := HEL.out; have eC := HEC.out; have eO := HEO.out; have lo9 := HLo.out; simp [Value.ownBlock]; omega) _)
    have RQC' : Hid (W2.ownsRow lo 2 1 (.slice (some ⟨hC, 0, none⟩) n eC) n (ic (C1))) := Lib.hid (by rw [← hW]; exact owns_far RQC.out (by have g9 := HG9.out; have n9 := HN9.out; have eG := HEG.out; have eL := HEL.out; have eC := HEC.out; have eO := HEO.out; have lo9 := HLo.out; simp [Value.ownBlock]; omega) _)
    have RQO' : Hid (W2.ownsRow lo 2 1 (.slice (some ⟨gO, 0, none⟩) n eO) n (ic (ints O))) := Lib.hid (by rw [← hW]; exact owns_far RQO.out (by have g9 := HG9.out; have n9 := HN9.out; have eG := HEG.out; have eL := HEL.out; have eC := HEC.out; have eO := HEO.out; have lo9 := HLo.out; simp [Value.ownBlock]; omega) _)
    have RT' : Hid (Bw W2 t [.slice (some ⟨g0, 0, none⟩) n d0, .slice (some ⟨g1, 0, none⟩) n d1, .slice (some ⟨g2, 0, none⟩) n d2]) := Lib.hid (by rw [← hW]; exact RT.out.setOther (by have g9 := HG9.out; have n9 := HN9.out; have eG := HEG.out; have eL := HEL.out; have eC := HEC.out; have eO := HEO.out; have lo9 := HLo.out; show hG ≠ t; omega) _)
    have RP' : Hid (Bw W2 w.heap.size [.slice none 0 0, .slice none 0 0, .slice none 0 0]) := Lib.hid (by rw [← hW]; exact RP.out.setOther (by have g9 := HG9.out; have n9 := HN9.out; have eG := HEG.out; have eL := HEL.out; have eC := HEC.out; have eO := HEO.out; have lo9 := HLo.out; show hG ≠ w.heap.size; omega) _)
    have RB' : Hid (Below w.heap.size w W2) := Lib.hid (by rw [← hW]; exact RB.out.setCell (p := ⟨hG, i, none⟩) (by have g9 := HG9.out; have n9 := HN9.out; have eG := HEG.out; have eL := HEL.out; have eC := HEC.out; have eO := HEO.out; have lo9 := HLo.out; show w.heap.size ≤ hG; omega) _)
    clear hst hW RQ0 RQ1 RQ2 RQG RQL RQC RQO RT RP RB
    have RQ0 := RQ0'
    have RQ1 := RQ1'
    have RQ2 := RQ2'
    have RQG := RQG'
    have RQL := RQL'
    have RQC := RQC'
    have RQO := RQO'
    have RT := RT'
    have RP := RP'
    have RB := RB'
    clear RQ0' RQ1' RQ2' RQG' RQL' RQC' RQO' RT' RP' RB'
    have hdr : Below W2.heap.size W2 W2.drew := (Below.refl _ _).drew
    generalize W2.drew = W2d at hdr ⊢
    have RQ0' := Lib.hid (owns_below RQ0.out hdr (Nat.le_refl _))
    have RQ1' := Lib.hid (owns_below RQ1.out hdr (Nat.le_refl _))
    have RQ2' := Lib.hid (owns_below RQ2.out hdr (Nat.le_refl _))
    have RQG' := Lib.hid (owns_below RQG.out hdr (Nat.le_refl _))
    have RQL' := Lib.hid (owns_below RQL.out hdr (Nat.le_refl _))
    have RQC' := Lib.hid (owns_below RQC.out hdr (Nat.le_refl _))
    have RQO' := Lib.hid (owns_below RQO.out hdr (Nat.le_refl _))
    have RT' := Lib.hid (RT.out.below hdr RT.out.1.1)
    have RP' := Lib.hid (RP.out.below hdr RP.out.1.1)
    have RB' : Hid (Below w.heap.size w W2d) := Lib.hid (RB.out.trans (hdr.mono RB.out.size))
    clear RQ0 RQ1 RQ2 RQG RQL RQC RQO RT RP RB
    have RQ0 := RQ0'
    have RQ1 := RQ1'
    have RQ2 := RQ2'
    have RQG := RQG'
    have RQL := RQL'
    have RQC := RQC'
    have RQO := RQO'
    have RT := RT'
    have RP := RP'
    have RB := RB'
    clear RQ0' RQ1' RQ2' RQG' RQL' RQC' RQO' RT' RP' RB'
    clear hdr
    clear xt2 cv cd cu fu HKp hn1 hn2 hn3 hn4 hn5 hn6 w1a w1b w2a w2b
    have cg : W2d.cell? ⟨hG, i, none⟩ = some (.int .i64 gg) := by rw [RQG.out.cellAt i (by omega), ic_at (by rw [List.length_set, Hln.out.2.2.1]; omega), List.getD_eq_getElem?_getD, List.getElem?_set_self (by rw [Hln.out.2.2.1]; exact hin)]; rfl
    have cl : W2d.cell? ⟨g1, i * 4 + 2, none⟩ = some (.int .i64 l) := by rw [RQ1.out.cellAt (i * 4 + 2) (by omega), ic_at (by rw [Hln.out.1]; omega), Nl.out]
    have cd : W2d.cell? ⟨g1, i * 4 + 1, none⟩ = some (.int .i64 d) := by rw [RQ1.out.cellAt (i * 4 + 1) (by omega), ic_at (by rw [Hln.out.1]; omega), Nd.out]
    have w3a := Ex3.out
    have w3b := iw Ex3.out
    have w4a := Ex4.out
    have w4b := iw Ex4.out
    have HQx : Hid (∀ q, Calls Try.prog 98 #[.int .i64 0, .int .i64 x4] (W2d.drewN q) fun e w' => e = .returned (.int .i64 m2) ∧ ∃ m, w' = (W2d.drewN q).drewN m) := Lib.hid fun q => (HMx.out 0 x4 (W2d.drewN q)).mono (by rintro e w' ⟨rfl, rfl⟩; exact ⟨by rw [Em2.out], 0, rfl⟩)
    have HQn : Hid (∀ q, Calls Try.prog 97 #[.int .i64 l, .int .i64 m2] (W2d.drewN q) fun e w' => e = .returned (.int .i64 ee) ∧ ∃ m, w' = (W2d.drewN q).drewN m) := Lib.hid fun q => (HMn.out l m2 (W2d.drewN q)).mono (by rintro e w' ⟨rfl, rfl⟩; exact ⟨by rw [Eee.out], 0, rfl⟩)
    go_wp2_with fail
    go_quiet (first | (go_at_call 98; with_reducible exact Calls.quiet_of (HQx.out _)) | (go_at_call 97; with_reducible exact Calls.quiet_of (HQn.out _)))
    generalize hW : World.drewN W2d _ = W3
    have hb : Below W2d.heap.size W2d W3 := by rw [← hW]; exact below_drewN (Below.refl _ _) _
    clear hW cg cl cd HQx HQn
    have RQ0' := Lib.hid (owns_below RQ0.out hb (Nat.le_refl _))
    have RQ1' := Lib.hid (owns_below RQ1.out hb (Nat.le_refl _))
    have RQ2' := Lib.hid (owns_below RQ2.out hb (Nat.le_refl _))
    have RQG' := Lib.hid (owns_below RQG.out hb (Nat.le_refl _))
    have RQL' := Lib.hid (owns_below RQL.out hb (Nat.le_refl _))
    have RQC' := Lib.hid (owns_below RQC.out hb (Nat.le_refl _))
    have RQO' := Lib.hid (owns_below RQO.out hb (Nat.le_refl _))
    have RT' := Lib.hid (RT.out.below hb RT.out.1.1)
    have RP' := Lib.hid (RP.out.below hb RP.out.1.1)
    have RB' : Hid (Below w.heap.size w W3) := Lib.hid (RB.out.trans (hb.mono RB.out.size))
    clear RQ0 RQ1 RQ2 RQG RQL RQC RQO RT RP RB
    have RQ0 := RQ0'
    have RQ1 := RQ1'
    have RQ2 := RQ2'
    have RQG := RQG'
    have RQL := RQL'
    have RQC := RQC'
    have RQO := RQO'
    have RT := RT'
    have RP := RP'
    have RB := RB'
    clear RQ0' RQ1' RQ2' RQG' RQL' RQC' RQO' RT' RP' RB'
    clear hb w3a w3b w4a w4b
    have cs : W3.cell? ⟨g1, i * 4, none⟩ = some (.int .i64 s) := by rw [RQ1.out.cellAt (i * 4) (by omega), ic_at (by rw [Hln.out.1]; omega), Ns.out]
    have cq : W3.cell? ⟨g1, i * 4 + 3, none⟩ = some (.int .i64 q) := by rw [RQ1.out.cellAt (i * 4 + 3) (by omega), ic_at (by rw [Hln.out.1]; omega), Nq.out]
    have fq := RQ1.out.frozenAt (i * 4 + 3)
    have w5a := Ex5.out
    have w5b := iw Ex5.out
    go_wp2_with fail
    refine (HMn.out _ _ _).mono ?_
    rintro e w9 ⟨rfl, rfl⟩
    rw [Enn.out]
    go_upto_region 17 with fail
    generalize hW : World.setCell _ _ _ = W4
    clear cs cq fq w5a w5b
    have hst := (RQ1.out.stored ((i * 4 + 3)) (.int .i64 nn)).1
    rw [← ic_set] at hst
    have RQ0' : Hid (W4.ownsRow lo 2 1 (.slice (some ⟨g0, 0, none⟩) n d0) n (ic (D))) := Lib.hid (by rw [← hW]; exact owns_far RQ0.out (by have g9 := HG9.out; have n9 := HN9.out; have eG := HEG.out; have eL := HEL.out; have eC := HEC.out; have eO := HEO.out; have lo9 := HLo.out; simp [Value.ownBlock]; omega) _)
    have RQ1' : Hid (W4.ownsRow lo 98 4 (.slice (some ⟨g1, 0, none⟩) n d1) n (ic (M1.set (i * 4 + 3) nn))) := Lib.hid (by rw [← hW]; exact hst)
    have RQ2' : Hid (W4.ownsRow lo 2 1 (.slice (some ⟨g2, 0, none⟩) n d2) n (ic (V))) := Lib.hid (by rw [← hW]; exact owns_far RQ2.out (by have g9 := HG9.out; have n9 := HN9.out; have eG := HEG.out; have eL := HEL.out; have eC := HEC.out; have eO := HEO.out; have lo9 := HLo.out; simp [Value.ownBlock]; omega) _)
    have RQG' : Hid (W4.ownsRow lo 2 1 (.slice (some ⟨hG, 0, none⟩) n n) n (ic (G1.set i gg))) := Lib.hid (by rw [← hW]; exact owns_far RQG.out (by have g9 := HG9.out; have n9 := HN9.out; have eG := HEG.out; have eL := HEL.out; have eC := HEC.out; have eO := HEO.out; have lo9 := HLo.out; simp [Value.ownBlock]; omega) _)
    have RQL' : Hid (W4.ownsRow lo 2 1 (.slice (some ⟨hL, 0, none⟩) n n) n (ic (L1))) := Lib.hid (by rw [← hW]; exact owns_far RQL.out (by have g9 := HG9.out; have n9 := HN9.out; have eG := HEG.out; have eL := HEL.out; have eC := HEC.out; have eO := HEO.out; have lo9 := HLo.out; simp [Value.ownBlock]; omega) _)
    have RQC' : Hid (W4.ownsRow lo 2 1 (.slice (some ⟨hC, 0, none⟩) n eC) n (ic (C1))) := Lib.hid (by rw [← hW]; exact owns_far RQC.out (by have g9 := HG9.out; have n9 := HN9.out; have eG := HEG.out; have eL := HEL.out; have eC := HEC.out; have eO := HEO.out; have lo9 := HLo.out; simp [Value.ownBlock]; omega) _)
    have RQO' : Hid (W4.ownsRow lo 2 1 (.slice (some ⟨gO, 0, none⟩) n eO) n (ic (ints O))) := Lib.hid (by rw [← hW]; exact owns_far RQO.out (by have g9 := HG9.out; have n9 := HN9.out; have eG := HEG.out; have eL := HEL.out; have eC := HEC.out; have eO := HEO.out; have lo9 := HLo.out; simp [Value.ownBlock]; omega) _)
    have RT' : Hid (Bw W4 t [.slice (some ⟨g0, 0, none⟩) n d0, .slice (some ⟨g1, 0, none⟩) n d1, .slice (some ⟨g2, 0, none⟩) n d2]) := Lib.hid (by rw [← hW]; exact RT.out.setOther (by have g9 := HG9.out; have n9 := HN9.out; have eG := HEG.out; have eL := HEL.out; have eC := HEC.out; have eO := HEO.out; have lo9 := HLo.out; show g1 ≠ t; omega) _)
    have RP' : Hid (Bw W4 w.heap.size [.slice none 0 0, .slice none 0 0, .slice none 0 0]) := Lib.hid (by rw [← hW]; exact RP.out.setOther (by have g9 := HG9.out; have n9 := HN9.out; have eG := HEG.out; have eL := HEL.out; have eC := HEC.out; have eO := HEO.out; have lo9 := HLo.out; show g1 ≠ w.heap.size; omega) _)
    have RB' : Hid (Below w.heap.size w W4) := Lib.hid (by rw [← hW]; exact RB.out.setCell (p := ⟨g1, (i * 4 + 3), none⟩) (by have g9 := HG9.out; have n9 := HN9.out; have eG := HEG.out; have eL := HEL.out; have eC := HEC.out; have eO := HEO.out; have lo9 := HLo.out; show w.heap.size ≤ g1; omega) _)
    clear hst hW RQ0 RQ1 RQ2 RQG RQL RQC RQO RT RP RB
    have RQ0 := RQ0'
    have RQ1 := RQ1'
    have RQ2 := RQ2'
    have RQG := RQG'
    have RQL := RQL'
    have RQC := RQC'
    have RQO := RQO'
    have RT := RT'
    have RP := RP'
    have RB := RB'
    clear RQ0' RQ1' RQ2' RQG' RQL' RQC' RQO' RT' RP' RB'
    have cn : W4.cell? ⟨g1, i * 4 + 3, none⟩ = some (.int .i64 nn) := by rw [RQ1.out.cellAt (i * 4 + 3) (by omega), ic_at (by rw [List.length_set, Hln.out.1]; omega), List.getD_eq_getElem?_getD, List.getElem?_set_self (by rw [Hln.out.1]; omega)]; rfl
    have cy : W4.cell? ⟨hL, i, none⟩ = some (.int .i64 y) := by rw [RQL.out.cellAt (i) (by omega), ic_at (by rw [Hln.out.2.2.2]; omega), Ny.out]
    have fy := RQL.out.frozenAt i
    have w6a := Elv.out
    have w6b := iw Elv.out
    go_upto_region 18 with fail
    generalize hW : World.setCell _ _ _ = W5
    clear cn cy fy
    have hst := (RQL.out.stored (i) (.int .i64 lv)).1
    rw [← ic_set] at hst
    have RQ0' : Hid (W5.ownsRow lo 2 1 (.slice (some ⟨g0, 0, none⟩) n d0) n (ic (D))) := Lib.hid (by rw [← hW]; exact owns_far RQ0.out (by have g9 := HG9.out; have n9 := HN9.out; have eG := HEG.out; have eL := HEL.out; have eC := HEC.out; have eO := HEO.out; have lo9 := HLo.out; simp [Value.ownBlock]; omega) _)
    have RQ1' : Hid (W5.ownsRow lo 98 4 (.slice (some ⟨g1, 0, none⟩) n d1) n (ic (M1.set (i * 4 + 3) nn))) := Lib.hid (by rw [← hW]; exact owns_far RQ1.out (by have g9 := HG9.out; have n9 := HN9.out; have eG := HEG.out; have eL := HEL.out; have eC := HEC.out; have eO := HEO.out; have lo9 := HLo.out; simp [Value.ownBlock]; omega) _)
    have RQ2' : Hid (W5.ownsRow lo 2 1 (.slice (some ⟨g2, 0, none⟩) n d2) n (ic (V))) := Lib.hid (by rw [← hW]; exact owns_far RQ2.out (by have g9 := HG9.out; have n9 := HN9.out; have eG := HEG.out; have eL := HEL.out; have eC := HEC.out; have eO := HEO.out; have lo9 := HLo.out; simp [Value.ownBlock]; omega) _)
    have RQG' : Hid (W5.ownsRow lo 2 1 (.slice (some ⟨hG, 0, none⟩) n n) n (ic (G1.set i gg))) := Lib.hid (by rw [← hW]; exact owns_far RQG.out (by have g9 := HG9.out; have n9 := HN9.out; have eG := HEG.out; have eL := HEL.out; have eC := HEC.out; have eO := HEO.out; have lo9 := HLo.out; simp [Value.ownBlock]; omega) _)
    have RQL' : Hid (W5.ownsRow lo 2 1 (.slice (some ⟨hL, 0, none⟩) n n) n (ic (L1.set i lv))) := Lib.hid (by rw [← hW]; exact hst)
    have RQC' : Hid (W5.ownsRow lo 2 1 (.slice (some ⟨hC, 0, none⟩) n eC) n (ic (C1))) := Lib.hid (by rw [← hW]; exact owns_far RQC.out (by have g9 := HG9.out; have n9 := HN9.out; have eG := HEG.out; have eL := HEL.out; have eC := HEC.out; have eO := HEO.out; have lo9 := HLo.out; simp [Value.ownBlock]; omega) _)
    have RQO' : Hid (W5.ownsRow lo 2 1 (.slice (some ⟨gO, 0, none⟩) n eO) n (ic (ints O))) := Lib.hid (by rw [← hW]; exact owns_far RQO.out (by have g9 := HG9.out; have n9 := HN9.out; have eG := HEG.out; have eL := HEL.out; have eC := HEC.out; have eO := HEO.out; have lo9 := HLo.out; simp [Value.ownBlock]; omega) _)
    have RT' : Hid (Bw W5 t [.slice (some ⟨g0, 0, none⟩) n d0, .slice (some ⟨g1, 0, none⟩) n d1, .slice (some ⟨g2, 0, none⟩) n d2]) := Lib.hid (by rw [← hW]; exact RT.out.setOther (by have g9 := HG9.out; have n9 := HN9.out; have eG := HEG.out; have eL := HEL.out; have eC := HEC.out; have eO := HEO.out; have lo9 := HLo.out; show hL ≠ t; omega) _)
    have RP' : Hid (Bw W5 w.heap.size [.slice none 0 0, .slice none 0 0, .slice none 0 0]) := Lib.hid (by rw [← hW]; exact RP.out.setOther (by have g9 := HG9.out; have n9 := HN9.out; have eG := HEG.out; have eL := HEL.out; have eC := HEC.out; have eO := HEO.out; have lo9 := HLo.out; show hL ≠ w.heap.size; omega) _)
    have RB' : Hid (Below w.heap.size w W5) := Lib.hid (by rw [← hW]; exact RB.out.setCell (p := ⟨hL, i, none⟩) (by have g9 := HG9.out; have n9 := HN9.out; have eG := HEG.out; have eL := HEL.out; have eC := HEC.out; have eO := HEO.out; have lo9 := HLo.out; show w.heap.size ≤ hL; omega) _)
    clear hst hW RQ0 RQ1 RQ2 RQG RQL RQC RQO RT RP RB
    have RQ0 := RQ0'
    have RQ1 := RQ1'
    have RQ2 := RQ2'
    have RQG := RQG'
    have RQL := RQL'
    have RQC := RQC'
    have RQO := RQO'
    have RT := RT'
    have RP := RP'
    have RB := RB'
    clear RQ0' RQ1' RQ2' RQG' RQL' RQC' RQO' RT' RP' RB'
    have xt0 := RT.out.c 0 rfl
    have cz : W5.cell? ⟨g0, i, none⟩ = some (.int .i64 z) := by rw [RQ0.out.cellAt (i) (by omega), ic_at (by rw [HN0.out]; omega), Nz.out]
    by_cases hzn : z < 0
    · have hzg : ¬ 0 ≤ z := by omega
      go_wp2_with fail
      go_roundw
      case rel => exact ⟨k + 1, by omega, by go_num, RQ0, Lib.hid (by rw [HStep.out]; exact RQ1.out), RQ2, Lib.hid (by rw [HStep.out]; exact RQG.out), Lib.hid (by rw [HStep.out]; exact RQL.out), Lib.hid (by rw [HStep.out]; simp only [if_pos hzn]; exact RQC.out), RQO, RT, RP, RB⟩
      case measure => simp [intOf]; omega
    · have hrk := HRg.out i (by rw [HN0.out]; exact hin)
      rw [Nz.out, HN0.out] at hrk
      obtain ⟨j, rfl⟩ : ∃ j : Nat, z = (j : Int) := ⟨z.toNat, by omega⟩
      have hjn : j < n := by omega
      have hj0 : (0 : Int) ≤ (j : Int) := by omega
      have hj1 : (j : Int) < (n : Int) := by omega
      obtain ⟨cj, hcj⟩ : ∃ x, C1.getD j 0 = x := ⟨_, rfl⟩
      have ccj : W5.cell? ⟨hC, j, none⟩ = some (.int .i64 cj) := by rw [RQC.out.cellAt (j) (by omega), ic_at (by rw [Hln.out.2.1]; omega), hcj]
      have fcj := RQC.out.frozenAt j
      have cl9 : W5.cell? ⟨hL, i, none⟩ = some (.int .i64 lv) := by rw [RQL.out.cellAt i (by omega), ic_at (by rw [List.length_set, Hln.out.2.2.2]; omega), List.getD_eq_getElem?_getD, List.getElem?_set_self (by rw [Hln.out.2.2.2]; exact hin)]; rfl
      obtain ⟨cs, hcs⟩ : ∃ x, wrap64 (cj + lv) = x := ⟨_, rfl⟩
      have w7b := iw hcs
      have HCs : Hid ((if (j : Int) < 0 then C1 else C1.set (j : Int).toNat (wrap64 (C1.getD (j : Int).toNat 0 + lv))) = C1.set j cs) := Lib.hid (by rw [if_neg (by omega), Int.toNat_natCast, hcj, hcs])
      clear hcj
      go_wp2_with fail
      go_still_tail 14, (by kernel_rfl)
      (try change wpList _ _ _ _ _ W5.drew)
      have hdr : Below W5.heap.size W5 W5.drew := (Below.refl _ _).drew
      have RQ0' := Lib.hid (owns_below RQ0.out hdr (Nat.le_refl _))
      have RQ1' := Lib.hid (owns_below RQ1.out hdr (Nat.le_refl _))
      have RQ2' := Lib.hid (owns_below RQ2.out hdr (Nat.le_refl _))
      have RQG' := Lib.hid (owns_below RQG.out hdr (Nat.le_refl _))
      have RQL' := Lib.hid (owns_below RQL.out hdr (Nat.le_refl _))
      have RQC' := Lib.hid (owns_below RQC.out hdr (Nat.le_refl _))
      have RQO' := Lib.hid (owns_below RQO.out hdr (Nat.le_refl _))
      have RT' := Lib.hid (RT.out.below hdr RT.out.1.1)
      have RP' := Lib.hid (RP.out.below hdr RP.out.1.1)
      have RB' : Hid (Below w.heap.size w W5.drew) := Lib.hid (RB.out.trans (hdr.mono RB.out.size))
      clear RQ0 RQ1 RQ2 RQG RQL RQC RQO RT RP RB
      have RQ0 := RQ0'
      have RQ1 := RQ1'
      have RQ2 := RQ2'
      have RQG := RQG'
      have RQL := RQL'
      have RQC := RQC'
      have RQO := RQO'
      have RT := RT'
      have RP := RP'
      have RB := RB'
      clear RQ0' RQ1' RQ2' RQG' RQL' RQC' RQO' RT' RP' RB'
      go_wp2_with fail
      go_roundw
      case rel =>
        have hst := (RQC.out.stored j (.int .i64 cs)).1
        rw [← ic_set] at hst
        exact ⟨k + 1, by omega, by go_num, Lib.hid (owns_far RQ0.out (by have g9 := HG9.out; have n9 := HN9.out; have eG := HEG.out; have eL := HEL.out; have eC := HEC.out; have eO := HEO.out; have lo9 := HLo.out; simp [Value.ownBlock]; omega) _), Lib.hid (by rw [HStep.out]; exact owns_far RQ1.out (by have g9 := HG9.out; have n9 := HN9.out; have eG := HEG.out; have eL := HEL.out; have eC := HEC.out; have eO := HEO.out; have lo9 := HLo.out; simp [Value.ownBlock]; omega) _), Lib.hid (owns_far RQ2.out (by have g9 := HG9.out; have n9 := HN9.out; have eG := HEG.out; have eL := HEL.out; have eC := HEC.out; have eO := HEO.out; have lo9 := HLo.out; simp [Value.ownBlock]; omega) _), Lib.hid (by rw [HStep.out]; exact owns_far RQG.out (by have g9 := HG9.out; have n9 := HN9.out; have eG := HEG.out; have eL := HEL.out; have eC := HEC.out; have eO := HEO.out; have lo9 := HLo.out; simp [Value.ownBlock]; omega) _), Lib.hid (by rw [HStep.out]; exact owns_far RQL.out (by have g9 := HG9.out; have n9 := HN9.out; have eG := HEG.out; have eL := HEL.out; have eC := HEC.out; have eO := HEO.out; have lo9 := HLo.out; simp [Value.ownBlock]; omega) _), Lib.hid (by rw [HStep.out]; simp only [HCs.out]; exact hst), Lib.hid (owns_far RQO.out (by have g9 := HG9.out; have n9 := HN9.out; have eG := HEG.out; have eL := HEL.out; have eC := HEC.out; have eO := HEO.out; have lo9 := HLo.out; simp [Value.ownBlock]; omega) _), Lib.hid (RT.out.setOther (by have g9 := HG9.out; have n9 := HN9.out; have eG := HEG.out; have eL := HEL.out; have eC := HEC.out; have eO := HEO.out; have lo9 := HLo.out; show hC ≠ t; omega) _), Lib.hid (RP.out.setOther (by have g9 := HG9.out; have n9 := HN9.out; have eG := HEG.out; have eL := HEL.out; have eC := HEC.out; have eO := HEO.out; have lo9 := HLo.out; show hC ≠ w.heap.size; omega) _), Lib.hid (RB.out.setCell (by have g9 := HG9.out; have n9 := HN9.out; have eG := HEG.out; have eL := HEL.out; have eC := HEC.out; have eO := HEO.out; have lo9 := HLo.out; show w.heap.size ≤ hC; omega) _)⟩
      case measure => simp [intOf]; omega
  · obtain rfl : k = n := by omega
    have x0 := RT.out.c 0 rfl
    have x1 := RT.out.c 1 rfl
    have x2 := RT.out.c 2 rfl
    have q0 := RP.out.c 0 rfl
    have q1 := RP.out.c 1 rfl
    have q2 := RP.out.c 2 rfl
    have f0 := RP.out.f 0 (by simp)
    have f1 := RP.out.f 1 (by simp)
    have f2 := RP.out.f 2 (by simp)
    go_wp2_with fail
    have n9 := HN9.out
    have g9 := HG9.out
    have eG := HEG.out
    have eL := HEL.out
    have lo9 := HLo.out
    refine bodyPost_ret (v := .tuple #[.agg #[.slice (some ⟨g0, 0, none⟩) k d0, .slice (some ⟨g1, 0, none⟩) k d1, .slice (some ⟨g2, 0, none⟩) k d2], .slice (some ⟨hG, 0, none⟩) k k, .slice (some ⟨hL, 0, none⟩) k k]) (by first | (simp [results, Try.results53, go_sem, *]; done) | (simp (maxDischargeDepth := 12) [results, Try.results53, go_sem, *]; done) | (simp (maxDischargeDepth := 12) [results, Try.results53, go_sem, *]; rfl)) rfl ⟨lo, g0, g1, g2, hG, hL, d0, d1, d2, k, k, rfl, ?_, ?_, ?_, ?_, ?_, by omega, by omega, ?_, t, by omega, by omega, by omega, by omega, by omega, by omega⟩
    · exact owns_far (owns_far (owns_far RQ0.out (by simp [Value.ownBlock]; omega) _) (by simp [Value.ownBlock]; omega) _) (by simp [Value.ownBlock]; omega) _
    · exact owns_far (owns_far (owns_far RQ1.out (by simp [Value.ownBlock]; omega) _) (by simp [Value.ownBlock]; omega) _) (by simp [Value.ownBlock]; omega) _
    · exact owns_far (owns_far (owns_far RQ2.out (by simp [Value.ownBlock]; omega) _) (by simp [Value.ownBlock]; omega) _) (by simp [Value.ownBlock]; omega) _
    · exact owns_far (owns_far (owns_far RQG.out (by simp [Value.ownBlock]; omega) _) (by simp [Value.ownBlock]; omega) _) (by simp [Value.ownBlock]; omega) _
    · exact owns_far (owns_far (owns_far RQL.out (by simp [Value.ownBlock]; omega) _) (by simp [Value.ownBlock]; omega) _) (by simp [Value.ownBlock]; omega) _
    · exact ((RB.out.setCell (Nat.le_refl _) _).setCell (Nat.le_refl _) _).setCell (Nat.le_refl _) _

end Go.Proofs.Ytckmacnmmloemaa
