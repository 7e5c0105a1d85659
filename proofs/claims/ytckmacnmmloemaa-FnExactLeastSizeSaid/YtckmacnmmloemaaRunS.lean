/- A run of days: the model. -/
import Derived.Test.YtckmacnmmloemaaRunV
import Derived.Test.YtckmacnmmloemaaSsP
import Derived.Test.YtckmacnmmloemaaDayS
import Derived.Deep.Cut
namespace Go.Proofs.Ytckmacnmmloemaa
open Go.RowKit
set_option linter.unusedVariables false
set_option linter.unusedSimpArgs false
set_option maxRecDepth 100000
attribute [local irreducible] wpV wpList Code.wp

def RunQ (D V : List Int) (R : RunSt) (n len : Nat) (w : World) (e : Ending) (w' : World) : Prop :=
  ∃ lo g0 g1 g2 d0 d1 d2 sa sc za zc, e = .returned (.tuple #[.agg #[.slice (some ⟨g0, 0, none⟩) n d0, .slice (some ⟨g1, 0, none⟩) n d1, .slice (some ⟨g2, 0, none⟩) n d2], .slice sa len sc, .slice za len zc]) ∧ w'.ownsRow lo 2 1 (.slice (some ⟨g0, 0, none⟩) n d0) n (ic D) ∧ w'.ownsRow lo 98 4 (.slice (some ⟨g1, 0, none⟩) n d1) n (ic R.M) ∧ w'.ownsRow lo 2 1 (.slice (some ⟨g2, 0, none⟩) n d2) n (ic V) ∧ g0 ≠ g1 ∧ g0 ≠ g2 ∧ g1 ≠ g2 ∧ HSS w' lo w'.heap.size lo w'.heap.size (.slice sa len sc) len R.G ∧ w'.ownsRow lo 2 1 (.slice za len zc) len (ic R.S) ∧ w.heap.size ≤ lo ∧ Below w.heap.size w w'
set_option maxHeartbeats 32000000 in
theorem l06Run_any (pa b0 o0 b1 o1 b2 o2 n c0 c1 c2 : Nat) (a : Option Addr) (len cap : Nat) (D M V : List Int) (Zs : List (List Int)) (w : World) (hs : Src w b0 o0 b1 o1 b2 o2 n D M V) (hpa : Bx w pa [.slice (some ⟨b0, o0, none⟩) n c0, .slice (some ⟨b1, o1, none⟩) n c1, .slice (some ⟨b2, o2, none⟩) n c2]) (h : RowSS w a Zs) (hlen : Zs.length = len) (hdy : daysB Zs n = true) (hl : len ≤ 64) (hn12 : n ≤ 12) (hr : ∀ j, j < D.length → -1 ≤ D.getD j 0 ∧ D.getD j 0 ≤ (D.length : Int) - 1) (ha : acycB D = true) :
    Calls Try.prog 64 #[.pointer (some ⟨pa, 0, none⟩), .slice a len cap] w (RunQ D V (runTo D M V Zs n len) n len w) := by
  have HSrc := Lib.hid hs
  have HPa := Lib.hid hpa
  have H := Lib.hid h
  have Hlen := Lib.hid hlen
  have HDy := Lib.hid hdy
  have HRg := Lib.hid hr
  have HAc := Lib.hid ha
  have hn1 := hs.pos
  clear hs hpa h hlen hdy hr ha
  have hmm : n ≤ 1048576 := by omega
  obtain ⟨W0, hW0⟩ : ∃ W, w.alloc (.cells #[.slice none 0 0, .slice none 0 0, .slice none 0 0] 29) = W := ⟨_, rfl⟩
  have HP0 : Hid (Bw W0 w.heap.size [.slice none 0 0, .slice none 0 0, .slice none 0 0]) := Lib.hid (by rw [← hW0]; exact Bw.new w [.slice none 0 0, .slice none 0 0, .slice none 0 0] _)
  have HB0 : Hid (Below w.heap.size w W0) := Lib.hid (by rw [← hW0]; exact bel1 w _)
  have HZ0 : Hid (W0.heap.size = w.heap.size + 1) := Lib.hid (by rw [← hW0]; simp)
  have HOw := Lib.hid (l06Own_any pa b0 o0 b1 o1 b2 o2 n c0 c1 c2 D M V W0 (HSrc.out.below HB0.out (Nat.le_refl _)) (HPa.out.below HB0.out HPa.out.1))
  go_enter Try.func64, Try.ntmps64
  go_upto_region 1 with fail
  (try rw [hW0])
  clear hW0
  go_wp2_with fail
  refine HOw.out.mono ?_
  rintro e w2 ⟨lo, g0, g1, g2, d0, d1, d2, rfl, hr0, hr1, hr2, n01, n02, n12, hlo, hb⟩
  clear HOw
  have HP2 := Lib.hid (HP0.out.below hb HP0.out.1.1)
  have HB2 : Hid (Below w.heap.size w w2) := Lib.hid (HB0.out.trans (hb.mono HB0.out.size))
  have HLo : Hid (w.heap.size + 1 ≤ lo) := Lib.hid (by have h9 := HZ0.out; omega)
  have HG9 : Hid (lo ≤ w2.heap.size) := Lib.hid (by have h1 := hr0.lt g0 rfl; omega)
  have HQ0 := Lib.hid hr0
  have HQ1 := Lib.hid hr1
  have HQ2 := Lib.hid hr2
  have HN9 : Hid (g0 ≠ g1 ∧ g0 ≠ g2 ∧ g1 ≠ g2) := Lib.hid ⟨n01, n02, n12⟩
  clear hr0 hr1 hr2 n01 n02 n12 hlo hb HP0 HB0 HZ0
  obtain ⟨t, ht⟩ : ∃ t, w2.heap.size = t := ⟨_, rfl⟩
  have Hlt : Hid (lo ≤ t) := Lib.hid (by rw [← ht]; exact HG9.out)
  go_upto_region 2 with fail
  generalize hW3 : World.alloc _ _ = W3
  (try rw [ht])
  have HT3 : Hid (Bw W3 t [.slice (some ⟨g0, 0, none⟩) n d0, .slice (some ⟨g1, 0, none⟩) n d1, .slice (some ⟨g2, 0, none⟩) n d2]) := Lib.hid (by rw [← hW3, ← ht]; exact Bw.new w2 [.slice (some ⟨g0, 0, none⟩) n d0, .slice (some ⟨g1, 0, none⟩) n d1, .slice (some ⟨g2, 0, none⟩) n d2] _)
  have HP3 : Hid (Bw W3 w.heap.size [.slice none 0 0, .slice none 0 0, .slice none 0 0]) := Lib.hid (by rw [← hW3]; exact HP2.out.alloc _)
  have HQ03 : Hid (W3.ownsRow lo 2 1 (.slice (some ⟨g0, 0, none⟩) n d0) n (ic D)) := Lib.hid (by rw [← hW3]; exact HQ0.out.alloc _)
  have HQ13 : Hid (W3.ownsRow lo 98 4 (.slice (some ⟨g1, 0, none⟩) n d1) n (ic (M))) := Lib.hid (by rw [← hW3]; exact HQ1.out.alloc _)
  have HQ23 : Hid (W3.ownsRow lo 2 1 (.slice (some ⟨g2, 0, none⟩) n d2) n (ic V)) := Lib.hid (by rw [← hW3]; exact HQ2.out.alloc _)
  have HB3 : Hid (Below w.heap.size w W3) := Lib.hid (by rw [← hW3]; exact HB2.out.alloc HB2.out.size _)
  have HS3 : Hid (W3.heap.size = t + 1) := Lib.hid (by rw [← hW3, ← ht]; simp)
  clear hW3 HQ0 HQ1 HQ2 HP2 HB2 ht HG9
  go_upto_region 4 with fail
  generalize hW5 : World.alloc (World.alloc W3 _) _ = W5
  have hb5 : Below W3.heap.size W3 W5 := by rw [← hW5]; exact below2 W3 _ _
  have HS5 : Hid (W5.heap.size = W3.heap.size + 2) := Lib.hid (by rw [← hW5]; simp)
  have HM5 : Hid (MadeSS W5 (t + 1) W5.heap.size (t + 1) W5.heap.size (.slice (some ⟨W3.heap.size, 0, none⟩) 0 0) 0 [] []) := Lib.hid ⟨HRow.mk' (by rw [← hW5]; exact (World.ownsRow_lit (base := t + 1) (e := 22) (size := 1) W3 #[] 0 (by have h7 := HS3.out; omega) (by decide) rfl).alloc _), rfl, fun k hk => by omega, fun k u b h => by simp at h, fun j k u t b _ h => by simp at h, Nat.le_refl _⟩
  have HZ5 : Hid (W5.ownsRow (t + 1) 2 1 (.slice (some ⟨W3.heap.size + 1, 0, none⟩) 0 0) 0 (ic [])) := Lib.hid (by rw [← hW5, show W3.heap.size + 1 = (W3.alloc (.cells #[] 22)).heap.size by simp]; exact World.ownsRow_lit (base := t + 1) (e := 2) (size := 1) (W3.alloc (.cells #[] 22)) #[] 0 (by have h7 := HS3.out; simp; omega) (by decide) rfl)
  have HX5 : Hid (∀ b, (Value.slice (some ⟨W3.heap.size + 1, 0, none⟩) 0 0).ownBlock = some b → (Value.slice (some ⟨W3.heap.size, 0, none⟩) 0 0).ownBlock ≠ some b ∧ ∀ (j : Nat) (u : Value), ([] : List Value)[j]? = some u → u.ownBlock ≠ some b) := Lib.hid fun b hb => ⟨fun e => by have h1 := Option.some.inj hb; have h2 := Option.some.inj e; simp only at h1 h2; omega, fun j u h => by simp at h⟩
  have HT5 := Lib.hid (HT3.out.below hb5 HT3.out.1.1)
  have HP5 := Lib.hid (HP3.out.below hb5 HP3.out.1.1)
  have HQ05 := Lib.hid (owns_below HQ03.out hb5 (Nat.le_refl _))
  have HQ15 := Lib.hid (owns_below HQ13.out hb5 (Nat.le_refl _))
  have HQ25 := Lib.hid (owns_below HQ23.out hb5 (Nat.le_refl _))
  have HB5 : Hid (Below w.heap.size w W5) := Lib.hid (HB3.out.trans (hb5.mono HB3.out.size))
  have Hsz5 : Hid (t < W5.heap.size) := Lib.hid HT5.out.1.1
  clear hW5 hb5 HT3 HP3 HQ03 HQ13 HQ23 HB3
  skip
  go_wp2_with fail
  go_loopw [8, 9, 10] (fun sv zv kv wr => ∃ (k : Nat) (S : List Value) (sa za : Option Addr) (sc zc g0 g1 g2 d0 d1 d2 : Nat), k ≤ len ∧ kv = .int .i64 (k : Int) ∧ sv = .slice sa k sc ∧ zv = .slice za k zc ∧ Hid (MadeSS wr (t + 1) wr.heap.size (t + 1) wr.heap.size (.slice sa k sc) k (runTo D M V Zs n k).G S) ∧ Hid (wr.ownsRow (t + 1) 2 1 (.slice za k zc) k (ic (runTo D M V Zs n k).S)) ∧ Hid (∀ b, (Value.slice za k zc).ownBlock = some b → (Value.slice sa k sc).ownBlock ≠ some b ∧ ∀ (j : Nat) (u : Value), S[j]? = some u → u.ownBlock ≠ some b) ∧ Hid (wr.ownsRow lo 2 1 (.slice (some ⟨g0, 0, none⟩) n d0) n (ic D)) ∧ Hid (wr.ownsRow lo 98 4 (.slice (some ⟨g1, 0, none⟩) n d1) n (ic ((runTo D M V Zs n k).M))) ∧ Hid (wr.ownsRow lo 2 1 (.slice (some ⟨g2, 0, none⟩) n d2) n (ic V)) ∧ Hid (g0 ≠ g1 ∧ g0 ≠ g2 ∧ g1 ≠ g2) ∧ Hid (Bw wr t [.slice (some ⟨g0, 0, none⟩) n d0, .slice (some ⟨g1, 0, none⟩) n d1, .slice (some ⟨g2, 0, none⟩) n d2]) ∧ Hid (Bw wr w.heap.size [.slice none 0 0, .slice none 0 0, .slice none 0 0]) ∧ Hid (Below w.heap.size w wr) ∧ Hid (t < wr.heap.size)) (fun _ _ kv _ => len - (intOf kv).toNat)
  case atStart => exact ⟨0, _, _, _, 0, 0, g0, g1, g2, d0, d1, d2, Nat.zero_le _, rfl, rfl, by first | rfl | (simp; done), HM5, HZ5, HX5, HQ05, HQ15, HQ25, HN9, HT5, HP5, HB5, Hsz5⟩
  case round =>
  clear HM5 HZ5 HX5 HQ05 HQ15 HQ25 HN9 HT5 HP5 HB5 Hsz5
  obtain ⟨k, S, sa, za, sc, zc, g0, g1, g2, d0, d1, d2, hk, rfl, rfl, rfl, RM, RZ, RX, RQ0, RQ1, RQ2, RN, RT, RP, RB, RS⟩ := hrel
  have hk0 : (0 : Int) ≤ (k : Int) := by omega
  by_cases hlt : k < len
  · have hk1 : (k : Int) < (len : Int) := by omega
    obtain ⟨b, off, rfl, hb, hc⟩ : ∃ b off, a = some ⟨b, off, none⟩ ∧ b < wr.heap.size ∧ ∀ k, k < Zs.length → ∃ ak ck, wr.cell? ⟨b, off + k, none⟩ = some (.slice ak (zr Zs k).length ck) ∧ RowC wr ak (ic (zr Zs k)) := by
      rcases H.out.below RB.out (Nat.le_refl _) with h9 | h9
      · have h8 := Hlen.out; rw [h9, List.length_nil] at h8; omega
      · exact h9
    obtain ⟨ak, ck, hcell, hrow⟩ := hc k (by rw [Hlen.out]; exact hlt)
    have hdl := (daysB_at HDy.out (show k < Zs.length by rw [Hlen.out]; exact hlt)).1
    rw [hdl] at hcell
    obtain ⟨bi, oi, rfl, hbi, hci⟩ := hrow.cells (fun e => by rw [e, List.length_nil] at hdl; omega)
    obtain ⟨R, hR⟩ : ∃ R, runTo D M V Zs n k = R := ⟨_, rfl⟩
    have hsucc : runTo D M V Zs n (k + 1) = ⟨(runDay D V n R.M (zr Zs k)).M, R.G ++ [(runDay D V n R.M (zr Zs k)).G], R.S ++ [seaTo D (runDay D V n R.M (zr Zs k)).L n]⟩ := by rw [← hR]; rfl
    rw [hR] at RM RZ RQ1
    clear hR
    have HDa := Lib.hid (l06Day_any t g0 0 g1 0 g2 0 n d0 d1 d2 bi oi ck D R.M V (zr Zs k) wr (Src.own RQ0.out RQ1.out RQ2.out hn1 hmm) RT.out.1 hbi hci hdl hn12 HRg.out HAc.out)
    obtain ⟨S9, hS9⟩ : ∃ S9, runDay D V n R.M (zr Zs k) = S9 := ⟨_, rfl⟩
    unfold runDay at hS9
    rw [hS9] at HDa
    unfold runDay at hsucc
    rw [hS9] at hsucc
    have Hsucc := Lib.hid hsucc
    have hLl : S9.L.length = n ∧ S9.G.length = n := by rw [← hS9]; have h9 := RQ1.out.1; rw [ic_length] at h9; have h8 := dayTo_len (D := D) (V := V) (O := kahn D n) h9 hdl n; exact ⟨h8.2.2.2, h8.2.2.1⟩
    have HLl := Lib.hid hLl
    clear hsucc hS9 hc hrow hbi hci hdl hLl
    go_wp2_with fail
    refine HDa.out.mono ?_
    rintro e w6 ⟨lo6, f0, f1, f2, h1, h2, y0, y1, y2, e1, e2, rfl, q0, q1, q2, q3, q4, ⟨n01, n02, n12, m1, m2, m3, m4, m5, m6, nh⟩, hlo6, hb, -⟩
    clear HDa hcell
    have HLo6 : Hid (lo ≤ wr.heap.size) := Lib.hid (by have h9 := Hlt.out; have h8 := RS.out; omega)
    have RM6 := Lib.hid (RM.out.below hb ⟨Nat.le_refl _, Nat.le_refl _⟩)
    have RZ6 := Lib.hid (owns_below RZ.out hb (Nat.le_refl _))
    have RQ06 := Lib.hid (owns_below RQ0.out hb (Nat.le_refl _))
    have RT6 := Lib.hid (RT.out.below hb RT.out.1.1)
    have RP6 := Lib.hid (RP.out.below hb RP.out.1.1)
    have RB6 : Hid (Below w.heap.size w w6) := Lib.hid (RB.out.trans (hb.mono RB.out.size))
    have HF0 := Lib.hid q0
    have HF1 := Lib.hid q1
    have HF2 := Lib.hid q2
    have HF3 := Lib.hid q3
    have HF4 := Lib.hid q4
    have HFn : Hid (f0 ≠ f1 ∧ f0 ≠ f2 ∧ f1 ≠ f2) := Lib.hid ⟨n01, n02, n12⟩
    have HFm : Hid (f0 ≠ h1 ∧ f1 ≠ h1 ∧ f2 ≠ h1 ∧ h1 ≠ h2) := Lib.hid ⟨m1, m3, m5, nh⟩
    have HF9 : Hid (wr.heap.size ≤ lo6 ∧ lo6 ≤ f0 ∧ lo6 ≤ f1 ∧ lo6 ≤ f2 ∧ lo6 ≤ h1 ∧ lo6 ≤ h2 ∧ f0 < w6.heap.size ∧ f1 < w6.heap.size ∧ f2 < w6.heap.size ∧ h1 < w6.heap.size ∧ h2 < w6.heap.size ∧ wr.heap.size ≤ w6.heap.size) := Lib.hid (by have k0 := q0.lt f0 rfl; have k1 := q1.lt f1 rfl; have k2 := q2.lt f2 rfl; have k3 := q3.lt h1 rfl; have k4 := q4.lt h2 rfl; have k5 := hb.size; omega)
    have HOld : Hid ((∀ b, (Value.slice sa k sc).ownBlock = some b → b < wr.heap.size) ∧ (∀ b, (Value.slice za k zc).ownBlock = some b → b < wr.heap.size) ∧ ∀ (j : Nat) (u : Value) (b : Nat), S[j]? = some u → u.ownBlock = some b → b < wr.heap.size) := Lib.hid ⟨fun b hb9 => (RM.out.out.1.lt b hb9).2, fun b hb9 => (RZ.out.lt b hb9).2, fun j u b hj hb9 => by
      have hjn : j < k := by have h9 := (List.getElem?_eq_some_iff.1 hj).1; have h8 := RM.out.slen; omega
      obtain ⟨aj, cj, g8, g7⟩ := RM.out.row j hjn
      rw [g8] at hj; cases hj
      exact (g7.1.lt b hb9).2⟩
    obtain ⟨z6, hz6⟩ : ∃ z, wr.heap.size = z := ⟨_, rfl⟩
    rw [hz6] at HF9 HOld HLo6 RS RM6
    clear RM RZ RQ0 RQ1 RQ2 RT RP RB RN q0 q1 q2 q3 q4 n01 n02 n12 m1 m2 m3 m4 m5 m6 nh hlo6 hb hz6
    obtain ⟨u6, hu6⟩ : ∃ z, w6.heap.size = z := ⟨_, rfl⟩
    have Hu6 := Lib.hid hu6
    go_upto_region 8 with fail
    generalize hW7 : World.alloc w6 _ = W7
    (try rw [hu6])
    have HU7 : Hid (Bx W7 u6 [.slice (some ⟨f0, 0, none⟩) n y0, .slice (some ⟨f1, 0, none⟩) n y1, .slice (some ⟨f2, 0, none⟩) n y2]) := Lib.hid (by rw [← hW7, ← hu6]; exact Bx.new w6 [.slice (some ⟨f0, 0, none⟩) n y0, .slice (some ⟨f1, 0, none⟩) n y1, .slice (some ⟨f2, 0, none⟩) n y2] _)
    have RM7 : Hid (MadeSS W7 (t + 1) z6 (t + 1) z6 (.slice sa k sc) k R.G S) := Lib.hid (by rw [← hW7]; exact RM6.out.below (below1 w6 _) ⟨RM6.out.out.2.2, RM6.out.top⟩)
    have RZ7 : Hid (W7.ownsRow (t + 1) 2 1 (.slice za k zc) k (ic R.S)) := Lib.hid (by rw [← hW7]; exact RZ6.out.alloc _)
    have RQ07 : Hid (W7.ownsRow lo 2 1 (.slice (some ⟨g0, 0, none⟩) n d0) n (ic D)) := Lib.hid (by rw [← hW7]; exact RQ06.out.alloc _)
    have RT7 : Hid (Bw W7 t [.slice (some ⟨g0, 0, none⟩) n d0, .slice (some ⟨g1, 0, none⟩) n d1, .slice (some ⟨g2, 0, none⟩) n d2]) := Lib.hid (by rw [← hW7]; exact RT6.out.alloc _)
    have RP7 : Hid (Bw W7 w.heap.size [.slice none 0 0, .slice none 0 0, .slice none 0 0]) := Lib.hid (by rw [← hW7]; exact RP6.out.alloc _)
    have RB7 : Hid (Below w.heap.size w W7) := Lib.hid (by rw [← hW7]; exact RB6.out.alloc RB6.out.size _)
    have HE0 : Hid (W7.ownsRow lo6 2 1 (.slice (some ⟨f0, 0, none⟩) n y0) n (ic D)) := Lib.hid (by rw [← hW7]; exact HF0.out.alloc _)
    have HE1 : Hid (W7.ownsRow lo6 98 4 (.slice (some ⟨f1, 0, none⟩) n y1) n (ic S9.M)) := Lib.hid (by rw [← hW7]; exact HF1.out.alloc _)
    have HE2 : Hid (W7.ownsRow lo6 2 1 (.slice (some ⟨f2, 0, none⟩) n y2) n (ic V)) := Lib.hid (by rw [← hW7]; exact HF2.out.alloc _)
    have HE3 : Hid (W7.ownsRow lo6 2 1 (.slice (some ⟨h1, 0, none⟩) n e1) n (ic S9.G)) := Lib.hid (by rw [← hW7]; exact HF3.out.alloc _)
    have HE4 : Hid (W7.ownsRow lo6 2 1 (.slice (some ⟨h2, 0, none⟩) n e2) n (ic S9.L)) := Lib.hid (by rw [← hW7]; exact HF4.out.alloc _)
    have HS7 : Hid (W7.heap.size = u6 + 1) := Lib.hid (by rw [← hW7, ← hu6]; simp)
    rw [hu6] at HF9
    clear hW7 hu6 RM6 RZ6 RQ06 RT6 RP6 RB6 HF0 HF1 HF2 HF3 HF4 Hu6
    have x0 := RT7.out.c 0 rfl
    go_wp2_with fail
    go_loopw [14, 15] (fun sv iv wr2 => ∃ i : Nat, i ≤ n ∧ iv = .int .i64 (i : Int) ∧ sv = .int .i64 (seaTo D S9.L i) ∧ wr2 = W7) (fun _ iv _ => n - (intOf iv).toNat)
    case atStart => exact ⟨0, Nat.zero_le _, rfl, rfl, rfl⟩
    case round =>
    obtain ⟨i, hi, rfl, rfl, rfl⟩ := hrel
    have hi0 : (0 : Int) ≤ (i : Int) := by omega
    by_cases hli : i < n
    · have hi1 : (i : Int) < (n : Int) := by omega
      have cd := RQ07.out.cellAt i (by omega)
      have hDl : D.length = n := by have h9 := RQ07.out.1; rw [ic_length] at h9; omega
      rw [ic_at (by omega)] at cd
      have cl := HE4.out.cellAt i (by omega)
      rw [ic_at (by rw [HLl.out.1]; exact hli)] at cl
      have hss : seaTo D S9.L (i + 1) = if D.getD i 0 < 0 then wrap64 (seaTo D S9.L i + S9.L.getD i 0) else seaTo D S9.L i := rfl
      obtain ⟨dz, hdz⟩ : ∃ z, D.getD i 0 = z := ⟨_, rfl⟩
      obtain ⟨lz, hlz⟩ : ∃ z, S9.L.getD i 0 = z := ⟨_, rfl⟩
      obtain ⟨s, hs⟩ : ∃ z, seaTo D S9.L i = z := ⟨_, rfl⟩
      rw [hdz] at cd hss
      rw [hlz] at cl hss
      rw [hs] at hss ⊢
      have Hss := Lib.hid hss
      clear hss hdz hlz hs hDl
      obtain ⟨nx, hnx⟩ : ∃ z, wrap64 (s + lz) = z := ⟨_, rfl⟩
      have w7b := iw hnx
      rw [hnx] at Hss
      clear hnx
      by_cases hd : dz < 0
      · go_wp2_with fail
        go_roundw
        case rel => exact ⟨i + 1, by omega, by go_num, by rw [Hss.out, if_pos hd], by first | trivial | rfl⟩
        case measure => simp [intOf]; omega
      · go_wp2_with fail
        go_roundw
        case rel => exact ⟨i + 1, by omega, by go_num, by rw [Hss.out, if_neg hd], by first | trivial | rfl⟩
        case measure => simp [intOf]; omega
    · obtain rfl : n = i := by omega
      obtain ⟨sv, hsv⟩ : ∃ z, seaTo D S9.L n = z := ⟨_, rfl⟩
      rw [hsv] at Hsucc ⊢
      clear hsv
      have y_0 := RT7.out.c 0 rfl
      have y_1 := RT7.out.c 1 rfl
      have y_2 := RT7.out.c 2 rfl
      have yf0 := RT7.out.f 0 (by simp)
      have yf1 := RT7.out.f 1 (by simp)
      have yf2 := RT7.out.f 2 (by simp)
      have uu0 := HU7.out.c 0 rfl
      have uu1 := HU7.out.c 1 rfl
      have uu2 := HU7.out.c 2 rfl
      clear x0
      go_upto_region 15 with fail
      generalize hW8 : World.setCell _ _ _ = W8
      have hk8 : Kept t (t + 1) wr W8 := by rw [← hW8]; exact ((((Kept.set wr ⟨t, 0, none⟩ (.slice (some ⟨f0, 0, none⟩) n y0) ⟨Nat.le_refl _, Nat.lt_succ_self _⟩).trans (Kept.set _ ⟨t, 1, none⟩ (.slice (some ⟨f1, 0, none⟩) n y1) ⟨Nat.le_refl _, Nat.lt_succ_self _⟩)).trans (Kept.set _ ⟨t, 2, none⟩ (.slice (some ⟨f2, 0, none⟩) n y2) ⟨Nat.le_refl _, Nat.lt_succ_self _⟩)))
      have RT8 : Hid (Bw W8 t [.slice (some ⟨f0, 0, none⟩) n y0, .slice (some ⟨f1, 0, none⟩) n y1, .slice (some ⟨f2, 0, none⟩) n y2]) := Lib.hid (by rw [← hW8]; exact (((RT7.out.put 0 (by simp) (.slice (some ⟨f0, 0, none⟩) n y0)).put 1 (by simp) (.slice (some ⟨f1, 0, none⟩) n y1)).put 2 (by simp) (.slice (some ⟨f2, 0, none⟩) n y2)))
      have HS8 : Hid (W8.heap.size = u6 + 1) := Lib.hid (by rw [← hW8]; simp only [setCell_size]; exact HS7.out)
      have RM8 := Lib.hid (RM7.out.kept hk8 ⟨.inr (Nat.le_refl _), .inr (Nat.le_refl _)⟩)
      have RZ8 : Hid (W8.ownsRow (t + 1) 2 1 (.slice za k zc) k (ic R.S)) := Lib.hid (ownsRow_sameG RZ7.out fun b hb => hk8.block b (.inr (RZ7.out.lt b hb).1) (RZ7.out.lt b hb).2)
      have RP8 := Lib.hid (RP7.out.kept hk8 (by have g9 := HF9.out; have l9 := Hlt.out; have r9 := RS.out; have o9 := HLo6.out; have v9 := HLo.out; have s9 := HS7.out; omega))
      have RB8 : Hid (Below w.heap.size w W8) := Lib.hid (RB7.out.trans (hk8.below (by have g9 := HF9.out; have l9 := Hlt.out; have r9 := RS.out; have o9 := HLo6.out; have v9 := HLo.out; have s9 := HS7.out; omega) RB7.out.size))
      have HH0 : Hid (W8.ownsRow lo6 2 1 (.slice (some ⟨f0, 0, none⟩) n y0) n (ic D)) := Lib.hid (ownsRow_sameG HE0.out fun b hb => hk8.block b (by have h9 := (HE0.out.lt b hb).1; have g9 := HF9.out; have l9 := Hlt.out; have r9 := RS.out; have o9 := HLo6.out; have v9 := HLo.out; have s9 := HS7.out; omega) (HE0.out.lt b hb).2)
      have HH1 : Hid (W8.ownsRow lo6 98 4 (.slice (some ⟨f1, 0, none⟩) n y1) n (ic S9.M)) := Lib.hid (ownsRow_sameG HE1.out fun b hb => hk8.block b (by have h9 := (HE1.out.lt b hb).1; have g9 := HF9.out; have l9 := Hlt.out; have r9 := RS.out; have o9 := HLo6.out; have v9 := HLo.out; have s9 := HS7.out; omega) (HE1.out.lt b hb).2)
      have HH2 : Hid (W8.ownsRow lo6 2 1 (.slice (some ⟨f2, 0, none⟩) n y2) n (ic V)) := Lib.hid (ownsRow_sameG HE2.out fun b hb => hk8.block b (by have h9 := (HE2.out.lt b hb).1; have g9 := HF9.out; have l9 := Hlt.out; have r9 := RS.out; have o9 := HLo6.out; have v9 := HLo.out; have s9 := HS7.out; omega) (HE2.out.lt b hb).2)
      have HH3 : Hid (W8.ownsRow lo6 2 1 (.slice (some ⟨h1, 0, none⟩) n e1) n (ic S9.G)) := Lib.hid (ownsRow_sameG HE3.out fun b hb => hk8.block b (by have h9 := (HE3.out.lt b hb).1; have g9 := HF9.out; have l9 := Hlt.out; have r9 := RS.out; have o9 := HLo6.out; have v9 := HLo.out; have s9 := HS7.out; omega) (HE3.out.lt b hb).2)
      clear hW8 hk8 RT7 RM7 RZ7 RP7 RB7 HE0 HE1 HE2 HE3 HE4 RQ07 HU7 y_0 yf0 uu0 y_1 yf1 uu1 y_2 yf2 uu2
      have RM8a := Lib.hid (RM8.out.below (below1 W8 (.cells #[.slice (some ⟨h1, 0, none⟩) n e1] 22)) ⟨RM8.out.out.2.2, RM8.out.top⟩)
      have RZ8a := Lib.hid (RZ8.out.alloc (.cells #[.slice (some ⟨h1, 0, none⟩) n e1] 22))
      have HK0 := Lib.hid (HH0.out.alloc (.cells #[.slice (some ⟨h1, 0, none⟩) n e1] 22))
      have HK1 := Lib.hid (HH1.out.alloc (.cells #[.slice (some ⟨h1, 0, none⟩) n e1] 22))
      have HK2 := Lib.hid (HH2.out.alloc (.cells #[.slice (some ⟨h1, 0, none⟩) n e1] 22))
      have HK3 := Lib.hid (HH3.out.alloc (.cells #[.slice (some ⟨h1, 0, none⟩) n e1] 22))
      have RT8a := Lib.hid (RT8.out.alloc (.cells #[.slice (some ⟨h1, 0, none⟩) n e1] 22))
      have RP8a := Lib.hid (RP8.out.alloc (.cells #[.slice (some ⟨h1, 0, none⟩) n e1] 22))
      have RB8a : Hid (Below w.heap.size w (W8.alloc (.cells #[.slice (some ⟨h1, 0, none⟩) n e1] 22))) := Lib.hid (RB8.out.alloc RB8.out.size _)
      have Hcell := Lib.hid (show (W8.alloc (.cells #[.slice (some ⟨h1, 0, none⟩) n e1] 22)).cell? ⟨W8.heap.size, 0, none⟩ = some (.slice (some ⟨h1, 0, none⟩) n e1) by simp [go_sem])
      have Hlo8 := Lib.hid (show t + 1 ≤ (W8.alloc (.cells #[.slice (some ⟨h1, 0, none⟩) n e1] 22)).heap.size by have g9 := HF9.out; have l9 := Hlt.out; have r9 := RS.out; have o9 := HLo6.out; have v9 := HLo.out; have s9 := HS7.out; have s8 := HS8.out; have hh9 := HFm.out; simp; omega)
      have hkl : k ≤ 1048576 := by omega
      have hrr : HRow (W8.alloc (.cells #[.slice (some ⟨h1, 0, none⟩) n e1] 22)) 2 1 z6 (W8.alloc (.cells #[.slice (some ⟨h1, 0, none⟩) n e1] 22)).heap.size (.slice (some ⟨h1, 0, none⟩) n e1) n (ic S9.G) := (HRow.mk' HK3.out).mono (by have g9 := HF9.out; have l9 := Hlt.out; have r9 := RS.out; have o9 := HLo6.out; have v9 := HLo.out; have s9 := HS7.out; have s8 := HS8.out; have hh9 := HFm.out; omega) (Nat.le_refl _) (Nat.le_refl _)
      have Hrr := Lib.hid hrr
      clear hrr RM8 RZ8 RT8 RP8 RB8 HH0 HH1 HH2 HH3
      go_wp2_with (at_builtin; refine pushS rfl rfl _ _ rfl rfl RM8a.out.out.1 W8.heap.size _ (some ⟨h1, 0, none⟩) n e1 rfl Hcell.out hkl Hlo8.out ?_)
      intro gn cn w9 hrow hgrow hgn hgl
      have RM9 := Lib.hid (MadeSS.push9 RM8a.out HLl.out.2 Hrr.out (Nat.le_refl _) (by have g9 := HF9.out; have l9 := Hlt.out; have r9 := RS.out; have o9 := HLo6.out; have v9 := HLo.out; have s9 := HS7.out; have s8 := HS8.out; have hh9 := HFm.out; omega) hrow hgrow (by first | exact hgn | (simpa using hgn)) hgl)
      have hne9 : ∀ b, (Value.slice sa k sc).ownBlock = some b → t + 1 ≤ b ∧ b < z6 := fun b hb => ⟨(RM8a.out.out.1.lt b hb).1, HOld.out.1 b hb⟩
      have RZ9 := Lib.hid (owns_pushed RZ8a.out hgrow (fun b hb hb2 => (RX.out b hb2).1 hb))
      have HL0 := Lib.hid (owns_pushed HK0.out hgrow (fun b hb hb2 => by have h9 := hne9 b hb; have h8 := (HK0.out.lt b hb2).1; have g9 := HF9.out; have l9 := Hlt.out; have r9 := RS.out; have o9 := HLo6.out; have v9 := HLo.out; have s9 := HS7.out; have s8 := HS8.out; have hh9 := HFm.out; omega))
      have HL1 := Lib.hid (owns_pushed HK1.out hgrow (fun b hb hb2 => by have h9 := hne9 b hb; have h8 := (HK1.out.lt b hb2).1; have g9 := HF9.out; have l9 := Hlt.out; have r9 := RS.out; have o9 := HLo6.out; have v9 := HLo.out; have s9 := HS7.out; have s8 := HS8.out; have hh9 := HFm.out; omega))
      have HL2 := Lib.hid (owns_pushed HK2.out hgrow (fun b hb hb2 => by have h9 := hne9 b hb; have h8 := (HK2.out.lt b hb2).1; have g9 := HF9.out; have l9 := Hlt.out; have r9 := RS.out; have o9 := HLo6.out; have v9 := HLo.out; have s9 := HS7.out; have s8 := HS8.out; have hh9 := HFm.out; omega))
      have RT9 := Lib.hid (RT8a.out.pushed hgrow (fun e => by have h9 := hne9 _ e; omega))
      have RP9 := Lib.hid (RP8a.out.pushed hgrow (fun e => by have h9 := hne9 _ e; have g9 := HF9.out; have l9 := Hlt.out; have r9 := RS.out; have o9 := HLo6.out; have v9 := HLo.out; have s9 := HS7.out; have s8 := HS8.out; have hh9 := HFm.out; omega))
      have RB9 : Hid (Below w.heap.size w w9) := Lib.hid (RB8a.out.grown hgrow RB8a.out.size (fun b hb => by have h9 := hne9 b hb; have g9 := HF9.out; have l9 := Hlt.out; have r9 := RS.out; have o9 := HLo6.out; have v9 := HLo.out; have s9 := HS7.out; have s8 := HS8.out; have hh9 := HFm.out; omega))
      have hs8a : (W8.alloc (.cells #[.slice (some ⟨h1, 0, none⟩) n e1] 22)).heap.size = u6 + 2 := by have h9 := HS8.out; simp; omega
      have HS9 : Hid (u6 + 2 ≤ w9.heap.size) := Lib.hid (by have h9 := hgrow.size; rw [hs8a] at h9; exact h9)
      have RX9 : Hid (∀ b, (Value.slice za k zc).ownBlock = some b → (Value.slice (some ⟨gn, 0, none⟩) (k + 1) cn).ownBlock ≠ some b ∧ ∀ (j : Nat) (u : Value), (S ++ [.slice (some ⟨h1, 0, none⟩) n e1])[j]? = some u → u.ownBlock ≠ some b) := Lib.hid fun b hb => by
        have hbz := HOld.out.2.1 b hb
        refine ⟨fun e => ?_, fun j u hj e => ?_⟩
        · have e3 : gn = b := Option.some.inj e
          rcases hgn with h8 | h8
          · exact (RX.out b hb).1 (e3 ▸ h8)
          · (try rw [hs8a] at h8); have g9 := HF9.out; have l9 := Hlt.out; have r9 := RS.out; have o9 := HLo6.out; have v9 := HLo.out; have s9 := HS7.out; have s8 := HS8.out; have hh9 := HFm.out; omega
        · by_cases hjn : j < S.length
          · rw [List.getElem?_append_left hjn] at hj; exact (RX.out b hb).2 j u hj e
          · rw [List.getElem?_append_right (by omega)] at hj
            rcases hq : j - S.length with _ | q
            · rw [hq] at hj; cases hj; have e3 : h1 = b := Option.some.inj e; have g9 := HF9.out; have l9 := Hlt.out; have r9 := RS.out; have o9 := HLo6.out; have v9 := HLo.out; have s9 := HS7.out; have s8 := HS8.out; have hh9 := HFm.out; omega
            · rw [hq] at hj; simp at hj
      clear hrow hgrow hgn hgl hne9 hs8a RM8a RZ8a RT8a RP8a RB8a HK0 HK1 HK2 HK3 Hcell Hlo8 Hrr
      have RM9a := Lib.hid (RM9.out.below (below1 w9 (.cells #[.int .i64 sv] 2)) ⟨RM9.out.out.2.2, RM9.out.top⟩)
      have RZ9a := Lib.hid (RZ9.out.alloc (.cells #[.int .i64 sv] 2))
      have HJ0 := Lib.hid (HL0.out.alloc (.cells #[.int .i64 sv] 2))
      have HJ1 := Lib.hid (HL1.out.alloc (.cells #[.int .i64 sv] 2))
      have HJ2 := Lib.hid (HL2.out.alloc (.cells #[.int .i64 sv] 2))
      have RT9a := Lib.hid (RT9.out.alloc (.cells #[.int .i64 sv] 2))
      have RP9a := Lib.hid (RP9.out.alloc (.cells #[.int .i64 sv] 2))
      have RB9a : Hid (Below w.heap.size w (w9.alloc (.cells #[.int .i64 sv] 2))) := Lib.hid (RB9.out.alloc RB9.out.size _)
      have Hcell := Lib.hid (show (w9.alloc (.cells #[.int .i64 sv] 2)).cell? ⟨w9.heap.size, 0, none⟩ = some (.int .i64 sv) by simp [go_sem])
      have Hlo9 := Lib.hid (show t + 1 ≤ (w9.alloc (.cells #[.int .i64 sv] 2)).heap.size by have h9 := HS9.out; have g9 := HF9.out; have l9 := Hlt.out; have r9 := RS.out; have o9 := HLo6.out; have v9 := HLo.out; have s9 := HS7.out; have s8 := HS8.out; have hh9 := HFm.out; simp; omega)
      have HTop : Hid ((∀ b, (Value.slice (some ⟨gn, 0, none⟩) (k + 1) cn).ownBlock = some b → b < w9.heap.size) ∧ ∀ (j : Nat) (u : Value) (b : Nat), (S ++ [.slice (some ⟨h1, 0, none⟩) n e1])[j]? = some u → u.ownBlock = some b → b < w9.heap.size) := Lib.hid ⟨fun b hb => RM9.out.out.2.1 b hb, fun j u b hj hb => by
        have hjn : j < k + 1 := by have h9 := (List.getElem?_eq_some_iff.1 hj).1; have h8 := RM9.out.slen; omega
        obtain ⟨aj, cj, g8, g7⟩ := RM9.out.row j hjn
        rw [g8] at hj; cases hj
        exact g7.2.1 b hb⟩
      clear RM9 RZ9 HL0 HL1 HL2 RT9 RP9 RB9
      go_wp2_with (at_builtin; refine pushZ rfl rfl _ _ rfl rfl RZ9a.out w9.heap.size _ sv rfl Hcell.out hkl Hlo9.out ?_)
      intro gm cm w10 hrow hgrow hgn hgl
      have hne9 : ∀ b, (Value.slice za k zc).ownBlock = some b → t + 1 ≤ b ∧ b < z6 := fun b hb => ⟨(RZ9a.out.lt b hb).1, HOld.out.2.1 b hb⟩
      have RM10 := Lib.hid ((RM9a.out.grown hgrow (fun b hb => RX9.out b hb)).mono (Nat.le_refl _) (show w9.heap.size ≤ w10.heap.size from Nat.le_trans (by simp) hgrow.size) (Nat.le_refl _) (Nat.le_refl _) (show w9.heap.size ≤ w10.heap.size from Nat.le_trans (by simp) hgrow.size) (Nat.le_refl _))
      have RZ10 := Lib.hid hrow
      have HV0 := Lib.hid (owns_lo (owns_pushed HJ0.out hgrow (fun b hb hb2 => by have h9 := hne9 b hb; have h8 := (HJ0.out.lt b hb2).1; have g9 := HF9.out; have l9 := Hlt.out; have r9 := RS.out; have o9 := HLo6.out; have v9 := HLo.out; have s9 := HS7.out; have s8 := HS8.out; have hh9 := HFm.out; omega)) (show lo ≤ lo6 by have g9 := HF9.out; have l9 := Hlt.out; have r9 := RS.out; have o9 := HLo6.out; have v9 := HLo.out; have s9 := HS7.out; have s8 := HS8.out; have hh9 := HFm.out; omega))
      have HV1 := Lib.hid (owns_lo (owns_pushed HJ1.out hgrow (fun b hb hb2 => by have h9 := hne9 b hb; have h8 := (HJ1.out.lt b hb2).1; have g9 := HF9.out; have l9 := Hlt.out; have r9 := RS.out; have o9 := HLo6.out; have v9 := HLo.out; have s9 := HS7.out; have s8 := HS8.out; have hh9 := HFm.out; omega)) (show lo ≤ lo6 by have g9 := HF9.out; have l9 := Hlt.out; have r9 := RS.out; have o9 := HLo6.out; have v9 := HLo.out; have s9 := HS7.out; have s8 := HS8.out; have hh9 := HFm.out; omega))
      have HV2 := Lib.hid (owns_lo (owns_pushed HJ2.out hgrow (fun b hb hb2 => by have h9 := hne9 b hb; have h8 := (HJ2.out.lt b hb2).1; have g9 := HF9.out; have l9 := Hlt.out; have r9 := RS.out; have o9 := HLo6.out; have v9 := HLo.out; have s9 := HS7.out; have s8 := HS8.out; have hh9 := HFm.out; omega)) (show lo ≤ lo6 by have g9 := HF9.out; have l9 := Hlt.out; have r9 := RS.out; have o9 := HLo6.out; have v9 := HLo.out; have s9 := HS7.out; have s8 := HS8.out; have hh9 := HFm.out; omega))
      have RT10 := Lib.hid (RT9a.out.pushed hgrow (fun e => by have h9 := hne9 _ e; omega))
      have RP10 := Lib.hid (RP9a.out.pushed hgrow (fun e => by have h9 := hne9 _ e; have g9 := HF9.out; have l9 := Hlt.out; have r9 := RS.out; have o9 := HLo6.out; have v9 := HLo.out; have s9 := HS7.out; have s8 := HS8.out; have hh9 := HFm.out; omega))
      have RB10 : Hid (Below w.heap.size w w10) := Lib.hid (RB9a.out.grown hgrow RB9a.out.size (fun b hb => by have h9 := hne9 b hb; have g9 := HF9.out; have l9 := Hlt.out; have r9 := RS.out; have o9 := HLo6.out; have v9 := HLo.out; have s9 := HS7.out; have s8 := HS8.out; have hh9 := HFm.out; omega))
      have hs9a : (w9.alloc (.cells #[.int .i64 sv] 2)).heap.size = w9.heap.size + 1 := by simp
      have RX10 : Hid (∀ b, (Value.slice (some ⟨gm, 0, none⟩) (k + 1) cm).ownBlock = some b → (Value.slice (some ⟨gn, 0, none⟩) (k + 1) cn).ownBlock ≠ some b ∧ ∀ (j : Nat) (u : Value), (S ++ [.slice (some ⟨h1, 0, none⟩) n e1])[j]? = some u → u.ownBlock ≠ some b) := Lib.hid fun b hb => by
        have e3 : gm = b := Option.some.inj hb
        rcases hgn with h8 | h8
        · exact RX9.out b (e3 ▸ h8)
        · (try rw [hs9a] at h8)
          exact ⟨fun e => by have h9 := HTop.out.1 b e; omega, fun j u hj e => by have h9 := HTop.out.2 j u b hj e; omega⟩
      have HS10 : Hid (t < w10.heap.size) := Lib.hid (by have h9 := hgrow.size; rw [hs9a] at h9; have h8 := HS9.out; have g9 := HF9.out; have l9 := Hlt.out; have r9 := RS.out; have o9 := HLo6.out; have v9 := HLo.out; have s9 := HS7.out; have s8 := HS8.out; have hh9 := HFm.out; omega)
      clear hrow hgrow hgn hgl hne9 hs9a RM9a RZ9a RT9a RP9a RB9a HJ0 HJ1 HJ2 Hcell Hlo9 HTop RX9 RX
      go_wp2_with fail
      go_roundw
      case rel => exact ⟨k + 1, (S ++ [.slice (some ⟨h1, 0, none⟩) n e1]), _, _, cn, cm, f0, f1, f2, y0, y1, y2, by omega, by go_num, rfl, rfl, by rw [Hsucc.out]; exact RM10, by rw [Hsucc.out]; unfold ic at *; exact RZ10, RX10, HV0, by rw [Hsucc.out]; exact HV1, HV2, HFn, RT10, RP10, RB10, HS10⟩
      case measure => simp [intOf]; omega
  · obtain rfl : len = k := by omega
    have x0 := RT.out.c 0 rfl
    have x1 := RT.out.c 1 rfl
    have x2 := RT.out.c 2 rfl
    have q0 := RP.out.c 0 rfl
    have q1 := RP.out.c 1 rfl
    have q2 := RP.out.c 2 rfl
    have f0 := RP.out.f 0 (by simp)
    have f1 := RP.out.f 1 (by simp)
    have f2 := RP.out.f 2 (by simp)
    go_wp2_with fail
    have n9 := RN.out
    have l9 := Hlt.out
    have v9 := HLo.out
    have r9 := RS.out
    have g90 := (RQ0.out.lt g0 rfl).1
    have g91 := (RQ1.out.lt g1 rfl).1
    have g92 := (RQ2.out.lt g2 rfl).1
    have hkk : Kept w.heap.size (w.heap.size + 1) wr _ := ((((Kept.set wr ⟨w.heap.size, 0, none⟩ (.slice (some ⟨g0, 0, none⟩) n d0) ⟨Nat.le_refl _, Nat.lt_succ_self _⟩).trans (Kept.set _ ⟨w.heap.size, 1, none⟩ (.slice (some ⟨g1, 0, none⟩) n d1) ⟨Nat.le_refl _, Nat.lt_succ_self _⟩)).trans (Kept.set _ ⟨w.heap.size, 2, none⟩ (.slice (some ⟨g2, 0, none⟩) n d2) ⟨Nat.le_refl _, Nat.lt_succ_self _⟩)))
    refine bodyPost_ret (v := .tuple #[.agg #[.slice (some ⟨g0, 0, none⟩) n d0, .slice (some ⟨g1, 0, none⟩) n d1, .slice (some ⟨g2, 0, none⟩) n d2], .slice sa len sc, .slice za len zc]) (by first | (simp [results, Try.results64, go_sem, *]; done) | (simp (maxDischargeDepth := 12) [results, Try.results64, go_sem, *]; done) | (simp (maxDischargeDepth := 12) [results, Try.results64, go_sem, *]; rfl)) rfl ⟨lo, g0, g1, g2, d0, d1, d2, sa, sc, za, zc, rfl, ?_, ?_, ?_, n9.1, n9.2.1, n9.2.2, ?_, ?_, by omega, ?_⟩
    · exact ownsRow_sameG RQ0.out fun b hb => hkk.block b (.inr (by have h9 := (RQ0.out.lt b hb).1; omega)) (RQ0.out.lt b hb).2
    · exact ownsRow_sameG RQ1.out fun b hb => hkk.block b (.inr (by have h9 := (RQ1.out.lt b hb).1; omega)) (RQ1.out.lt b hb).2
    · exact ownsRow_sameG RQ2.out fun b hb => hkk.block b (.inr (by have h9 := (RQ2.out.lt b hb).1; omega)) (RQ2.out.lt b hb).2
    · exact ⟨S, (RM.out.kept hkk ⟨.inr (by omega), .inr (by omega)⟩).mono (by omega) hkk.size (Nat.le_refl _) (by omega) hkk.size (Nat.le_refl _)⟩
    · exact owns_lo (ownsRow_sameG RZ.out fun b hb => hkk.block b (.inr (by have h9 := (RZ.out.lt b hb).1; omega)) (RZ.out.lt b hb).2) (by omega)
    · exact RB.out.trans (hkk.below (Nat.le_refl _) RB.out.size)

end Go.Proofs.Ytckmacnmmloemaa
