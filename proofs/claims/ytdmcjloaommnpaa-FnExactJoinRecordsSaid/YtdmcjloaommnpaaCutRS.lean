/- Parts of records: the model. -/
import Derived.Test.YtdmcjloaommnpaaCutRI
import Derived.Test.YtdmcjloaommnpaaRegionI
import Derived.Deep.Cut
namespace Go.Proofs.Ytdmcjloaommnpaa
open Go.RowKit
set_option linter.unusedVariables false
set_option linter.unusedSimpArgs false
set_option maxRecDepth 100000
attribute [local irreducible] wpV wpList Code.wp

theorem Gd.start {n j : Nat} {p : Prop} : Gd (Array.replicate n false) j p := fun h => by rw [getD_replicate_false] at h; cases h
theorem Ng.start {l : Array Bool} {j : Nat} {p : Prop} (h : p) : Ng l j p := fun _ => h
theorem Gd.undone {l : Array Bool} {i j : Nat} {p : Prop} (h : l.getD j false = false) (hne : i ≠ j) : Gd (l.setIfInBounds i true) j p := fun h9 => by rw [set_ne hne, h] at h9; cases h9
theorem StepAll.cons {P : Program} {l : List Oper} {Inv : Array Bool → Act → World → Prop} {k : Nat} {o : Oper} {rest : List Oper} (j : Nat) (hj : k + 1 = j)
    (h : ∀ d a w, d.size = l.length → Closed l d → Inv d a w → d.getD k false = false → Deps d o.after.toList → wpList P l.toArray (QI fun a' w' => Inv (d.setIfInBounds k true) a' w') [o] a w) (hr : StepAll P l Inv j rest) : StepAll P l Inv k (o :: rest) := by
  subst hj; exact ⟨h, hr⟩

theorem Bw.put {w : World} {b : Nat} {vs : List Value} (h : Bw w b vs) (j : Nat) (hj : j < vs.length) (u : Value) : Bw (w.setCell ⟨b, j, none⟩ u) b (vs.set j u) := by
  have hold : w.cell? ⟨b, j, none⟩ = some vs[j] := h.c j (List.getElem?_eq_getElem hj)
  refine ⟨⟨by simp; exact h.1.1, fun i v hi => ?_⟩, fun i hi => ?_⟩
  · by_cases e : i = j
    · subst e
      rw [List.getElem?_set_self hj] at hi
      cases hi
      simp [go_sem, hold]
    · rw [List.getElem?_set_ne (fun h => e h.symm)] at hi
      have h9 := h.c i hi
      simp [go_sem, h9, e]
  · rw [List.length_set] at hi
    have h9 := h.f i hi
    simpa [go_sem] using h9
theorem Bw.grown9 {w w' : World} {row : Option Nat} {b : Nat} {vs : List Value} (h : Bw w b vs) (hg : w.grownBy w' row) (hne : some b ≠ row) : Bw w' b vs :=
  ⟨⟨Nat.lt_of_lt_of_le h.1.1 hg.size, fun j u hj => hg.cell (h.c j hj) hne⟩, fun j hj => by rw [World.frozen?_of_block (w := w) (a := ⟨b, j, none⟩) (hg.block b h.1.1 hne)]; exact h.f j hj⟩

structure ctInvS (w0 : World) (BX b o f' t' cap zl lo : Nat) (nm : ByteArray) (st sp s' : Int) (ys : List Nat) (t0_ t1_ t2_ t3_ t4_ t5_ t6_ t7_ t9_ t10_ t11_ t12_ t13_ t14_ t15_ t16_ t17_ t18_ t19_ t20_ t21_ t22_ t23_ t24_ t25_ t26_ t46_ t47_ t48_ t49_ : Value) (d : Array Bool) (a : Act) (w9 : World) where
  u8 : Value
  u27 : Value
  u28 : Value
  u29 : Value
  u30 : Value
  u31 : Value
  u32 : Value
  u33 : Value
  u34 : Value
  u35 : Value
  u36 : Value
  u37 : Value
  u38 : Value
  u39 : Value
  u40 : Value
  u41 : Value
  u42 : Value
  u43 : Value
  u44 : Value
  u45 : Value
  g11 : Nat
  g17 : Nat
  g19 : Nat
  k17 : Nat
  ea : a = ⟨#[t0_, t1_, t2_, t3_, t4_, t5_, t6_, t7_, u8, t9_, t10_, t11_, t12_, t13_, t14_, t15_, t16_, t17_, t18_, t19_, t20_, t21_, t22_, t23_, t24_, t25_, t26_, u27, u28, u29, u30, u31, u32, u33, u34, u35, u36, u37, u38, u39, u40, u41, u42, u43, u44, u45, t46_, t47_, t48_, t49_], []⟩
  f0 : Gd d 0 (u27 = .pointer (some ⟨BX, 0, none⟩))
  f1 : Gd d 1 (u28 = .string nm)
  f2 : Gd d 2 (u29 = .pointer (some ⟨BX, 1, none⟩))
  f3 : Gd d 3 (u30 = .int .i64 st)
  f4 : Gd d 4 (u31 = .int .i64 (f' : Int))
  f5 : Gd d 5 (u32 = .pointer (some ⟨BX, 2, none⟩))
  f6 : Gd d 6 (u33 = .int .i64 sp)
  f7 : Gd d 7 (u34 = .int .i64 ((f' : Int) * sp))
  f8 : Gd d 8 (u35 = .int .i64 s')
  f9 : Gd d 9 (u36 = .pointer (some ⟨BX, 2, none⟩))
  f10 : Gd d 10 (u37 = .int .i64 sp)
  f11 : Gd d 11 (u38 = .slice (some ⟨g11, 0, none⟩) 0 0)
  f12 : Gd d 12 (u39 = .pointer (some ⟨BX, 3, none⟩))
  f13 : Gd d 13 (u40 = .slice (some ⟨b, o, none⟩) zl cap)
  f14 : Gd d 14 (u41 = .int .i64 (f' : Int))
  f15 : Gd d 15 (u42 = .int .i64 (t' : Int))
  f16 : Gd d 16 (u43 = .slice (some ⟨b, o + f', none⟩) (t' - f') (cap - f'))
  f17 : Gd d 17 (u44 = .slice (some ⟨g17, 0, none⟩) ys.length k17)
  f18 : Gd d 18 (u45 = .agg #[.string nm, .int .i64 s', .int .i64 sp, .slice (some ⟨g17, 0, none⟩) ys.length k17])
  f19 : Gd d 19 (u8 = .pointer (some ⟨g19, 0, none⟩))
  rb : Gd d 11 (Ng d 17 (RowO w9 lo (.slice (some ⟨g11, 0, none⟩) 0 0) []))
  ra : Gd d 17 (RowO w9 lo (.slice (some ⟨g17, 0, none⟩) ys.length k17) ys)
  za : Gd d 19 (Ng d 20 (Bw w9 g19 ZR))
  zb : Gd d 20 (Bw w9 g19 [.string nm, .int .i64 s', .int .i64 sp, .slice (some ⟨g17, 0, none⟩) ys.length k17])
  s11 : Gd d 11 (g11 < w9.heap.size ∧ lo ≤ g11)
  s17 : Gd d 17 (g17 < w9.heap.size ∧ lo ≤ g17)
  s19 : Gd d 19 (g19 < w9.heap.size ∧ lo ≤ g19)
  nb : Gd d 11 (Gd d 19 (g11 ≠ g19))
  na : Gd d 17 (Gd d 19 (g17 ≠ g19))
  hz : lo ≤ w9.heap.size
  hbel : Below lo w0 w9
def ctInv (w0 : World) (BX b o f' t' cap zl lo : Nat) (nm : ByteArray) (st sp s' : Int) (ys : List Nat) (t0_ t1_ t2_ t3_ t4_ t5_ t6_ t7_ t9_ t10_ t11_ t12_ t13_ t14_ t15_ t16_ t17_ t18_ t19_ t20_ t21_ t22_ t23_ t24_ t25_ t26_ t46_ t47_ t48_ t49_ : Value) (d : Array Bool) (a : Act) (w9 : World) : Prop := Nonempty (ctInvS w0 BX b o f' t' cap zl lo nm st sp s' ys t0_ t1_ t2_ t3_ t4_ t5_ t6_ t7_ t9_ t10_ t11_ t12_ t13_ t14_ t15_ t16_ t17_ t18_ t19_ t20_ t21_ t22_ t23_ t24_ t25_ t26_ t46_ t47_ t48_ t49_ d a w9)

/-- A part of a row that came in. -/
def SrcY (w : World) (b o : Nat) (ys : List Nat) : Prop := b < w.heap.size ∧ True ∧ True ∧ ∀ i, i < ys.length → w.cell? ⟨b, o + i, none⟩ = some (.float .f32 (ys.getD i 0))
theorem SrcY.below {w w' : World} {B b o : Nat} {ys : List Nat} (h : SrcY w b o ys) (hb : Below B w w') (hB : w.heap.size ≤ B) : SrcY w' b o ys :=
  ⟨Nat.lt_of_lt_of_le h.1 hb.size, trivial, trivial, fun i hi => by rw [hb.cell (p := ⟨b, o + i, none⟩) (Nat.lt_of_lt_of_le h.1 hB)]; exact h.2.2.2 i hi⟩

set_option maxHeartbeats 16000000 in
theorem cutRecord_spec (nm : ByteArray) (st sp : Int) (a : Option Addr) (cap : Nat) (zs : List Nat) (f t : Int) (w : World) (h : RowF .f32 w a zs) (hl : zs.length ≤ 1048576) (hz : ∀ z ∈ zs, z < 4294967296) (hs : nm.size ≤ 1048576) (hc : zs.length ≤ cap) (hf0 : -9223372036854775808 ≤ f) (hf1 : f ≤ 9223372036854775807) (ht0 : -9223372036854775808 ≤ t) (ht1 : t ≤ 9223372036854775807) : Calls Try.prog 41 #[.agg #[.string nm, .int .i64 st, .int .i64 sp, .slice a zs.length cap], .int .i64 f, .int .i64 t] w (RetHB (resCutRecord nm st sp zs f t).nm (resCutRecord nm st sp zs f t).wide (resCutRecord nm st sp zs f t).high (resCutRecord nm st sp zs f t).zs (resCutRecord nm st sp zs f t).ok w) := by
  have HV : Hid (∀ (b : Nat) (W : World), BoxH W b nm st sp (.slice a zs.length cap) → Calls Try.prog 82 #[.pointer (some ⟨b, 0, none⟩)] W (SayS (recB nm st sp zs.length) W)) := Lib.hid fun b W hB => l07Record_o b nm st sp a zs.length cap W hB hs hl
  have H := Lib.hid h
  clear h hz
  have Rno := Lib.hid (@cut_no nm st sp zs f t)
  have Rout := Lib.hid (@cut_out nm st sp zs f t)
  have Rgo := Lib.hid (@cut_go nm st sp zs f t)
  have Rt := Lib.hid (@recB_true nm st sp zs.length)
  generalize resCutRecord nm st sp zs f t = R at *
  generalize hrb : recB nm st sp zs.length = rb at *
  have Hrb := Lib.hid hrb
  clear hrb
  obtain ⟨w2, hw2⟩ : ∃ W, ((w.alloc (.cells #[.string nm, .int .i64 st, .int .i64 sp, .slice a zs.length cap] 49)).alloc (.cells #[.string ⟨#[]⟩, .int .i64 0, .int .i64 0, .slice none 0 0] 49)) = W := ⟨_, rfl⟩
  have HX2 : Hid (BoxH w2 w.heap.size nm st sp (.slice a zs.length cap)) := Lib.hid (by rw [← hw2]; exact (BoxH.new w nm st sp (.slice a zs.length cap) 49).alloc _)
  have HP2 : Hid (Bw w2 (w.heap.size + 1) ZR) := Lib.hid (by rw [← hw2]; have h9 := Bw.new (w.alloc (.cells #[.string nm, .int .i64 st, .int .i64 sp, .slice a zs.length cap] 49)) ZR 49; rw [show (w.alloc (.cells #[.string nm, .int .i64 st, .int .i64 sp, .slice a zs.length cap] 49)).heap.size = w.heap.size + 1 by simp] at h9; exact h9)
  have HB : Hid (Below w.heap.size w w2) := Lib.hid (by rw [← hw2]; exact below2 _ _ _)
  have HS2 : Hid (w2.heap.size = w.heap.size + 2) := Lib.hid (by rw [← hw2]; simp)
  have c := HX2.out
  obtain ⟨c0, c1, c2, c3, _⟩ := c
  go_enter Try.func41, Try.ntmps41
  go_wp2_with fail
  have hw2' : ((w.alloc (.cells #[.string nm, .int .i64 st, .int .i64 sp, .slice a zs.length cap] 49)).alloc (.cells #[.string ⟨#[]⟩, .int .i64 0, .int .i64 0, .slice none 0 0] 49)) = w2 := hw2
  (try rw [hw2])
  refine (HV.out w.heap.size w2 HX2.out).mono ?_
  rintro e w' ⟨bb, hbb, rfl, rfl⟩
  subst hbb
  clear hw2 hw2'
  cases rb
  · have HF := Lib.hid (Rno.out (by first | rfl | trivial))
    have q0 := HP2.out.c 0 rfl
    have q1 := HP2.out.c 1 rfl
    have q2 := HP2.out.c 2 rfl
    have q3 := HP2.out.c 3 rfl
    have f0 := HP2.out.f 0 (by decide)
    have f1 := HP2.out.f 1 (by decide)
    have f2 := HP2.out.f 2 (by decide)
    have f3 := HP2.out.f 3 (by decide)
    go_wp2_with fail
    obtain ⟨W9, hW9⟩ : ∃ W, ((((w2.setCell ⟨w.heap.size + 1, 0, none⟩ (.string ⟨#[]⟩)).setCell ⟨w.heap.size + 1, 1, none⟩ (.int .i64 0)).setCell ⟨w.heap.size + 1, 2, none⟩ (.int .i64 0)).setCell ⟨w.heap.size + 1, 3, none⟩ (.slice none 0 0)) = W := ⟨_, rfl⟩
    have hb9 := Bx.four (HP2.out).1 (.string ⟨#[]⟩) (.int .i64 0) (.int .i64 0) (.slice none 0 0)
    have hl9 : Below w.heap.size w ((((w2.setCell ⟨w.heap.size + 1, 0, none⟩ (.string ⟨#[]⟩)).setCell ⟨w.heap.size + 1, 1, none⟩ (.int .i64 0)).setCell ⟨w.heap.size + 1, 2, none⟩ (.int .i64 0)).setCell ⟨w.heap.size + 1, 3, none⟩ (.slice none 0 0)) := ((((HB.out).setCell (by first | (simp; done) | (simp; omega) | omega) _).setCell (by first | (simp; done) | (simp; omega) | omega) _).setCell (by first | (simp; done) | (simp; omega) | omega) _).setCell (by first | (simp; done) | (simp; omega) | omega) _
    rw [hW9] at hb9 hl9
    have p0 := hb9.c 0 rfl
    have p1 := hb9.c 1 rfl
    have p2 := hb9.c 2 rfl
    have p3 := hb9.c 3 rfl
    have HL9 := Lib.hid hl9
    clear hb9 hl9
    try rw [hW9]
    clear hW9 q0 q1 q2 q3 f0 f1 f2 f3
    refine bodyPost_ret (v := .tuple #[.agg ZR.toArray, .bool false]) (by first | (simp [results, Try.results41, go_sem, p0, p1, p2, p3]; done) | (simp [results, Try.results41, go_sem, p0, p1, p2, p3]; rfl)) rfl ?_
    rw [HF.out]
    exact ⟨none, 0, rfl, HL9.out, FRow.nil _ _⟩
  go_wp2_with fail
  refine (l00In_any _ _ _ _).mono ?_
  rintro e w' ⟨b1, hb1, rfl, rfl⟩
  have Hb1 := Lib.hid hb1
  clear hb1
  cases b1
  · have HF := Lib.hid (Rout.out (by have h9 := Hb1.out; intro hc; simp at h9; omega))
    have q0 := HP2.out.c 0 rfl
    have q1 := HP2.out.c 1 rfl
    have q2 := HP2.out.c 2 rfl
    have q3 := HP2.out.c 3 rfl
    have f0 := HP2.out.f 0 (by decide)
    have f1 := HP2.out.f 1 (by decide)
    have f2 := HP2.out.f 2 (by decide)
    have f3 := HP2.out.f 3 (by decide)
    go_wp2_with fail
    obtain ⟨W9, hW9⟩ : ∃ W, ((((w2.setCell ⟨w.heap.size + 1, 0, none⟩ (.string ⟨#[]⟩)).setCell ⟨w.heap.size + 1, 1, none⟩ (.int .i64 0)).setCell ⟨w.heap.size + 1, 2, none⟩ (.int .i64 0)).setCell ⟨w.heap.size + 1, 3, none⟩ (.slice none 0 0)) = W := ⟨_, rfl⟩
    have hb9 := Bx.four (HP2.out).1 (.string ⟨#[]⟩) (.int .i64 0) (.int .i64 0) (.slice none 0 0)
    have hl9 : Below w.heap.size w ((((w2.setCell ⟨w.heap.size + 1, 0, none⟩ (.string ⟨#[]⟩)).setCell ⟨w.heap.size + 1, 1, none⟩ (.int .i64 0)).setCell ⟨w.heap.size + 1, 2, none⟩ (.int .i64 0)).setCell ⟨w.heap.size + 1, 3, none⟩ (.slice none 0 0)) := ((((HB.out).setCell (by first | (simp; done) | (simp; omega) | omega) _).setCell (by first | (simp; done) | (simp; omega) | omega) _).setCell (by first | (simp; done) | (simp; omega) | omega) _).setCell (by first | (simp; done) | (simp; omega) | omega) _
    rw [hW9] at hb9 hl9
    have p0 := hb9.c 0 rfl
    have p1 := hb9.c 1 rfl
    have p2 := hb9.c 2 rfl
    have p3 := hb9.c 3 rfl
    have HL9 := Lib.hid hl9
    clear hb9 hl9
    try rw [hW9]
    clear hW9 q0 q1 q2 q3 f0 f1 f2 f3
    refine bodyPost_ret (v := .tuple #[.agg ZR.toArray, .bool false]) (by first | (simp [results, Try.results41, go_sem, p0, p1, p2, p3]; done) | (simp [results, Try.results41, go_sem, p0, p1, p2, p3]; rfl)) rfl ?_
    rw [HF.out]
    exact ⟨none, 0, rfl, HL9.out, FRow.nil _ _⟩
  have h9 := Hb1.out
  simp only [Bool.and_eq_true, decide_eq_true_eq] at h9
  obtain ⟨ht2, ht3⟩ := h9
  have hwt : IntKind.i64.wrap (t - 1) = t - 1 := IntWalk.i64_in _ (by omega)
  go_wp2_with fail
  refine (l00In_any _ _ _ _).mono ?_
  rintro e w' ⟨b2, hb2, rfl, rfl⟩
  have Hb2 := Lib.hid hb2
  clear hb2
  cases b2
  · have HF := Lib.hid (Rout.out (by have h9 := Hb2.out; intro hc; simp at h9; omega))
    have q0 := HP2.out.c 0 rfl
    have q1 := HP2.out.c 1 rfl
    have q2 := HP2.out.c 2 rfl
    have q3 := HP2.out.c 3 rfl
    have f0 := HP2.out.f 0 (by decide)
    have f1 := HP2.out.f 1 (by decide)
    have f2 := HP2.out.f 2 (by decide)
    have f3 := HP2.out.f 3 (by decide)
    go_wp2_with fail
    obtain ⟨W9, hW9⟩ : ∃ W, ((((w2.setCell ⟨w.heap.size + 1, 0, none⟩ (.string ⟨#[]⟩)).setCell ⟨w.heap.size + 1, 1, none⟩ (.int .i64 0)).setCell ⟨w.heap.size + 1, 2, none⟩ (.int .i64 0)).setCell ⟨w.heap.size + 1, 3, none⟩ (.slice none 0 0)) = W := ⟨_, rfl⟩
    have hb9 := Bx.four (HP2.out).1 (.string ⟨#[]⟩) (.int .i64 0) (.int .i64 0) (.slice none 0 0)
    have hl9 : Below w.heap.size w ((((w2.setCell ⟨w.heap.size + 1, 0, none⟩ (.string ⟨#[]⟩)).setCell ⟨w.heap.size + 1, 1, none⟩ (.int .i64 0)).setCell ⟨w.heap.size + 1, 2, none⟩ (.int .i64 0)).setCell ⟨w.heap.size + 1, 3, none⟩ (.slice none 0 0)) := ((((HB.out).setCell (by first | (simp; done) | (simp; omega) | omega) _).setCell (by first | (simp; done) | (simp; omega) | omega) _).setCell (by first | (simp; done) | (simp; omega) | omega) _).setCell (by first | (simp; done) | (simp; omega) | omega) _
    rw [hW9] at hb9 hl9
    have p0 := hb9.c 0 rfl
    have p1 := hb9.c 1 rfl
    have p2 := hb9.c 2 rfl
    have p3 := hb9.c 3 rfl
    have HL9 := Lib.hid hl9
    clear hb9 hl9
    try rw [hW9]
    clear hW9 q0 q1 q2 q3 f0 f1 f2 f3
    refine bodyPost_ret (v := .tuple #[.agg ZR.toArray, .bool false]) (by first | (simp [results, Try.results41, go_sem, p0, p1, p2, p3]; done) | (simp [results, Try.results41, go_sem, p0, p1, p2, p3]; rfl)) rfl ?_
    rw [HF.out]
    exact ⟨none, 0, rfl, HL9.out, FRow.nil _ _⟩
  have h9 := Hb2.out
  simp only [Bool.and_eq_true, decide_eq_true_eq] at h9
  obtain ⟨h1, h22⟩ := h9
  have h2 : f < t := by omega
  have hgo := Rgo.out (by first | rfl | trivial) h1 h2 ht3
  obtain ⟨_, s1, s2, s3, s4, hl1, hl2⟩ := Rt.out (by first | rfl | trivial)
  clear Rno Rout Rgo Rt hwt
  obtain ⟨f', hfe⟩ : ∃ k : Nat, f = (k : Int) := ⟨f.toNat, by omega⟩
  obtain ⟨t', hte⟩ : ∃ k : Nat, t = (k : Int) := ⟨t.toNat, by omega⟩
  subst hfe hte
  rw [Int.toNat_natCast, Int.toNat_natCast] at hgo
  obtain ⟨b, o, ha⟩ : ∃ b o, a = some ⟨b, o, none⟩ := by rcases H.out with h9 | ⟨b', o', e1, _, _⟩; exact absurd h9 (by intro h8; rw [h8] at hl1; simp at hl1); exact ⟨b', o', e1⟩
  subst ha
  have hy : ((zs.take t').drop f').length = t' - f' := by rw [List.length_drop, List.length_take]; omega
  have hsy : SrcY w2 b (o + f') ((zs.take t').drop f') := by
    have h9 := RowF.drop8 (n := f') (RowF.take8 (n := t') (H.out.below HB.out (Nat.le_refl _)) (by omega)) (by rw [List.length_take]; omega)
    rcases h9 with h8 | ⟨b', o', e1, e2, e3⟩
    · rw [h8] at hy; simp at hy; omega
    · cases e1; exact ⟨e2, trivial, trivial, e3⟩
  have hm0 : 0 ≤ (f' : Int) * sp := Int.mul_nonneg (by omega) (by omega)
  have hm1 : (f' : Int) * sp ≤ 128 * 65535 := Int.mul_le_mul (by omega) s4 (by omega) (by omega)
  have hw1 : IntKind.i64.wrap ((f' : Int) * sp) = (f' : Int) * sp := IntWalk.i64_in _ (by omega)
  have hw2 : IntKind.i64.wrap (st + (f' : Int) * sp) = st + (f' : Int) * sp := IntWalk.i64_in _ (by omega)
  generalize (zs.take t').drop f' = ys at *
  obtain ⟨s', hse⟩ : ∃ s, st + (f' : Int) * sp = s := ⟨_, rfl⟩
  rw [hse] at hgo
  have hw3 : IntKind.i64.wrap (st + (f' : Int) * sp) = s' := by rw [hw2, hse]
  clear hw2
  have n4 : (f' : Int) ≤ (t' : Int) := by omega
  have n5 : (t' : Int) ≤ (cap : Int) := by omega
  have n6 : ¬ cap = f' := by omega
  have n7 : (0 : Int) ≤ (f' : Int) := by omega
  have HY := Lib.hid hy
  have HSy := Lib.hid hsy
  have HGo := Lib.hid hgo
  clear hy hgo hse hsy
  go_upto_region 3 with fail
  generalize hzl : zs.length = zl at *
  have Hzl := Lib.hid hzl
  clear hzl
  have HX := HX2
  have HBX : Hid (w.heap.size < w2.heap.size) := Lib.hid (by rw [HS2.out]; omega)
  have HSrc : Hid (SrcY w2.drew b (o + f') ys) := Lib.hid HSy.out
  refine wp_region_inv (id := 3) (ctInv w2 w.heap.size b o f' t' cap zl w2.heap.size nm st sp s' ys _ _ _ _ _ _ _ _ _ _ _ _ _ _ _ _ _ _ _ _ _ _ _ _ _ _ _ _ _ _) (by kernel_rfl) (by kernel_rfl) ⟨⟨_, _, _, _, _, _, _, _, _, _, _, _, _, _, _, _, _, _, _, _, 0, 0, 0, 0, rfl, .start, .start, .start, .start, .start, .start, .start, .start, .start, .start, .start, .start, .start, .start, .start, .start, .start, .start, .start, .start, .start, .start, .start, .start, .start, .start, .start, .start, .start, (Nat.le_refl _), ((Below.refl _ _).drew)⟩⟩ ?hend ?hsteps
  rotate_left
  case hsteps =>
    have HSrc := HSy
    refine .cons 1 rfl ?_ ?_
    · intro d a w9 hsz hcl hinv hd hdep
      obtain ⟨⟨u8, u27, u28, u29, u30, u31, u32, u33, u34, u35, u36, u37, u38, u39, u40, u41, u42, u43, u44, u45, g11, g17, g19, k17, rfl, f0, f1, f2, f3, f4, f5, f6, f7, f8, f9, f10, f11, f12, f13, f14, f15, f16, f17, f18, f19, rb, ra, za, zb, s11, s17, s19, nb, na, hz, hbel⟩⟩ := hinv
      go_wp2_with fail
      exact ⟨⟨u8, (.pointer (some ⟨w.heap.size, 0, none⟩)), u28, u29, u30, u31, u32, u33, u34, u35, u36, u37, u38, u39, u40, u41, u42, u43, u44, u45, g11, g17, g19, k17, rfl, (Gd.new (by first | rfl | simp)), (f1.keep (i := 0) (by decide)), (f2.keep (i := 0) (by decide)), (f3.keep (i := 0) (by decide)), (f4.keep (i := 0) (by decide)), (f5.keep (i := 0) (by decide)), (f6.keep (i := 0) (by decide)), (f7.keep (i := 0) (by decide)), (f8.keep (i := 0) (by decide)), (f9.keep (i := 0) (by decide)), (f10.keep (i := 0) (by decide)), (f11.keep (i := 0) (by decide)), (f12.keep (i := 0) (by decide)), (f13.keep (i := 0) (by decide)), (f14.keep (i := 0) (by decide)), (f15.keep (i := 0) (by decide)), (f16.keep (i := 0) (by decide)), (f17.keep (i := 0) (by decide)), (f18.keep (i := 0) (by decide)), (f19.keep (i := 0) (by decide)), (Gd.keep (i := 0) (rb.imp fun h => Ng.keep (i := 0) h (by decide)) (by decide)), (ra.keep (i := 0) (by decide)), (Gd.keep (i := 0) (za.imp fun h => Ng.keep (i := 0) h (by decide)) (by decide)), (zb.keep (i := 0) (by decide)), (s11.keep (i := 0) (by decide)), (s17.keep (i := 0) (by decide)), (s19.keep (i := 0) (by decide)), (Gd.keep (i := 0) (nb.imp fun h => Gd.keep (i := 0) h (by decide)) (by decide)), (Gd.keep (i := 0) (na.imp fun h => Gd.keep (i := 0) h (by decide)) (by decide)), hz, hbel⟩⟩
    refine .cons 2 rfl ?_ ?_
    · intro d a w9 hsz hcl hinv hd hdep
      obtain ⟨⟨u8, u27, u28, u29, u30, u31, u32, u33, u34, u35, u36, u37, u38, u39, u40, u41, u42, u43, u44, u45, g11, g17, g19, k17, rfl, f0, f1, f2, f3, f4, f5, f6, f7, f8, f9, f10, f11, f12, f13, f14, f15, f16, f17, f18, f19, rb, ra, za, zb, s11, s17, s19, nb, na, hz, hbel⟩⟩ := hinv
      have e0 := f0 (hdep.get 0 rfl)
      subst e0
      have ck := (HX.out.below hbel HBX.out)
      obtain ⟨k0, k1, k2, k3, _⟩ := ck
      go_wp2_with fail
      exact ⟨⟨u8, (.pointer (some ⟨w.heap.size, 0, none⟩)), (.string nm), u29, u30, u31, u32, u33, u34, u35, u36, u37, u38, u39, u40, u41, u42, u43, u44, u45, g11, g17, g19, k17, rfl, (Gd.new rfl), (Gd.new (by first | rfl | simp)), (f2.keep (i := 1) (by decide)), (f3.keep (i := 1) (by decide)), (f4.keep (i := 1) (by decide)), (f5.keep (i := 1) (by decide)), (f6.keep (i := 1) (by decide)), (f7.keep (i := 1) (by decide)), (f8.keep (i := 1) (by decide)), (f9.keep (i := 1) (by decide)), (f10.keep (i := 1) (by decide)), (f11.keep (i := 1) (by decide)), (f12.keep (i := 1) (by decide)), (f13.keep (i := 1) (by decide)), (f14.keep (i := 1) (by decide)), (f15.keep (i := 1) (by decide)), (f16.keep (i := 1) (by decide)), (f17.keep (i := 1) (by decide)), (f18.keep (i := 1) (by decide)), (f19.keep (i := 1) (by decide)), (Gd.keep (i := 1) (rb.imp fun h => Ng.keep (i := 1) h (by decide)) (by decide)), (ra.keep (i := 1) (by decide)), (Gd.keep (i := 1) (za.imp fun h => Ng.keep (i := 1) h (by decide)) (by decide)), (zb.keep (i := 1) (by decide)), (s11.keep (i := 1) (by decide)), (s17.keep (i := 1) (by decide)), (s19.keep (i := 1) (by decide)), (Gd.keep (i := 1) (nb.imp fun h => Gd.keep (i := 1) h (by decide)) (by decide)), (Gd.keep (i := 1) (na.imp fun h => Gd.keep (i := 1) h (by decide)) (by decide)), hz, hbel⟩⟩
    refine .cons 3 rfl ?_ ?_
    · intro d a w9 hsz hcl hinv hd hdep
      obtain ⟨⟨u8, u27, u28, u29, u30, u31, u32, u33, u34, u35, u36, u37, u38, u39, u40, u41, u42, u43, u44, u45, g11, g17, g19, k17, rfl, f0, f1, f2, f3, f4, f5, f6, f7, f8, f9, f10, f11, f12, f13, f14, f15, f16, f17, f18, f19, rb, ra, za, zb, s11, s17, s19, nb, na, hz, hbel⟩⟩ := hinv
      go_wp2_with fail
      exact ⟨⟨u8, u27, u28, (.pointer (some ⟨w.heap.size, 1, none⟩)), u30, u31, u32, u33, u34, u35, u36, u37, u38, u39, u40, u41, u42, u43, u44, u45, g11, g17, g19, k17, rfl, (f0.keep (i := 2) (by decide)), (f1.keep (i := 2) (by decide)), (Gd.new (by first | rfl | simp)), (f3.keep (i := 2) (by decide)), (f4.keep (i := 2) (by decide)), (f5.keep (i := 2) (by decide)), (f6.keep (i := 2) (by decide)), (f7.keep (i := 2) (by decide)), (f8.keep (i := 2) (by decide)), (f9.keep (i := 2) (by decide)), (f10.keep (i := 2) (by decide)), (f11.keep (i := 2) (by decide)), (f12.keep (i := 2) (by decide)), (f13.keep (i := 2) (by decide)), (f14.keep (i := 2) (by decide)), (f15.keep (i := 2) (by decide)), (f16.keep (i := 2) (by decide)), (f17.keep (i := 2) (by decide)), (f18.keep (i := 2) (by decide)), (f19.keep (i := 2) (by decide)), (Gd.keep (i := 2) (rb.imp fun h => Ng.keep (i := 2) h (by decide)) (by decide)), (ra.keep (i := 2) (by decide)), (Gd.keep (i := 2) (za.imp fun h => Ng.keep (i := 2) h (by decide)) (by decide)), (zb.keep (i := 2) (by decide)), (s11.keep (i := 2) (by decide)), (s17.keep (i := 2) (by decide)), (s19.keep (i := 2) (by decide)), (Gd.keep (i := 2) (nb.imp fun h => Gd.keep (i := 2) h (by decide)) (by decide)), (Gd.keep (i := 2) (na.imp fun h => Gd.keep (i := 2) h (by decide)) (by decide)), hz, hbel⟩⟩
    refine .cons 4 rfl ?_ ?_
    · intro d a w9 hsz hcl hinv hd hdep
      obtain ⟨⟨u8, u27, u28, u29, u30, u31, u32, u33, u34, u35, u36, u37, u38, u39, u40, u41, u42, u43, u44, u45, g11, g17, g19, k17, rfl, f0, f1, f2, f3, f4, f5, f6, f7, f8, f9, f10, f11, f12, f13, f14, f15, f16, f17, f18, f19, rb, ra, za, zb, s11, s17, s19, nb, na, hz, hbel⟩⟩ := hinv
      have e2 := f2 (hdep.get 2 rfl)
      subst e2
      have ck := (HX.out.below hbel HBX.out)
      obtain ⟨k0, k1, k2, k3, _⟩ := ck
      go_wp2_with fail
      exact ⟨⟨u8, u27, u28, (.pointer (some ⟨w.heap.size, 1, none⟩)), (.int .i64 st), u31, u32, u33, u34, u35, u36, u37, u38, u39, u40, u41, u42, u43, u44, u45, g11, g17, g19, k17, rfl, (f0.keep (i := 3) (by decide)), (f1.keep (i := 3) (by decide)), (Gd.new rfl), (Gd.new (by first | rfl | simp)), (f4.keep (i := 3) (by decide)), (f5.keep (i := 3) (by decide)), (f6.keep (i := 3) (by decide)), (f7.keep (i := 3) (by decide)), (f8.keep (i := 3) (by decide)), (f9.keep (i := 3) (by decide)), (f10.keep (i := 3) (by decide)), (f11.keep (i := 3) (by decide)), (f12.keep (i := 3) (by decide)), (f13.keep (i := 3) (by decide)), (f14.keep (i := 3) (by decide)), (f15.keep (i := 3) (by decide)), (f16.keep (i := 3) (by decide)), (f17.keep (i := 3) (by decide)), (f18.keep (i := 3) (by decide)), (f19.keep (i := 3) (by decide)), (Gd.keep (i := 3) (rb.imp fun h => Ng.keep (i := 3) h (by decide)) (by decide)), (ra.keep (i := 3) (by decide)), (Gd.keep (i := 3) (za.imp fun h => Ng.keep (i := 3) h (by decide)) (by decide)), (zb.keep (i := 3) (by decide)), (s11.keep (i := 3) (by decide)), (s17.keep (i := 3) (by decide)), (s19.keep (i := 3) (by decide)), (Gd.keep (i := 3) (nb.imp fun h => Gd.keep (i := 3) h (by decide)) (by decide)), (Gd.keep (i := 3) (na.imp fun h => Gd.keep (i := 3) h (by decide)) (by decide)), hz, hbel⟩⟩
    refine .cons 5 rfl ?_ ?_
    · intro d a w9 hsz hcl hinv hd hdep
      obtain ⟨⟨u8, u27, u28, u29, u30, u31, u32, u33, u34, u35, u36, u37, u38, u39, u40, u41, u42, u43, u44, u45, g11, g17, g19, k17, rfl, f0, f1, f2, f3, f4, f5, f6, f7, f8, f9, f10, f11, f12, f13, f14, f15, f16, f17, f18, f19, rb, ra, za, zb, s11, s17, s19, nb, na, hz, hbel⟩⟩ := hinv
      go_wp2_with fail
      exact ⟨⟨u8, u27, u28, u29, u30, (.int .i64 (f' : Int)), u32, u33, u34, u35, u36, u37, u38, u39, u40, u41, u42, u43, u44, u45, g11, g17, g19, k17, rfl, (f0.keep (i := 4) (by decide)), (f1.keep (i := 4) (by decide)), (f2.keep (i := 4) (by decide)), (f3.keep (i := 4) (by decide)), (Gd.new (by first | rfl | simp)), (f5.keep (i := 4) (by decide)), (f6.keep (i := 4) (by decide)), (f7.keep (i := 4) (by decide)), (f8.keep (i := 4) (by decide)), (f9.keep (i := 4) (by decide)), (f10.keep (i := 4) (by decide)), (f11.keep (i := 4) (by decide)), (f12.keep (i := 4) (by decide)), (f13.keep (i := 4) (by decide)), (f14.keep (i := 4) (by decide)), (f15.keep (i := 4) (by decide)), (f16.keep (i := 4) (by decide)), (f17.keep (i := 4) (by decide)), (f18.keep (i := 4) (by decide)), (f19.keep (i := 4) (by decide)), (Gd.keep (i := 4) (rb.imp fun h => Ng.keep (i := 4) h (by decide)) (by decide)), (ra.keep (i := 4) (by decide)), (Gd.keep (i := 4) (za.imp fun h => Ng.keep (i := 4) h (by decide)) (by decide)), (zb.keep (i := 4) (by decide)), (s11.keep (i := 4) (by decide)), (s17.keep (i := 4) (by decide)), (s19.keep (i := 4) (by decide)), (Gd.keep (i := 4) (nb.imp fun h => Gd.keep (i := 4) h (by decide)) (by decide)), (Gd.keep (i := 4) (na.imp fun h => Gd.keep (i := 4) h (by decide)) (by decide)), hz, hbel⟩⟩
    refine .cons 6 rfl ?_ ?_
    · intro d a w9 hsz hcl hinv hd hdep
      obtain ⟨⟨u8, u27, u28, u29, u30, u31, u32, u33, u34, u35, u36, u37, u38, u39, u40, u41, u42, u43, u44, u45, g11, g17, g19, k17, rfl, f0, f1, f2, f3, f4, f5, f6, f7, f8, f9, f10, f11, f12, f13, f14, f15, f16, f17, f18, f19, rb, ra, za, zb, s11, s17, s19, nb, na, hz, hbel⟩⟩ := hinv
      go_wp2_with fail
      exact ⟨⟨u8, u27, u28, u29, u30, u31, (.pointer (some ⟨w.heap.size, 2, none⟩)), u33, u34, u35, u36, u37, u38, u39, u40, u41, u42, u43, u44, u45, g11, g17, g19, k17, rfl, (f0.keep (i := 5) (by decide)), (f1.keep (i := 5) (by decide)), (f2.keep (i := 5) (by decide)), (f3.keep (i := 5) (by decide)), (f4.keep (i := 5) (by decide)), (Gd.new (by first | rfl | simp)), (f6.keep (i := 5) (by decide)), (f7.keep (i := 5) (by decide)), (f8.keep (i := 5) (by decide)), (f9.keep (i := 5) (by decide)), (f10.keep (i := 5) (by decide)), (f11.keep (i := 5) (by decide)), (f12.keep (i := 5) (by decide)), (f13.keep (i := 5) (by decide)), (f14.keep (i := 5) (by decide)), (f15.keep (i := 5) (by decide)), (f16.keep (i := 5) (by decide)), (f17.keep (i := 5) (by decide)), (f18.keep (i := 5) (by decide)), (f19.keep (i := 5) (by decide)), (Gd.keep (i := 5) (rb.imp fun h => Ng.keep (i := 5) h (by decide)) (by decide)), (ra.keep (i := 5) (by decide)), (Gd.keep (i := 5) (za.imp fun h => Ng.keep (i := 5) h (by decide)) (by decide)), (zb.keep (i := 5) (by decide)), (s11.keep (i := 5) (by decide)), (s17.keep (i := 5) (by decide)), (s19.keep (i := 5) (by decide)), (Gd.keep (i := 5) (nb.imp fun h => Gd.keep (i := 5) h (by decide)) (by decide)), (Gd.keep (i := 5) (na.imp fun h => Gd.keep (i := 5) h (by decide)) (by decide)), hz, hbel⟩⟩
    refine .cons 7 rfl ?_ ?_
    · intro d a w9 hsz hcl hinv hd hdep
      obtain ⟨⟨u8, u27, u28, u29, u30, u31, u32, u33, u34, u35, u36, u37, u38, u39, u40, u41, u42, u43, u44, u45, g11, g17, g19, k17, rfl, f0, f1, f2, f3, f4, f5, f6, f7, f8, f9, f10, f11, f12, f13, f14, f15, f16, f17, f18, f19, rb, ra, za, zb, s11, s17, s19, nb, na, hz, hbel⟩⟩ := hinv
      have e5 := f5 (hdep.get 5 rfl)
      subst e5
      have ck := (HX.out.below hbel HBX.out)
      obtain ⟨k0, k1, k2, k3, _⟩ := ck
      go_wp2_with fail
      exact ⟨⟨u8, u27, u28, u29, u30, u31, (.pointer (some ⟨w.heap.size, 2, none⟩)), (.int .i64 sp), u34, u35, u36, u37, u38, u39, u40, u41, u42, u43, u44, u45, g11, g17, g19, k17, rfl, (f0.keep (i := 6) (by decide)), (f1.keep (i := 6) (by decide)), (f2.keep (i := 6) (by decide)), (f3.keep (i := 6) (by decide)), (f4.keep (i := 6) (by decide)), (Gd.new rfl), (Gd.new (by first | rfl | simp)), (f7.keep (i := 6) (by decide)), (f8.keep (i := 6) (by decide)), (f9.keep (i := 6) (by decide)), (f10.keep (i := 6) (by decide)), (f11.keep (i := 6) (by decide)), (f12.keep (i := 6) (by decide)), (f13.keep (i := 6) (by decide)), (f14.keep (i := 6) (by decide)), (f15.keep (i := 6) (by decide)), (f16.keep (i := 6) (by decide)), (f17.keep (i := 6) (by decide)), (f18.keep (i := 6) (by decide)), (f19.keep (i := 6) (by decide)), (Gd.keep (i := 6) (rb.imp fun h => Ng.keep (i := 6) h (by decide)) (by decide)), (ra.keep (i := 6) (by decide)), (Gd.keep (i := 6) (za.imp fun h => Ng.keep (i := 6) h (by decide)) (by decide)), (zb.keep (i := 6) (by decide)), (s11.keep (i := 6) (by decide)), (s17.keep (i := 6) (by decide)), (s19.keep (i := 6) (by decide)), (Gd.keep (i := 6) (nb.imp fun h => Gd.keep (i := 6) h (by decide)) (by decide)), (Gd.keep (i := 6) (na.imp fun h => Gd.keep (i := 6) h (by decide)) (by decide)), hz, hbel⟩⟩
    refine .cons 8 rfl ?_ ?_
    · intro d a w9 hsz hcl hinv hd hdep
      obtain ⟨⟨u8, u27, u28, u29, u30, u31, u32, u33, u34, u35, u36, u37, u38, u39, u40, u41, u42, u43, u44, u45, g11, g17, g19, k17, rfl, f0, f1, f2, f3, f4, f5, f6, f7, f8, f9, f10, f11, f12, f13, f14, f15, f16, f17, f18, f19, rb, ra, za, zb, s11, s17, s19, nb, na, hz, hbel⟩⟩ := hinv
      have e4 := f4 (hdep.get 4 rfl)
      subst e4
      have e6 := f6 (hdep.get 6 rfl)
      subst e6
      go_wp2_with fail
      exact ⟨⟨u8, u27, u28, u29, u30, (.int .i64 (f' : Int)), u32, (.int .i64 sp), (.int .i64 ((f' : Int) * sp)), u35, u36, u37, u38, u39, u40, u41, u42, u43, u44, u45, g11, g17, g19, k17, rfl, (f0.keep (i := 7) (by decide)), (f1.keep (i := 7) (by decide)), (f2.keep (i := 7) (by decide)), (f3.keep (i := 7) (by decide)), (Gd.new rfl), (f5.keep (i := 7) (by decide)), (Gd.new rfl), (Gd.new (by first | rfl | simp)), (f8.keep (i := 7) (by decide)), (f9.keep (i := 7) (by decide)), (f10.keep (i := 7) (by decide)), (f11.keep (i := 7) (by decide)), (f12.keep (i := 7) (by decide)), (f13.keep (i := 7) (by decide)), (f14.keep (i := 7) (by decide)), (f15.keep (i := 7) (by decide)), (f16.keep (i := 7) (by decide)), (f17.keep (i := 7) (by decide)), (f18.keep (i := 7) (by decide)), (f19.keep (i := 7) (by decide)), (Gd.keep (i := 7) (rb.imp fun h => Ng.keep (i := 7) h (by decide)) (by decide)), (ra.keep (i := 7) (by decide)), (Gd.keep (i := 7) (za.imp fun h => Ng.keep (i := 7) h (by decide)) (by decide)), (zb.keep (i := 7) (by decide)), (s11.keep (i := 7) (by decide)), (s17.keep (i := 7) (by decide)), (s19.keep (i := 7) (by decide)), (Gd.keep (i := 7) (nb.imp fun h => Gd.keep (i := 7) h (by decide)) (by decide)), (Gd.keep (i := 7) (na.imp fun h => Gd.keep (i := 7) h (by decide)) (by decide)), hz, hbel⟩⟩
    refine .cons 9 rfl ?_ ?_
    · intro d a w9 hsz hcl hinv hd hdep
      obtain ⟨⟨u8, u27, u28, u29, u30, u31, u32, u33, u34, u35, u36, u37, u38, u39, u40, u41, u42, u43, u44, u45, g11, g17, g19, k17, rfl, f0, f1, f2, f3, f4, f5, f6, f7, f8, f9, f10, f11, f12, f13, f14, f15, f16, f17, f18, f19, rb, ra, za, zb, s11, s17, s19, nb, na, hz, hbel⟩⟩ := hinv
      have e3 := f3 (hdep.get 3 rfl)
      subst e3
      have e7 := f7 (hdep.get 7 rfl)
      subst e7
      go_wp2_with fail
      exact ⟨⟨u8, u27, u28, u29, (.int .i64 st), u31, u32, u33, (.int .i64 ((f' : Int) * sp)), (.int .i64 s'), u36, u37, u38, u39, u40, u41, u42, u43, u44, u45, g11, g17, g19, k17, rfl, (f0.keep (i := 8) (by decide)), (f1.keep (i := 8) (by decide)), (f2.keep (i := 8) (by decide)), (Gd.new rfl), (f4.keep (i := 8) (by decide)), (f5.keep (i := 8) (by decide)), (f6.keep (i := 8) (by decide)), (Gd.new rfl), (Gd.new (by first | rfl | simp)), (f9.keep (i := 8) (by decide)), (f10.keep (i := 8) (by decide)), (f11.keep (i := 8) (by decide)), (f12.keep (i := 8) (by decide)), (f13.keep (i := 8) (by decide)), (f14.keep (i := 8) (by decide)), (f15.keep (i := 8) (by decide)), (f16.keep (i := 8) (by decide)), (f17.keep (i := 8) (by decide)), (f18.keep (i := 8) (by decide)), (f19.keep (i := 8) (by decide)), (Gd.keep (i := 8) (rb.imp fun h => Ng.keep (i := 8) h (by decide)) (by decide)), (ra.keep (i := 8) (by decide)), (Gd.keep (i := 8) (za.imp fun h => Ng.keep (i := 8) h (by decide)) (by decide)), (zb.keep (i := 8) (by decide)), (s11.keep (i := 8) (by decide)), (s17.keep (i := 8) (by decide)), (s19.keep (i := 8) (by decide)), (Gd.keep (i := 8) (nb.imp fun h => Gd.keep (i := 8) h (by decide)) (by decide)), (Gd.keep (i := 8) (na.imp fun h => Gd.keep (i := 8) h (by decide)) (by decide)), hz, hbel⟩⟩
    refine .cons 10 rfl ?_ ?_
    · intro d a w9 hsz hcl hinv hd hdep
      obtain ⟨⟨u8, u27, u28, u29, u30, u31, u32, u33, u34, u35, u36, u37, u38, u39, u40, u41, u42, u43, u44, u45, g11, g17, g19, k17, rfl, f0, f1, f2, f3, f4, f5, f6, f7, f8, f9, f10, f11, f12, f13, f14, f15, f16, f17, f18, f19, rb, ra, za, zb, s11, s17, s19, nb, na, hz, hbel⟩⟩ := hinv
      go_wp2_with fail
      exact ⟨⟨u8, u27, u28, u29, u30, u31, u32, u33, u34, u35, (.pointer (some ⟨w.heap.size, 2, none⟩)), u37, u38, u39, u40, u41, u42, u43, u44, u45, g11, g17, g19, k17, rfl, (f0.keep (i := 9) (by decide)), (f1.keep (i := 9) (by decide)), (f2.keep (i := 9) (by decide)), (f3.keep (i := 9) (by decide)), (f4.keep (i := 9) (by decide)), (f5.keep (i := 9) (by decide)), (f6.keep (i := 9) (by decide)), (f7.keep (i := 9) (by decide)), (f8.keep (i := 9) (by decide)), (Gd.new (by first | rfl | simp)), (f10.keep (i := 9) (by decide)), (f11.keep (i := 9) (by decide)), (f12.keep (i := 9) (by decide)), (f13.keep (i := 9) (by decide)), (f14.keep (i := 9) (by decide)), (f15.keep (i := 9) (by decide)), (f16.keep (i := 9) (by decide)), (f17.keep (i := 9) (by decide)), (f18.keep (i := 9) (by decide)), (f19.keep (i := 9) (by decide)), (Gd.keep (i := 9) (rb.imp fun h => Ng.keep (i := 9) h (by decide)) (by decide)), (ra.keep (i := 9) (by decide)), (Gd.keep (i := 9) (za.imp fun h => Ng.keep (i := 9) h (by decide)) (by decide)), (zb.keep (i := 9) (by decide)), (s11.keep (i := 9) (by decide)), (s17.keep (i := 9) (by decide)), (s19.keep (i := 9) (by decide)), (Gd.keep (i := 9) (nb.imp fun h => Gd.keep (i := 9) h (by decide)) (by decide)), (Gd.keep (i := 9) (na.imp fun h => Gd.keep (i := 9) h (by decide)) (by decide)), hz, hbel⟩⟩
    refine .cons 11 rfl ?_ ?_
    · intro d a w9 hsz hcl hinv hd hdep
      obtain ⟨⟨u8, u27, u28, u29, u30, u31, u32, u33, u34, u35, u36, u37, u38, u39, u40, u41, u42, u43, u44, u45, g11, g17, g19, k17, rfl, f0, f1, f2, f3, f4, f5, f6, f7, f8, f9, f10, f11, f12, f13, f14, f15, f16, f17, f18, f19, rb, ra, za, zb, s11, s17, s19, nb, na, hz, hbel⟩⟩ := hinv
      have e9 := f9 (hdep.get 9 rfl)
      subst e9
      have ck := (HX.out.below hbel HBX.out)
      obtain ⟨k0, k1, k2, k3, _⟩ := ck
      go_wp2_with fail
      exact ⟨⟨u8, u27, u28, u29, u30, u31, u32, u33, u34, u35, (.pointer (some ⟨w.heap.size, 2, none⟩)), (.int .i64 sp), u38, u39, u40, u41, u42, u43, u44, u45, g11, g17, g19, k17, rfl, (f0.keep (i := 10) (by decide)), (f1.keep (i := 10) (by decide)), (f2.keep (i := 10) (by decide)), (f3.keep (i := 10) (by decide)), (f4.keep (i := 10) (by decide)), (f5.keep (i := 10) (by decide)), (f6.keep (i := 10) (by decide)), (f7.keep (i := 10) (by decide)), (f8.keep (i := 10) (by decide)), (Gd.new rfl), (Gd.new (by first | rfl | simp)), (f11.keep (i := 10) (by decide)), (f12.keep (i := 10) (by decide)), (f13.keep (i := 10) (by decide)), (f14.keep (i := 10) (by decide)), (f15.keep (i := 10) (by decide)), (f16.keep (i := 10) (by decide)), (f17.keep (i := 10) (by decide)), (f18.keep (i := 10) (by decide)), (f19.keep (i := 10) (by decide)), (Gd.keep (i := 10) (rb.imp fun h => Ng.keep (i := 10) h (by decide)) (by decide)), (ra.keep (i := 10) (by decide)), (Gd.keep (i := 10) (za.imp fun h => Ng.keep (i := 10) h (by decide)) (by decide)), (zb.keep (i := 10) (by decide)), (s11.keep (i := 10) (by decide)), (s17.keep (i := 10) (by decide)), (s19.keep (i := 10) (by decide)), (Gd.keep (i := 10) (nb.imp fun h => Gd.keep (i := 10) h (by decide)) (by decide)), (Gd.keep (i := 10) (na.imp fun h => Gd.keep (i := 10) h (by decide)) (by decide)), hz, hbel⟩⟩
    refine .cons 12 rfl ?_ ?_
    · intro d a w9 hsz hcl hinv hd hdep
      obtain ⟨⟨u8, u27, u28, u29, u30, u31, u32, u33, u34, u35, u36, u37, u38, u39, u40, u41, u42, u43, u44, u45, g11, g17, g19, k17, rfl, f0, f1, f2, f3, f4, f5, f6, f7, f8, f9, f10, f11, f12, f13, f14, f15, f16, f17, f18, f19, rb, ra, za, zb, s11, s17, s19, nb, na, hz, hbel⟩⟩ := hinv
      have na_ := hcl.not hd 17 _ rfl rfl
      go_wp2_with fail
      exact ⟨⟨u8, u27, u28, u29, u30, u31, u32, u33, u34, u35, u36, u37, (.slice (some ⟨w9.heap.size, 0, none⟩) 0 0), u39, u40, u41, u42, u43, u44, u45, w9.heap.size, g17, g19, k17, rfl, (f0.keep (i := 11) (by decide)), (f1.keep (i := 11) (by decide)), (f2.keep (i := 11) (by decide)), (f3.keep (i := 11) (by decide)), (f4.keep (i := 11) (by decide)), (f5.keep (i := 11) (by decide)), (f6.keep (i := 11) (by decide)), (f7.keep (i := 11) (by decide)), (f8.keep (i := 11) (by decide)), (f9.keep (i := 11) (by decide)), (f10.keep (i := 11) (by decide)), (Gd.new (by first | rfl | simp)), (f12.keep (i := 11) (by decide)), (f13.keep (i := 11) (by decide)), (f14.keep (i := 11) (by decide)), (f15.keep (i := 11) (by decide)), (f16.keep (i := 11) (by decide)), (Gd.undone (i := 11) na_ (by decide)), (Gd.undone (i := 11) (hcl.not na_ 18 _ rfl rfl) (by decide)), (f19.keep (i := 11) (by decide)), (Gd.new fun _ => World.ownsRow_lit w9 #[] 0 hz (by decide) rfl), (Gd.undone (i := 11) na_ (by decide)), (Gd.keep (i := 11) (za.imp fun h => Ng.keep (i := 11) (h.imp fun h => h.alloc _) (by decide)) (by decide)), (Gd.keep (i := 11) (fun h9 => (zb h9).alloc _) (by decide)), (Gd.new ⟨by simp, hz⟩), (Gd.keep (i := 11) (fun h9 => ⟨by have := (s17 h9).1; simp; omega, (s17 h9).2⟩) (by decide)), (Gd.keep (i := 11) (fun h9 => ⟨by have := (s19 h9).1; simp; omega, (s19 h9).2⟩) (by decide)), (fun _ hj => by rw [set_ne (by decide)] at hj; have h9 := (s19 hj).1; omega), (fun hj _ => by rw [set_ne (by decide), na_] at hj; cases hj), (by simp; omega), (hbel.alloc (by have := hbel.size; omega) _)⟩⟩
    refine .cons 13 rfl ?_ ?_
    · intro d a w9 hsz hcl hinv hd hdep
      obtain ⟨⟨u8, u27, u28, u29, u30, u31, u32, u33, u34, u35, u36, u37, u38, u39, u40, u41, u42, u43, u44, u45, g11, g17, g19, k17, rfl, f0, f1, f2, f3, f4, f5, f6, f7, f8, f9, f10, f11, f12, f13, f14, f15, f16, f17, f18, f19, rb, ra, za, zb, s11, s17, s19, nb, na, hz, hbel⟩⟩ := hinv
      go_wp2_with fail
      exact ⟨⟨u8, u27, u28, u29, u30, u31, u32, u33, u34, u35, u36, u37, u38, (.pointer (some ⟨w.heap.size, 3, none⟩)), u40, u41, u42, u43, u44, u45, g11, g17, g19, k17, rfl, (f0.keep (i := 12) (by decide)), (f1.keep (i := 12) (by decide)), (f2.keep (i := 12) (by decide)), (f3.keep (i := 12) (by decide)), (f4.keep (i := 12) (by decide)), (f5.keep (i := 12) (by decide)), (f6.keep (i := 12) (by decide)), (f7.keep (i := 12) (by decide)), (f8.keep (i := 12) (by decide)), (f9.keep (i := 12) (by decide)), (f10.keep (i := 12) (by decide)), (f11.keep (i := 12) (by decide)), (Gd.new (by first | rfl | simp)), (f13.keep (i := 12) (by decide)), (f14.keep (i := 12) (by decide)), (f15.keep (i := 12) (by decide)), (f16.keep (i := 12) (by decide)), (f17.keep (i := 12) (by decide)), (f18.keep (i := 12) (by decide)), (f19.keep (i := 12) (by decide)), (Gd.keep (i := 12) (rb.imp fun h => Ng.keep (i := 12) h (by decide)) (by decide)), (ra.keep (i := 12) (by decide)), (Gd.keep (i := 12) (za.imp fun h => Ng.keep (i := 12) h (by decide)) (by decide)), (zb.keep (i := 12) (by decide)), (s11.keep (i := 12) (by decide)), (s17.keep (i := 12) (by decide)), (s19.keep (i := 12) (by decide)), (Gd.keep (i := 12) (nb.imp fun h => Gd.keep (i := 12) h (by decide)) (by decide)), (Gd.keep (i := 12) (na.imp fun h => Gd.keep (i := 12) h (by decide)) (by decide)), hz, hbel⟩⟩
    refine .cons 14 rfl ?_ ?_
    · intro d a w9 hsz hcl hinv hd hdep
      obtain ⟨⟨u8, u27, u28, u29, u30, u31, u32, u33, u34, u35, u36, u37, u38, u39, u40, u41, u42, u43, u44, u45, g11, g17, g19, k17, rfl, f0, f1, f2, f3, f4, f5, f6, f7, f8, f9, f10, f11, f12, f13, f14, f15, f16, f17, f18, f19, rb, ra, za, zb, s11, s17, s19, nb, na, hz, hbel⟩⟩ := hinv
      have e12 := f12 (hdep.get 12 rfl)
      subst e12
      have ck := (HX.out.below hbel HBX.out)
      obtain ⟨k0, k1, k2, k3, _⟩ := ck
      go_wp2_with fail
      exact ⟨⟨u8, u27, u28, u29, u30, u31, u32, u33, u34, u35, u36, u37, u38, (.pointer (some ⟨w.heap.size, 3, none⟩)), (.slice (some ⟨b, o, none⟩) zl cap), u41, u42, u43, u44, u45, g11, g17, g19, k17, rfl, (f0.keep (i := 13) (by decide)), (f1.keep (i := 13) (by decide)), (f2.keep (i := 13) (by decide)), (f3.keep (i := 13) (by decide)), (f4.keep (i := 13) (by decide)), (f5.keep (i := 13) (by decide)), (f6.keep (i := 13) (by decide)), (f7.keep (i := 13) (by decide)), (f8.keep (i := 13) (by decide)), (f9.keep (i := 13) (by decide)), (f10.keep (i := 13) (by decide)), (f11.keep (i := 13) (by decide)), (Gd.new rfl), (Gd.new (by first | rfl | simp)), (f14.keep (i := 13) (by decide)), (f15.keep (i := 13) (by decide)), (f16.keep (i := 13) (by decide)), (f17.keep (i := 13) (by decide)), (f18.keep (i := 13) (by decide)), (f19.keep (i := 13) (by decide)), (Gd.keep (i := 13) (rb.imp fun h => Ng.keep (i := 13) h (by decide)) (by decide)), (ra.keep (i := 13) (by decide)), (Gd.keep (i := 13) (za.imp fun h => Ng.keep (i := 13) h (by decide)) (by decide)), (zb.keep (i := 13) (by decide)), (s11.keep (i := 13) (by decide)), (s17.keep (i := 13) (by decide)), (s19.keep (i := 13) (by decide)), (Gd.keep (i := 13) (nb.imp fun h => Gd.keep (i := 13) h (by decide)) (by decide)), (Gd.keep (i := 13) (na.imp fun h => Gd.keep (i := 13) h (by decide)) (by decide)), hz, hbel⟩⟩
    refine .cons 15 rfl ?_ ?_
    · intro d a w9 hsz hcl hinv hd hdep
      obtain ⟨⟨u8, u27, u28, u29, u30, u31, u32, u33, u34, u35, u36, u37, u38, u39, u40, u41, u42, u43, u44, u45, g11, g17, g19, k17, rfl, f0, f1, f2, f3, f4, f5, f6, f7, f8, f9, f10, f11, f12, f13, f14, f15, f16, f17, f18, f19, rb, ra, za, zb, s11, s17, s19, nb, na, hz, hbel⟩⟩ := hinv
      go_wp2_with fail
      exact ⟨⟨u8, u27, u28, u29, u30, u31, u32, u33, u34, u35, u36, u37, u38, u39, u40, (.int .i64 (f' : Int)), u42, u43, u44, u45, g11, g17, g19, k17, rfl, (f0.keep (i := 14) (by decide)), (f1.keep (i := 14) (by decide)), (f2.keep (i := 14) (by decide)), (f3.keep (i := 14) (by decide)), (f4.keep (i := 14) (by decide)), (f5.keep (i := 14) (by decide)), (f6.keep (i := 14) (by decide)), (f7.keep (i := 14) (by decide)), (f8.keep (i := 14) (by decide)), (f9.keep (i := 14) (by decide)), (f10.keep (i := 14) (by decide)), (f11.keep (i := 14) (by decide)), (f12.keep (i := 14) (by decide)), (f13.keep (i := 14) (by decide)), (Gd.new (by first | rfl | simp)), (f15.keep (i := 14) (by decide)), (f16.keep (i := 14) (by decide)), (f17.keep (i := 14) (by decide)), (f18.keep (i := 14) (by decide)), (f19.keep (i := 14) (by decide)), (Gd.keep (i := 14) (rb.imp fun h => Ng.keep (i := 14) h (by decide)) (by decide)), (ra.keep (i := 14) (by decide)), (Gd.keep (i := 14) (za.imp fun h => Ng.keep (i := 14) h (by decide)) (by decide)), (zb.keep (i := 14) (by decide)), (s11.keep (i := 14) (by decide)), (s17.keep (i := 14) (by decide)), (s19.keep (i := 14) (by decide)), (Gd.keep (i := 14) (nb.imp fun h => Gd.keep (i := 14) h (by decide)) (by decide)), (Gd.keep (i := 14) (na.imp fun h => Gd.keep (i := 14) h (by decide)) (by decide)), hz, hbel⟩⟩
    refine .cons 16 rfl ?_ ?_
    · intro d a w9 hsz hcl hinv hd hdep
      obtain ⟨⟨u8, u27, u28, u29, u30, u31, u32, u33, u34, u35, u36, u37, u38, u39, u40, u41, u42, u43, u44, u45, g11, g17, g19, k17, rfl, f0, f1, f2, f3, f4, f5, f6, f7, f8, f9, f10, f11, f12, f13, f14, f15, f16, f17, f18, f19, rb, ra, za, zb, s11, s17, s19, nb, na, hz, hbel⟩⟩ := hinv
      go_wp2_with fail
      exact ⟨⟨u8, u27, u28, u29, u30, u31, u32, u33, u34, u35, u36, u37, u38, u39, u40, u41, (.int .i64 (t' : Int)), u43, u44, u45, g11, g17, g19, k17, rfl, (f0.keep (i := 15) (by decide)), (f1.keep (i := 15) (by decide)), (f2.keep (i := 15) (by decide)), (f3.keep (i := 15) (by decide)), (f4.keep (i := 15) (by decide)), (f5.keep (i := 15) (by decide)), (f6.keep (i := 15) (by decide)), (f7.keep (i := 15) (by decide)), (f8.keep (i := 15) (by decide)), (f9.keep (i := 15) (by decide)), (f10.keep (i := 15) (by decide)), (f11.keep (i := 15) (by decide)), (f12.keep (i := 15) (by decide)), (f13.keep (i := 15) (by decide)), (f14.keep (i := 15) (by decide)), (Gd.new (by first | rfl | simp)), (f16.keep (i := 15) (by decide)), (f17.keep (i := 15) (by decide)), (f18.keep (i := 15) (by decide)), (f19.keep (i := 15) (by decide)), (Gd.keep (i := 15) (rb.imp fun h => Ng.keep (i := 15) h (by decide)) (by decide)), (ra.keep (i := 15) (by decide)), (Gd.keep (i := 15) (za.imp fun h => Ng.keep (i := 15) h (by decide)) (by decide)), (zb.keep (i := 15) (by decide)), (s11.keep (i := 15) (by decide)), (s17.keep (i := 15) (by decide)), (s19.keep (i := 15) (by decide)), (Gd.keep (i := 15) (nb.imp fun h => Gd.keep (i := 15) h (by decide)) (by decide)), (Gd.keep (i := 15) (na.imp fun h => Gd.keep (i := 15) h (by decide)) (by decide)), hz, hbel⟩⟩
    refine .cons 17 rfl ?_ ?_
    · intro d a w9 hsz hcl hinv hd hdep
      obtain ⟨⟨u8, u27, u28, u29, u30, u31, u32, u33, u34, u35, u36, u37, u38, u39, u40, u41, u42, u43, u44, u45, g11, g17, g19, k17, rfl, f0, f1, f2, f3, f4, f5, f6, f7, f8, f9, f10, f11, f12, f13, f14, f15, f16, f17, f18, f19, rb, ra, za, zb, s11, s17, s19, nb, na, hz, hbel⟩⟩ := hinv
      have e13 := f13 (hdep.get 13 rfl)
      subst e13
      have e14 := f14 (hdep.get 14 rfl)
      subst e14
      have e15 := f15 (hdep.get 15 rfl)
      subst e15
      go_wp2_with fail
      exact ⟨⟨u8, u27, u28, u29, u30, u31, u32, u33, u34, u35, u36, u37, u38, u39, (.slice (some ⟨b, o, none⟩) zl cap), (.int .i64 (f' : Int)), (.int .i64 (t' : Int)), (.slice (some ⟨b, o + f', none⟩) (t' - f') (cap - f')), u44, u45, g11, g17, g19, k17, rfl, (f0.keep (i := 16) (by decide)), (f1.keep (i := 16) (by decide)), (f2.keep (i := 16) (by decide)), (f3.keep (i := 16) (by decide)), (f4.keep (i := 16) (by decide)), (f5.keep (i := 16) (by decide)), (f6.keep (i := 16) (by decide)), (f7.keep (i := 16) (by decide)), (f8.keep (i := 16) (by decide)), (f9.keep (i := 16) (by decide)), (f10.keep (i := 16) (by decide)), (f11.keep (i := 16) (by decide)), (f12.keep (i := 16) (by decide)), (Gd.new rfl), (Gd.new rfl), (Gd.new rfl), (Gd.new (by first | rfl | simp)), (f17.keep (i := 16) (by decide)), (f18.keep (i := 16) (by decide)), (f19.keep (i := 16) (by decide)), (Gd.keep (i := 16) (rb.imp fun h => Ng.keep (i := 16) h (by decide)) (by decide)), (ra.keep (i := 16) (by decide)), (Gd.keep (i := 16) (za.imp fun h => Ng.keep (i := 16) h (by decide)) (by decide)), (zb.keep (i := 16) (by decide)), (s11.keep (i := 16) (by decide)), (s17.keep (i := 16) (by decide)), (s19.keep (i := 16) (by decide)), (Gd.keep (i := 16) (nb.imp fun h => Gd.keep (i := 16) h (by decide)) (by decide)), (Gd.keep (i := 16) (na.imp fun h => Gd.keep (i := 16) h (by decide)) (by decide)), hz, hbel⟩⟩
    refine .cons 18 rfl ?_ ?_
    · intro d a w9 hsz hcl hinv hd hdep
      obtain ⟨⟨u8, u27, u28, u29, u30, u31, u32, u33, u34, u35, u36, u37, u38, u39, u40, u41, u42, u43, u44, u45, g11, g17, g19, k17, rfl, f0, f1, f2, f3, f4, f5, f6, f7, f8, f9, f10, f11, f12, f13, f14, f15, f16, f17, f18, f19, rb, ra, za, zb, s11, s17, s19, nb, na, hz, hbel⟩⟩ := hinv
      have e11 := f11 (hdep.get 11 rfl)
      subst e11
      have e16 := f16 (hdep.get 16 rfl)
      subst e16
      have nbl := hcl.not hd 18 _ rfl rfl
      have dj := hdep.get 11 rfl
      have hown := rb dj hd
      have hsrc := HSrc.out.below hbel (Nat.le_refl _)
      have sb := s11 dj
      refine push_all rfl rfl _ _ rfl (lo := w2.heap.size) (v := .slice (some ⟨g11, 0, none⟩) 0 0) (zs := []) (ys := ys) rfl hown b (o + f') (cap - f') (by first | (rw [HY.out]; rfl) | simp [HY.out]) hsrc.2.2.2 (by rw [HY.out]; omega) (by rw [HY.out]; simp; omega) hz ?_
      intro g9 k9 w8 hr8 hp8
      have hb8 : Below w2.heap.size w9 w8 := Below.pushed (Below.refl _ _ |> fun h => ⟨h.1, h.2, h.3, h.4, h.5⟩) hp8 hown (Nat.le_refl _) hz
      have hgr := hp8.1
      have hgn := hp8.2.1
      have hgl := hp8.2.2
      have hz8 := hb8.size
      have hown8 : RowO w8 w2.heap.size (.slice (some ⟨g9, 0, none⟩) ys.length k9) ys := by simpa using hr8
      go_wp2_with fail
      exact ⟨⟨u8, u27, u28, u29, u30, u31, u32, u33, u34, u35, u36, u37, (.slice (some ⟨g11, 0, none⟩) 0 0), u39, u40, u41, u42, (.slice (some ⟨b, o + f', none⟩) (t' - f') (cap - f')), (.slice (some ⟨g9, 0, none⟩) ys.length k9), u45, g11, g9, g19, k9, rfl, (f0.keep (i := 17) (by decide)), (f1.keep (i := 17) (by decide)), (f2.keep (i := 17) (by decide)), (f3.keep (i := 17) (by decide)), (f4.keep (i := 17) (by decide)), (f5.keep (i := 17) (by decide)), (f6.keep (i := 17) (by decide)), (f7.keep (i := 17) (by decide)), (f8.keep (i := 17) (by decide)), (f9.keep (i := 17) (by decide)), (f10.keep (i := 17) (by decide)), (Gd.new rfl), (f12.keep (i := 17) (by decide)), (f13.keep (i := 17) (by decide)), (f14.keep (i := 17) (by decide)), (f15.keep (i := 17) (by decide)), (Gd.new rfl), (Gd.new (by first | rfl | simp)), (Gd.undone (i := 17) nbl (by decide)), (f19.keep (i := 17) (by decide)), (fun _ => Ng.new (by rw [hsz]; exact (by decide : 17 < 21))), (Gd.new hown8), (Gd.keep (i := 17) (fun h9 => Ng.keep (i := 17) (fun h7 => Bw.grown9 (za h9 h7) hgr (by have h6 := nb dj h9; simp only [Value.ownBlock, ne_eq, Option.some.injEq]; omega)) (by decide)) (by decide)), (Gd.undone (i := 17) (hcl.not nbl 20 _ rfl rfl) (by decide)), (Gd.keep (i := 17) (fun h9 => ⟨Nat.lt_of_lt_of_le (s11 h9).1 hz8, (s11 h9).2⟩) (by decide)), (Gd.new ⟨hgl, (hown8.lo g9 rfl).1⟩), (Gd.keep (i := 17) (fun h9 => ⟨Nat.lt_of_lt_of_le (s19 h9).1 hz8, (s19 h9).2⟩) (by decide)), (Gd.keep (i := 17) (nb.imp fun h => Gd.keep (i := 17) h (by decide)) (by decide)), (fun _ hj => by rw [set_ne (by decide)] at hj; have h9 := (s19 hj).1; have h8 := nb dj hj; rcases hgn with h7 | h7; (simp only [Value.ownBlock, Option.some.injEq] at h7; omega); omega), (Nat.le_trans hz hz8), (hbel.trans hb8)⟩⟩
    refine .cons 19 rfl ?_ ?_
    · intro d a w9 hsz hcl hinv hd hdep
      obtain ⟨⟨u8, u27, u28, u29, u30, u31, u32, u33, u34, u35, u36, u37, u38, u39, u40, u41, u42, u43, u44, u45, g11, g17, g19, k17, rfl, f0, f1, f2, f3, f4, f5, f6, f7, f8, f9, f10, f11, f12, f13, f14, f15, f16, f17, f18, f19, rb, ra, za, zb, s11, s17, s19, nb, na, hz, hbel⟩⟩ := hinv
      have e1 := f1 (hdep.get 1 rfl)
      subst e1
      have e8 := f8 (hdep.get 8 rfl)
      subst e8
      have e10 := f10 (hdep.get 10 rfl)
      subst e10
      have e17 := f17 (hdep.get 17 rfl)
      subst e17
      go_wp2_with fail
      exact ⟨⟨u8, u27, (.string nm), u29, u30, u31, u32, u33, u34, (.int .i64 s'), u36, (.int .i64 sp), u38, u39, u40, u41, u42, u43, (.slice (some ⟨g17, 0, none⟩) ys.length k17), (.agg #[.string nm, .int .i64 s', .int .i64 sp, .slice (some ⟨g17, 0, none⟩) ys.length k17]), g11, g17, g19, k17, rfl, (f0.keep (i := 18) (by decide)), (Gd.new rfl), (f2.keep (i := 18) (by decide)), (f3.keep (i := 18) (by decide)), (f4.keep (i := 18) (by decide)), (f5.keep (i := 18) (by decide)), (f6.keep (i := 18) (by decide)), (f7.keep (i := 18) (by decide)), (Gd.new rfl), (f9.keep (i := 18) (by decide)), (Gd.new rfl), (f11.keep (i := 18) (by decide)), (f12.keep (i := 18) (by decide)), (f13.keep (i := 18) (by decide)), (f14.keep (i := 18) (by decide)), (f15.keep (i := 18) (by decide)), (f16.keep (i := 18) (by decide)), (Gd.new rfl), (Gd.new (by first | rfl | simp)), (f19.keep (i := 18) (by decide)), (Gd.keep (i := 18) (rb.imp fun h => Ng.keep (i := 18) h (by decide)) (by decide)), (ra.keep (i := 18) (by decide)), (Gd.keep (i := 18) (za.imp fun h => Ng.keep (i := 18) h (by decide)) (by decide)), (zb.keep (i := 18) (by decide)), (s11.keep (i := 18) (by decide)), (s17.keep (i := 18) (by decide)), (s19.keep (i := 18) (by decide)), (Gd.keep (i := 18) (nb.imp fun h => Gd.keep (i := 18) h (by decide)) (by decide)), (Gd.keep (i := 18) (na.imp fun h => Gd.keep (i := 18) h (by decide)) (by decide)), hz, hbel⟩⟩
    refine .cons 20 rfl ?_ ?_
    · intro d a w9 hsz hcl hinv hd hdep
      obtain ⟨⟨u8, u27, u28, u29, u30, u31, u32, u33, u34, u35, u36, u37, u38, u39, u40, u41, u42, u43, u44, u45, g11, g17, g19, k17, rfl, f0, f1, f2, f3, f4, f5, f6, f7, f8, f9, f10, f11, f12, f13, f14, f15, f16, f17, f18, f19, rb, ra, za, zb, s11, s17, s19, nb, na, hz, hbel⟩⟩ := hinv
      have na_ := hcl.not hd 20 _ rfl rfl
      go_wp2_with fail
      exact ⟨⟨(.pointer (some ⟨w9.heap.size, 0, none⟩)), u27, u28, u29, u30, u31, u32, u33, u34, u35, u36, u37, u38, u39, u40, u41, u42, u43, u44, u45, g11, g17, w9.heap.size, k17, rfl, (f0.keep (i := 19) (by decide)), (f1.keep (i := 19) (by decide)), (f2.keep (i := 19) (by decide)), (f3.keep (i := 19) (by decide)), (f4.keep (i := 19) (by decide)), (f5.keep (i := 19) (by decide)), (f6.keep (i := 19) (by decide)), (f7.keep (i := 19) (by decide)), (f8.keep (i := 19) (by decide)), (f9.keep (i := 19) (by decide)), (f10.keep (i := 19) (by decide)), (f11.keep (i := 19) (by decide)), (f12.keep (i := 19) (by decide)), (f13.keep (i := 19) (by decide)), (f14.keep (i := 19) (by decide)), (f15.keep (i := 19) (by decide)), (f16.keep (i := 19) (by decide)), (f17.keep (i := 19) (by decide)), (f18.keep (i := 19) (by decide)), (Gd.new (by first | rfl | simp)), (Gd.keep (i := 19) (rb.imp fun h => Ng.keep (i := 19) (h.imp fun h => h.alloc _) (by decide)) (by decide)), (Gd.keep (i := 19) (fun h9 => (ra h9).alloc _) (by decide)), (Gd.new fun _ => by have h9 := Bw.new w9 ZR 49; exact h9), (Gd.undone (i := 19) na_ (by decide)), (Gd.keep (i := 19) (fun h9 => ⟨by have := (s11 h9).1; simp; omega, (s11 h9).2⟩) (by decide)), (Gd.keep (i := 19) (fun h9 => ⟨by have := (s17 h9).1; simp; omega, (s17 h9).2⟩) (by decide)), (Gd.new ⟨by simp, hz⟩), (fun hj _ => by rw [set_ne (by decide)] at hj; have h9 := (s11 hj).1; omega), (fun hj _ => by rw [set_ne (by decide)] at hj; have h9 := (s17 hj).1; omega), (by simp; omega), (hbel.alloc (by have := hbel.size; omega) _)⟩⟩
    refine .cons 21 rfl ?_ trivial
    · intro d a w9 hsz hcl hinv hd hdep
      obtain ⟨⟨u8, u27, u28, u29, u30, u31, u32, u33, u34, u35, u36, u37, u38, u39, u40, u41, u42, u43, u44, u45, g11, g17, g19, k17, rfl, f0, f1, f2, f3, f4, f5, f6, f7, f8, f9, f10, f11, f12, f13, f14, f15, f16, f17, f18, f19, rb, ra, za, zb, s11, s17, s19, nb, na, hz, hbel⟩⟩ := hinv
      have e18 := f18 (hdep.get 18 rfl)
      subst e18
      have e19 := f19 (hdep.get 19 rfl)
      subst e19
      have da := hdep.get 19 rfl
      have hbp := za da hd
      have sa := s19 da
      have hc0 := hbp.c 0 rfl
      have hc1 := hbp.c 1 rfl
      have hc2 := hbp.c 2 rfl
      have hc3 := hbp.c 3 rfl
      have hf0 := hbp.f 0 (by decide)
      have hf1 := hbp.f 1 (by decide)
      have hf2 := hbp.f 2 (by decide)
      have hf3 := hbp.f 3 (by decide)
      go_wp2_with fail
      exact ⟨⟨(.pointer (some ⟨g19, 0, none⟩)), u27, u28, u29, u30, u31, u32, u33, u34, u35, u36, u37, u38, u39, u40, u41, u42, u43, u44, (.agg #[.string nm, .int .i64 s', .int .i64 sp, .slice (some ⟨g17, 0, none⟩) ys.length k17]), g11, g17, g19, k17, rfl, (f0.keep (i := 20) (by decide)), (f1.keep (i := 20) (by decide)), (f2.keep (i := 20) (by decide)), (f3.keep (i := 20) (by decide)), (f4.keep (i := 20) (by decide)), (f5.keep (i := 20) (by decide)), (f6.keep (i := 20) (by decide)), (f7.keep (i := 20) (by decide)), (f8.keep (i := 20) (by decide)), (f9.keep (i := 20) (by decide)), (f10.keep (i := 20) (by decide)), (f11.keep (i := 20) (by decide)), (f12.keep (i := 20) (by decide)), (f13.keep (i := 20) (by decide)), (f14.keep (i := 20) (by decide)), (f15.keep (i := 20) (by decide)), (f16.keep (i := 20) (by decide)), (f17.keep (i := 20) (by decide)), (Gd.new rfl), (Gd.new rfl), (Gd.keep (i := 20) (fun h9 => Ng.keep (i := 20) (fun h7 => (((((rb h9 h7).setFar (by have h6 := nb h9 da; simp only [Value.ownBlock, ne_eq, Option.some.injEq]; omega) _).setFar (by have h6 := nb h9 da; simp only [Value.ownBlock, ne_eq, Option.some.injEq]; omega) _).setFar (by have h6 := nb h9 da; simp only [Value.ownBlock, ne_eq, Option.some.injEq]; omega) _).setFar (by have h6 := nb h9 da; simp only [Value.ownBlock, ne_eq, Option.some.injEq]; omega) _)) (by decide)) (by decide)), (Gd.keep (i := 20) (fun h9 => (((((ra h9).setFar (by have h6 := na h9 da; simp only [Value.ownBlock, ne_eq, Option.some.injEq]; omega) _).setFar (by have h6 := na h9 da; simp only [Value.ownBlock, ne_eq, Option.some.injEq]; omega) _).setFar (by have h6 := na h9 da; simp only [Value.ownBlock, ne_eq, Option.some.injEq]; omega) _).setFar (by have h6 := na h9 da; simp only [Value.ownBlock, ne_eq, Option.some.injEq]; omega) _)) (by decide)), (fun _ => Ng.new (by rw [hsz]; exact (by decide : 20 < 21))), (Gd.new (by have h9 := ((((hbp.put 0 (by simp [ZR]) (.string nm)).put 1 (by simp [ZR]) (.int .i64 s')).put 2 (by simp [ZR]) (.int .i64 sp)).put 3 (by simp [ZR]) (.slice (some ⟨g17, 0, none⟩) ys.length k17)); exact h9)), (Gd.keep (i := 20) (fun h9 => ⟨by simp only [setCell_size]; exact (s11 h9).1, (s11 h9).2⟩) (by decide)), (Gd.keep (i := 20) (fun h9 => ⟨by simp only [setCell_size]; exact (s17 h9).1, (s17 h9).2⟩) (by decide)), (Gd.keep (i := 20) (fun h9 => ⟨by simp only [setCell_size]; exact (s19 h9).1, (s19 h9).2⟩) (by decide)), (Gd.keep (i := 20) (nb.imp fun h => Gd.keep (i := 20) h (by decide)) (by decide)), (Gd.keep (i := 20) (na.imp fun h => Gd.keep (i := 20) h (by decide)) (by decide)), (by simp only [setCell_size]; exact hz), ((((hbel.setCell sa.2 _).setCell sa.2 _).setCell sa.2 _).setCell sa.2 _)⟩⟩
  intro d a w9 hinv hall
  obtain ⟨⟨u8, u27, u28, u29, u30, u31, u32, u33, u34, u35, u36, u37, u38, u39, u40, u41, u42, u43, u44, u45, g11, g17, g19, k17, rfl, f0, f1, f2, f3, f4, f5, f6, f7, f8, f9, f10, f11, f12, f13, f14, f15, f16, f17, f18, f19, rb, ra, za, zb, s11, s17, s19, nb, na, hz, hbel⟩⟩ := hinv
  have RA := Lib.hid (ra (hall 17 (by decide)))
  have ZB := Lib.hid (zb (hall 20 (by decide)))
  have SAP := Lib.hid (s17 (hall 17 (by decide)))
  have SAL := Lib.hid (s19 (hall 19 (by decide)))
  have NA := Lib.hid (na (hall 17 (by decide)) (hall 19 (by decide)))
  have HBL9 := Lib.hid hbel
  have HZ9 := Lib.hid hz
  have eal := f19 (hall 19 (by decide))
  subst eal
  clear f0 f1 f2 f3 f4 f5 f6 f7 f8 f9 f10 f11 f12 f13 f14 f15 f16 f17 f18 f19 rb ra za zb s11 s17 s19 nb na hz hbel
  have hbx9 : BoxH w9 g19 nm s' sp (.slice (some ⟨g17, 0, none⟩) ys.length k17) := ⟨ZB.out.c 0 rfl, ZB.out.c 1 rfl, ZB.out.c 2 rfl, ZB.out.c 3 rfl, SAL.out.1⟩
  have HBox := Lib.hid hbx9
  obtain ⟨d0, d1, d2, d3, _⟩ := hbx9
  have HP9 := Lib.hid (HP2.out.below HBL9.out (by rw [HS2.out]; omega))
  have HBW := Lib.hid (HB.out.trans (HBL9.out.mono (by rw [HS2.out]; omega)) : Below w.heap.size w w9)
  have HYl : Hid (ys.length ≤ 1048576) := Lib.hid (by rw [HY.out]; omega)
  clear c0 c1 c2 c3
  go_wp2_with fail
  refine (l07Record_o g19 nm s' sp (some ⟨g17, 0, none⟩) ys.length k17 w9 HBox.out hs HYl.out).mono ?_
  rintro e w' ⟨ok, hok, rfl, rfl⟩
  have HOk := Lib.hid hok
  clear hok
  have q0 := HP9.out.c 0 rfl
  have q1 := HP9.out.c 1 rfl
  have q2 := HP9.out.c 2 rfl
  have q3 := HP9.out.c 3 rfl
  have f0 := HP9.out.f 0 (by decide)
  have f1 := HP9.out.f 1 (by decide)
  have f2 := HP9.out.f 2 (by decide)
  have f3 := HP9.out.f 3 (by decide)
  cases ok
  · have HR : Hid (R = failR) := Lib.hid (by rw [HGo.out]; exact giveR_n HOk.out)
    go_wp2_with fail
    obtain ⟨W9, hW9⟩ : ∃ W, ((((w9.setCell ⟨w.heap.size + 1, 0, none⟩ (.string ⟨#[]⟩)).setCell ⟨w.heap.size + 1, 1, none⟩ (.int .i64 0)).setCell ⟨w.heap.size + 1, 2, none⟩ (.int .i64 0)).setCell ⟨w.heap.size + 1, 3, none⟩ (.slice none 0 0)) = W := ⟨_, rfl⟩
    have hb9 := Bx.four (HP9.out).1 (.string ⟨#[]⟩) (.int .i64 0) (.int .i64 0) (.slice none 0 0)
    have hl9 : Below w.heap.size w ((((w9.setCell ⟨w.heap.size + 1, 0, none⟩ (.string ⟨#[]⟩)).setCell ⟨w.heap.size + 1, 1, none⟩ (.int .i64 0)).setCell ⟨w.heap.size + 1, 2, none⟩ (.int .i64 0)).setCell ⟨w.heap.size + 1, 3, none⟩ (.slice none 0 0)) := ((((HBW.out).setCell (by first | (simp; done) | (simp; omega) | omega) _).setCell (by first | (simp; done) | (simp; omega) | omega) _).setCell (by first | (simp; done) | (simp; omega) | omega) _).setCell (by first | (simp; done) | (simp; omega) | omega) _
    rw [hW9] at hb9 hl9
    have p0 := hb9.c 0 rfl
    have p1 := hb9.c 1 rfl
    have p2 := hb9.c 2 rfl
    have p3 := hb9.c 3 rfl
    have HL9 := Lib.hid hl9
    clear hb9 hl9
    try rw [hW9]
    clear hW9 q0 q1 q2 q3 f0 f1 f2 f3 d0 d1 d2 d3
    refine bodyPost_ret (v := .tuple #[.agg ZR.toArray, .bool false]) (by first | (simp [results, Try.results41, go_sem, p0, p1, p2, p3]; done) | (simp [results, Try.results41, go_sem, p0, p1, p2, p3]; rfl)) rfl ?_
    rw [HR.out]
    exact ⟨none, 0, rfl, HL9.out, FRow.nil _ _⟩
  · have HR : Hid (R = ⟨nm, s', sp, ys, true⟩) := Lib.hid (by rw [HGo.out]; exact giveR_y HOk.out)
    have h6 : RowO ((((w9.setCell ⟨w.heap.size + 1, 0, none⟩ (.string nm)).setCell ⟨w.heap.size + 1, 1, none⟩ (.int .i64 s')).setCell ⟨w.heap.size + 1, 2, none⟩ (.int .i64 sp)).setCell ⟨w.heap.size + 1, 3, none⟩ (.slice (some ⟨g17, 0, none⟩) ys.length k17)) w2.heap.size (.slice (some ⟨g17, 0, none⟩) ys.length k17) ys := (((RA.out.setFar (by have h6 := SAP.out.2; rw [HS2.out] at h6; simp only [Value.ownBlock, ne_eq, Option.some.injEq]; omega) _).setFar (by have h6 := SAP.out.2; rw [HS2.out] at h6; simp only [Value.ownBlock, ne_eq, Option.some.injEq]; omega) _).setFar (by have h6 := SAP.out.2; rw [HS2.out] at h6; simp only [Value.ownBlock, ne_eq, Option.some.injEq]; omega) _).setFar (by have h6 := SAP.out.2; rw [HS2.out] at h6; simp only [Value.ownBlock, ne_eq, Option.some.injEq]; omega) _
    have H6 := Lib.hid h6
    clear h6
    go_wp2_with fail
    obtain ⟨W9, hW9⟩ : ∃ W, ((((w9.setCell ⟨w.heap.size + 1, 0, none⟩ (.string nm)).setCell ⟨w.heap.size + 1, 1, none⟩ (.int .i64 s')).setCell ⟨w.heap.size + 1, 2, none⟩ (.int .i64 sp)).setCell ⟨w.heap.size + 1, 3, none⟩ (.slice (some ⟨g17, 0, none⟩) ys.length k17)) = W := ⟨_, rfl⟩
    have hb9 := Bx.four (HP9.out).1 (.string nm) (.int .i64 s') (.int .i64 sp) (.slice (some ⟨g17, 0, none⟩) ys.length k17)
    have hl9 : Below w.heap.size w ((((w9.setCell ⟨w.heap.size + 1, 0, none⟩ (.string nm)).setCell ⟨w.heap.size + 1, 1, none⟩ (.int .i64 s')).setCell ⟨w.heap.size + 1, 2, none⟩ (.int .i64 sp)).setCell ⟨w.heap.size + 1, 3, none⟩ (.slice (some ⟨g17, 0, none⟩) ys.length k17)) := ((((HBW.out).setCell (by first | (simp; done) | (simp; omega) | omega) _).setCell (by first | (simp; done) | (simp; omega) | omega) _).setCell (by first | (simp; done) | (simp; omega) | omega) _).setCell (by first | (simp; done) | (simp; omega) | omega) _
    rw [hW9] at hb9 hl9
    have p0 := hb9.c 0 rfl
    have p1 := hb9.c 1 rfl
    have p2 := hb9.c 2 rfl
    have p3 := hb9.c 3 rfl
    have HL9 := Lib.hid hl9
    clear hb9 hl9
    rw [hW9] at H6
    try rw [hW9]
    clear hW9 q0 q1 q2 q3 f0 f1 f2 f3 d0 d1 d2 d3
    refine bodyPost_ret (v := .tuple #[.agg #[.string nm, .int .i64 s', .int .i64 sp, .slice (some ⟨g17, 0, none⟩) ys.length k17], .bool true]) (by first | (simp [results, Try.results41, go_sem, p0, p1, p2, p3]; done) | (simp [results, Try.results41, go_sem, p0, p1, p2, p3]; rfl)) rfl ?_
    rw [HR.out]
    exact ⟨some ⟨g17, 0, none⟩, k17, rfl, HL9.out, (FRow.mk H6.out).mono HB.out.size (Nat.le_refl _) (Nat.le_refl _)⟩

end Go.Proofs.Ytdmcjloaommnpaa
