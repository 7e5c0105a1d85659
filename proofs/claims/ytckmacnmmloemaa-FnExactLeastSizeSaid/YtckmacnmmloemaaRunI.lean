/- A run of days: the program. -/
import Derived.Test.YtckmacnmmloemaaRunV
import Derived.Test.YtckmacnmmloemaaSsP
import Derived.Test.YtckmacnmmloemaaAllS
import Derived.Test.YtckmacnmmloemaaDayD
import Derived.Test.YtckmacnmmloemaaValRI
import Derived.Test.YtckmacnmmloemaaDayI
import Derived.Test.YtckmacnmmloemaaOrdI
import Derived.Test.YtckmacnmmloemaaSetV
import Derived.Test.YtckmacnmmloemaaDayP
import Derived.Deep.Cut
import Derived.StillTailTactics
namespace Go.Proofs.Ytckmacnmmloemaa
open Go.RowKit
set_option linter.unusedVariables false
set_option linter.unusedSimpArgs false
set_option maxRecDepth 100000
attribute [local irreducible] wpV wpList Code.wp

structure RunR where
  n : Nat
  D : List Int
  M : List Int
  V : List Int
  G : List (List Int)
  S : List Int
  ok : Bool
def failN : RunR := ⟨0, [], [], [], [], [], false⟩
def runR (D M V : List Int) (n : Nat) (Zs : List (List Int)) : RunR := if rivB D M V n && decide (Zs.length ≤ 64) && daysB Zs n then ⟨n, D, (runTo D M V Zs n Zs.length).M, V, (runTo D M V Zs n Zs.length).G, (runTo D M V Zs n Zs.length).S, true⟩ else failN
theorem runR_len {D M V : List Int} {n : Nat} {Zs : List (List Int)} (hM : M.length = n * 4) : ((runR D M V n Zs).D.length ≤ 12 ∧ (runR D M V n Zs).n ≤ 12 ∧ (runR D M V n Zs).V.length ≤ 12) ∧ (runR D M V n Zs).G.length ≤ 64 ∧ (runR D M V n Zs).S.length ≤ 64 ∧ ∀ k, k < (runR D M V n Zs).G.length → (zr (runR D M V n Zs).G k).length ≤ 12 := by
  unfold runR
  cases h : (rivB D M V n && decide (Zs.length ≤ 64) && daysB Zs n)
  · exact ⟨⟨Nat.zero_le _, Nat.zero_le _, Nat.zero_le _⟩, Nat.zero_le _, Nat.zero_le _, fun k hk => by simp [failN] at hk⟩
  · rw [Bool.and_eq_true, Bool.and_eq_true, decide_eq_true_eq] at h
    have h1 := (rivB_true h.1.1).1
    obtain ⟨h2, h3, h4, h5⟩ := runTo_len (D := D) (V := V) (Zs := Zs) hM Zs.length (fun j hj => (daysB_at h.2 hj).1)
    refine ⟨⟨?_, ?_, ?_⟩, ?_, ?_, fun k hk => ?_⟩
    · show D.length ≤ 12; omega
    · show n ≤ 12; omega
    · show V.length ≤ 12; omega
    · show (runTo D M V Zs n Zs.length).G.length ≤ 64; omega
    · show (runTo D M V Zs n Zs.length).S.length ≤ 64; omega
    · have h6 : k < (runTo D M V Zs n Zs.length).G.length := hk
      have h7 := h5 k (by omega)
      show (zr (runTo D M V Zs n Zs.length).G k).length ≤ 12
      omega
def RunAt (R : RunR) (w w' : World) (lo hi : Nat) (L : Lay) (p0 p1 p2 : Option Addr) (q0 q1 q2 x1 x2 x3 x4 l2 u2 : Nat) (sa za : Option Addr) (sc zc : Nat) : Prop :=
  Below w.heap.size w w' ∧ RivAt w' lo hi L p0 p1 p2 q0 q1 q2 R.n R.D R.M R.V ∧ w.heap.size ≤ lo ∧ HSS w' x1 x2 x3 x4 (.slice sa R.G.length sc) R.G.length R.G ∧ HRow w' 2 1 l2 u2 (.slice za R.S.length zc) R.S.length (ic R.S) ∧ lo ≤ hi ∧ hi ≤ x1 ∧ hi ≤ l2 ∧ (x2 ≤ l2 ∨ u2 ≤ x1) ∧ x2 ≤ x3 ∧ u2 ≤ x3 ∧ x1 ≤ x2 ∧ l2 ≤ u2
def RunP (R : RunR) (w : World) (e : Ending) (w' : World) : Prop :=
  ∃ lo hi L p0 p1 p2 q0 q1 q2 x1 x2 x3 x4 l2 u2 sa za sc zc, e = .returned (.agg #[.slice p0 R.D.length q0, .slice p1 R.n q1, .slice p2 R.V.length q2, .slice sa R.G.length sc, .slice za R.S.length zc, .bool R.ok]) ∧ RunAt R w w' lo hi L p0 p1 p2 q0 q1 q2 x1 x2 x3 x4 l2 u2 sa za sc zc
theorem HRow.nil2 (w : World) (e : TypeId) (s b : Nat) (h : b ≤ w.heap.size) : HRow w e s b b (.slice none 0 0) 0 [] := ⟨World.ownsRow_nil w b e s, fun k hk => (by cases hk), h⟩
theorem RunP.no {w w' : World} (hb : Below w.heap.size w w') : RunP failN w (.returned (.agg #[.slice none 0 0, .slice none 0 0, .slice none 0 0, .slice none 0 0, .slice none 0 0, .bool false])) w' := by
  have hz := hb.size
  exact ⟨w'.heap.size, w'.heap.size, ⟨w'.heap.size, w'.heap.size, w'.heap.size, w'.heap.size, w'.heap.size, w'.heap.size⟩, none, none, none, 0, 0, 0, w'.heap.size, w'.heap.size, w'.heap.size, w'.heap.size, w'.heap.size, w'.heap.size, none, none, 0, 0, rfl, hb, ⟨HRow.nil _ _ _ _, HRow.nil _ _ _ _, HRow.nil _ _ _ _, ⟨.inl (Nat.le_refl _), .inl (Nat.le_refl _), .inl (Nat.le_refl _), ⟨Nat.le_refl _, Nat.le_refl _⟩, ⟨Nat.le_refl _, Nat.le_refl _⟩, ⟨Nat.le_refl _, Nat.le_refl _⟩⟩, Nat.le_refl _⟩, hz, HSS.nil _ _ _, HRow.nil _ _ _ _, Nat.le_refl _, Nat.le_refl _, Nat.le_refl _, .inl (Nat.le_refl _), Nat.le_refl _, Nat.le_refl _, Nat.le_refl _, Nat.le_refl _⟩
theorem riv_lay {w : World} {lo t f0 f1 f2 n d0 d1 d2 : Nat} {D M V : List Int} (r0 : w.ownsRow lo 2 1 (.slice (some ⟨f0, 0, none⟩) n d0) n (ic D)) (r1 : w.ownsRow lo 98 4 (.slice (some ⟨f1, 0, none⟩) n d1) n (ic M)) (r2 : w.ownsRow lo 2 1 (.slice (some ⟨f2, 0, none⟩) n d2) n (ic V)) (n01 : f0 ≠ f1) (n02 : f0 ≠ f2) (n12 : f1 ≠ f2) (h0 : f0 < t) (h1 : f1 < t) (h2 : f2 < t) (ht : t ≤ w.heap.size) (e0 : D.length = n) (e2 : V.length = n) :
    RivAt w lo t ⟨f0, f0 + 1, f1, f1 + 1, f2, f2 + 1⟩ (some ⟨f0, 0, none⟩) (some ⟨f1, 0, none⟩) (some ⟨f2, 0, none⟩) d0 d1 d2 n D M V := by
  have q0 := r0.lt f0 rfl
  have q1 := r1.lt f1 rfl
  have q2 := r2.lt f2 rfl
  have s0 := HRow.one r0
  have s2 := HRow.one r2
  refine ⟨?_, HRow.one r1, ?_, ⟨by show f0 + 1 ≤ f1 ∨ f1 + 1 ≤ f0; omega, by show f0 + 1 ≤ f2 ∨ f2 + 1 ≤ f0; omega, by show f1 + 1 ≤ f2 ∨ f2 + 1 ≤ f1; omega, ⟨q0.1, h0⟩, ⟨q1.1, h1⟩, ⟨q2.1, h2⟩⟩, ht⟩
  · rw [e0]; exact s0
  · rw [e2]; exact s2
def padZ (S : List Int) (len : Nat) : List Int := S ++ List.replicate (len - S.length) 0
theorem padZ_length {S : List Int} {len : Nat} (h : S.length ≤ len) : (padZ S len).length = len := by simp [padZ]; omega
theorem padZ_set {S : List Int} {len k : Nat} (hk : S.length = k) (h : k < len) (x : Int) : (padZ S len).set k x = padZ (S ++ [x]) len := by
  unfold padZ
  rw [List.set_append_right _ _ (by omega), hk, Nat.sub_self, show len - k = (len - (k + 1)) + 1 by omega, List.replicate_succ, List.set_cons_zero, List.length_append, hk, List.append_assoc]
  rfl
theorem padZ_zero {S : List Int} {len k : Nat} (hk : S.length = k) (h : k < len) : (padZ S len).set k 0 = padZ S len := by
  unfold padZ
  rw [List.set_append_right _ _ (by omega), hk, Nat.sub_self, show len - k = (len - (k + 1)) + 1 by omega, List.replicate_succ, List.set_cons_zero]
theorem padZ_all {S : List Int} {len : Nat} (h : S.length = len) : padZ S len = S := by unfold padZ; rw [h, Nat.sub_self]; simp
def padS (G : List (List Int)) (len : Nat) : List (List Int) := G ++ List.replicate (len - G.length) []
theorem padS_set {G : List (List Int)} {len k : Nat} (hk : G.length = k) (h : k < len) (x : List Int) : (padS G len).set k x = padS (G ++ [x]) len := by
  unfold padS
  rw [List.set_append_right _ _ (by omega), hk, Nat.sub_self, show len - k = (len - (k + 1)) + 1 by omega, List.replicate_succ, List.set_cons_zero, List.length_append, hk, List.append_assoc]
  rfl
theorem padS_all {G : List (List Int)} {len : Nat} (h : G.length = len) : padS G len = G := by unfold padS; rw [h, Nat.sub_self]; simp
theorem MadeSS.blank2 {w : World} {lo g n lo2 : Nat} (h : w.ownsRow lo 22 1 (.slice (some ⟨g, 0, none⟩) n n) n (List.replicate n (.slice none 0 0))) : MadeSS w g (g + 1) lo2 w.heap.size (.slice (some ⟨g, 0, none⟩) n n) n (padS [] n) (List.replicate n (.slice none 0 0)) := by
  have h9 := MadeSS.blank h
  have e : padS [] n = List.replicate n [] := by unfold padS; simp
  rw [e]
  exact ⟨h9.out, h9.len, fun k hk => by
    have hs := zr_rep n k
    rw [hs, List.getElem?_replicate, if_pos hk]
    exact ⟨none, 0, rfl, HRow.nil _ _ _ _⟩, h9.far, h9.apart, Nat.le_refl _⟩
theorem MadeSS.put9 {w : World} {p q lo hi hi' g c n k lk : Nat} {Zs : List (List Int)} {S : List Value} (h : MadeSS w p q lo hi (.slice (some ⟨g, 0, none⟩) n c) n Zs S) (hk : k < n) {ak : Option Addr} {ck : Nat} {z : List Int} (hz : z.length = lk) (hr : HRow w 2 1 hi hi' (.slice ak lk ck) lk (ic z)) (hh : hi ≤ hi') (hqh : q ≤ hi) (hlo : lo ≤ hi) :
    MadeSS (w.setCell ⟨g, k, none⟩ (.slice ak lk ck)) p q lo hi' (.slice (some ⟨g, 0, none⟩) n c) n (Zs.set k z) (S.set k (.slice ak lk ck)) := by
  subst hz
  exact h.put hk hr hh hqh hlo
set_option maxHeartbeats 2000000 in
theorem runClo (a0 a1 a2 ak : Option Addr) (l0 l1 l2 c0 c1 c2 lk ck pc : Nat) (z : List Int) (w : World) (hr : RowC w ak (ic z)) (hz : z.length = lk) (hl : lk ≤ 1048576) (hl0 : l0 ≤ 1048576) (hc : Bx w pc [.slice a0 l0 c0, .slice a1 l1 c1, .slice a2 l2 c2]) :
    Calls Try.prog 107 #[.slice ak lk ck, .pointer (some ⟨pc, 0, none⟩)] w (SayB (inflB z lk l0) w) := by
  have HC := Lib.hid (isDayOf_any a0 a1 a2 ak l0 l1 l2 c0 c1 c2 lk ck z w hr hz hl hl0)
  have x0 := hc.c 0 rfl
  have x1 := hc.c 1 rfl
  have x2 := hc.c 2 rfl
  clear hr hz hc
  go_enter Try.func107, Try.ntmps107
  go_wp2_with fail
  refine HC.out.mono ?_
  rintro e w' ⟨rfl, hb⟩
  have HB := Lib.hid hb
  clear hb x0 x1 x2
  go_wp2_with fail
  go_ret
  exact ⟨_, rfl, rfl, HB.out⟩

structure runIS (w0 : World) (t0_ t1_ t2_ t3_ t4_ t5_ t8_ t9_ t10_ t11_ t12_ t13_ t14_ t15_ t16_ t17_ t18_ t19_ t20_ t21_ t22_ t23_ t24_ t25_ t26_ t27_ t28_ t29_ t30_ t31_ t32_ t39_ t40_ t41_ t42_ t43_ t44_ t45_ t46_ t47_ t48_ t49_ t50_ t51_ t52_ t53_ t54_ t55_ t56_ t57_ t58_ t59_ t60_ t61_ t62_ t63_ t64_ t65_ t66_ t67_ t68_ t69_ t70_ t71_ t72_ t73_ t74_ t75_ t76_ t77_ t78_ t79_ t80_ t81_ t82_ t83_ t84_ t85_ : Value) (sa : Option Addr) (len sc : Nat) (d : Array Bool) (a : Act) (w9 : World) where
  u6 : Value
  u7 : Value
  u33 : Value
  u34 : Value
  u35 : Value
  u36 : Value
  u37 : Value
  u38 : Value
  g2 : Nat
  g5 : Nat
  ea : a = ⟨#[t0_, t1_, t2_, t3_, t4_, t5_, u6, u7, t8_, t9_, t10_, t11_, t12_, t13_, t14_, t15_, t16_, t17_, t18_, t19_, t20_, t21_, t22_, t23_, t24_, t25_, t26_, t27_, t28_, t29_, t30_, t31_, t32_, u33, u34, u35, u36, u37, u38, t39_, t40_, t41_, t42_, t43_, t44_, t45_, t46_, t47_, t48_, t49_, t50_, t51_, t52_, t53_, t54_, t55_, t56_, t57_, t58_, t59_, t60_, t61_, t62_, t63_, t64_, t65_, t66_, t67_, t68_, t69_, t70_, t71_, t72_, t73_, t74_, t75_, t76_, t77_, t78_, t79_, t80_, t81_, t82_, t83_, t84_, t85_], []⟩
  f0 : Gd d 0 (u33 = .slice sa len sc)
  f1 : Gd d 1 (u34 = .int .i64 (len : Int))
  f2 : Gd d 2 (u35 = .slice (some ⟨g2, 0, none⟩) len len)
  f3 : Gd d 3 (u36 = .slice sa len sc)
  f4 : Gd d 4 (u37 = .int .i64 (len : Int))
  f5 : Gd d 5 (u38 = .slice (some ⟨g5, 0, none⟩) len len)
  f6 : Gd d 6 (u6 = .slice (some ⟨g2, 0, none⟩) len len)
  f7 : Gd d 7 (u7 = .slice (some ⟨g5, 0, none⟩) len len)
  r2 : Gd d 2 (w9.ownsRow w0.heap.size 22 1 (.slice (some ⟨g2, 0, none⟩) len len) len (List.replicate len (.slice none 0 0)))
  r5 : Gd d 5 (w9.ownsRow w0.heap.size 2 1 (.slice (some ⟨g5, 0, none⟩) len len) len (List.replicate len (.int .i64 0)))
  n2_5 : Gd d 2 (Gd d 5 (g2 ≠ g5))
  hbel : Below w0.heap.size w0 w9
def runI (w0 : World) (t0_ t1_ t2_ t3_ t4_ t5_ t8_ t9_ t10_ t11_ t12_ t13_ t14_ t15_ t16_ t17_ t18_ t19_ t20_ t21_ t22_ t23_ t24_ t25_ t26_ t27_ t28_ t29_ t30_ t31_ t32_ t39_ t40_ t41_ t42_ t43_ t44_ t45_ t46_ t47_ t48_ t49_ t50_ t51_ t52_ t53_ t54_ t55_ t56_ t57_ t58_ t59_ t60_ t61_ t62_ t63_ t64_ t65_ t66_ t67_ t68_ t69_ t70_ t71_ t72_ t73_ t74_ t75_ t76_ t77_ t78_ t79_ t80_ t81_ t82_ t83_ t84_ t85_ : Value) (sa : Option Addr) (len sc : Nat) (d : Array Bool) (a : Act) (w9 : World) : Prop := Nonempty (runIS w0 t0_ t1_ t2_ t3_ t4_ t5_ t8_ t9_ t10_ t11_ t12_ t13_ t14_ t15_ t16_ t17_ t18_ t19_ t20_ t21_ t22_ t23_ t24_ t25_ t26_ t27_ t28_ t29_ t30_ t31_ t32_ t39_ t40_ t41_ t42_ t43_ t44_ t45_ t46_ t47_ t48_ t49_ t50_ t51_ t52_ t53_ t54_ t55_ t56_ t57_ t58_ t59_ t60_ t61_ t62_ t63_ t64_ t65_ t66_ t67_ t68_ t69_ t70_ t71_ t72_ t73_ t74_ t75_ t76_ t77_ t78_ t79_ t80_ t81_ t82_ t83_ t84_ t85_ sa len sc d a w9)

set_option maxHeartbeats 64000000 in
theorem runOf_any (a0 a1 a2 sa : Option Addr) (l0 n l2 c0 c1 c2 len sc : Nat) (D M V : List Int) (Zs : List (List Int)) (w : World) (h0 : RowC w a0 (ic D)) (h1 : RowC w a1 (ic M)) (h2 : RowC w a2 (ic V)) (hD : D.length = l0) (hM : M.length = n * 4) (hV : V.length = l2) (hl : l0 ≤ 1048576 ∧ n ≤ 1048576 ∧ l2 ≤ 1048576) (h : RowSS w sa Zs) (hlen : Zs.length = len) (hrl : ∀ k, k < len → (zr Zs k).length ≤ 1048576) :
    Calls Try.prog 65 #[.agg #[.slice a0 l0 c0, .slice a1 n c1, .slice a2 l2 c2], .slice sa len sc] w (RunP (runR D M V n Zs) w) := by
  obtain ⟨R, hR⟩ : ∃ R, runR D M V n Zs = R := ⟨_, rfl⟩
  rw [hR]
  have HR := Lib.hid hR
  clear hR
  have HD := Lib.hid hD
  have HM := Lib.hid hM
  have HVl := Lib.hid hV
  have HL := Lib.hid hl
  have H0 := Lib.hid h0
  have H1 := Lib.hid h1
  have H2 := Lib.hid h2
  have H := Lib.hid h
  have Hlen := Lib.hid hlen
  have Hrl := Lib.hid hrl
  obtain ⟨bb, hbb⟩ : ∃ b, rivB D M V n = b := ⟨_, rfl⟩
  have HBB := Lib.hid hbb
  have hmf : ∀ (fn : Fn) (first cap : Array Value) (w : World), (Instr.makeFunc fn first cap).run Try.prog w = .ok (.func fn first cap) w := fun _ _ _ _ => rfl
  go_enter Try.func65, Try.ntmps65
  go_upto_region 1 with fail
  generalize hW1 : World.alloc (World.alloc w _) _ = W1
  have HB1 : Hid (Below w.heap.size w W1) := Lib.hid (by rw [← hW1]; exact below2 w _ _)
  have HX1 : Hid (Bw W1 w.heap.size [.slice a0 l0 c0, .slice a1 n c1, .slice a2 l2 c2]) := Lib.hid (by rw [← hW1]; exact (Bw.new w [.slice a0 l0 c0, .slice a1 n c1, .slice a2 l2 c2] _).alloc _)
  have HP1 : Hid (Bw W1 (w.heap.size + 1) [.slice none 0 0, .slice none 0 0, .slice none 0 0, .slice none 0 0, .slice none 0 0, .bool false]) := Lib.hid (by rw [← hW1]; exact Bw.new1G w _ [.slice none 0 0, .slice none 0 0, .slice none 0 0, .slice none 0 0, .slice none 0 0, .bool false] _)
  have HS1 : Hid (W1.heap.size = w.heap.size + 2) := Lib.hid (by rw [← hW1]; simp)
  clear hW1
  have HC := Lib.hid (validRiver_i a0 a1 a2 l0 n l2 c0 c1 c2 D M V W1 (h0.below HB1.out (Nat.le_refl _)) (h1.below HB1.out (Nat.le_refl _)) (h2.below HB1.out (Nat.le_refl _)) hD hM hV hl)
  rw [hbb] at HC
  clear h0 h1 h2 hD hM hV hbb h hlen hrl
  have x0 := HX1.out.c 0 rfl
  have x1 := HX1.out.c 1 rfl
  have x2 := HX1.out.c 2 rfl
  go_wp2_with fail
  refine HC.out.mono ?_
  rintro e w2 ⟨b9, hb9, rfl, hb⟩
  subst hb9
  clear HC x0 x1 x2
  have HB2 : Hid (Below w.heap.size w w2) := Lib.hid (HB1.out.trans (hb.mono HB1.out.size))
  have HX2 := Lib.hid (HX1.out.below hb HX1.out.1.1)
  have HP2 := Lib.hid (HP1.out.below hb HP1.out.1.1)
  have HS2 : Hid (w.heap.size + 2 ≤ w2.heap.size) := Lib.hid (by have h9 := hb.size; have h8 := HS1.out; omega)
  clear hb HB1 HX1 HP1 HS1
  cases bb
  · have q0 := HP2.out.c 0 rfl
    have q1 := HP2.out.c 1 rfl
    have q2 := HP2.out.c 2 rfl
    have q3 := HP2.out.c 3 rfl
    have q4 := HP2.out.c 4 rfl
    have q5 := HP2.out.c 5 rfl
    have f0 := HP2.out.f 0 (by simp)
    have f1 := HP2.out.f 1 (by simp)
    have f2 := HP2.out.f 2 (by simp)
    have f3 := HP2.out.f 3 (by simp)
    have f4 := HP2.out.f 4 (by simp)
    have f5 := HP2.out.f 5 (by simp)
    have hv : R = failN := by rw [← HR.out]; unfold runR; rw [HBB.out]; rfl
    have HV := Lib.hid hv
    clear hv
    go_wp2_with fail
    rw [HV.out]
    exact bodyPost_ret (v := .agg #[.slice none 0 0, .slice none 0 0, .slice none 0 0, .slice none 0 0, .slice none 0 0, .bool false]) (by first | (simp [results, Try.results65, go_sem, *]; done) | (simp (maxDischargeDepth := 12) [results, Try.results65, go_sem, *]; done) | (simp (maxDischargeDepth := 12) [results, Try.results65, go_sem, *]; rfl)) rfl (RunP.no ((((((HB2.out.setCell (p := ⟨w.heap.size + 1, 0, none⟩) (by show w.heap.size ≤ w.heap.size + 1; omega) _).setCell (p := ⟨w.heap.size + 1, 1, none⟩) (by show w.heap.size ≤ w.heap.size + 1; omega) _).setCell (p := ⟨w.heap.size + 1, 2, none⟩) (by show w.heap.size ≤ w.heap.size + 1; omega) _).setCell (p := ⟨w.heap.size + 1, 3, none⟩) (by show w.heap.size ≤ w.heap.size + 1; omega) _).setCell (p := ⟨w.heap.size + 1, 4, none⟩) (by show w.heap.size ≤ w.heap.size + 1; omega) _).setCell (p := ⟨w.heap.size + 1, 5, none⟩) (by show w.heap.size ≤ w.heap.size + 1; omega) _))
  · have HT := Lib.hid (rivB_true HBB.out)
    have h0n : l0 = n := by have h7 := HT.out.1; have h8 := HD.out; omega
    have h2n : l2 = n := by have h7 := HT.out.1; have h8 := HVl.out; omega
    have hn12 : n ≤ 12 := by have h7 := HT.out.1; omega
    have hn1 : 0 < n := by have h7 := HT.out.1; omega
    by_cases h64 : 64 < len
    · have h64i : (64 : Int) < (len : Int) := by omega
      have q0 := HP2.out.c 0 rfl
      have q1 := HP2.out.c 1 rfl
      have q2 := HP2.out.c 2 rfl
      have q3 := HP2.out.c 3 rfl
      have q4 := HP2.out.c 4 rfl
      have q5 := HP2.out.c 5 rfl
      have f0 := HP2.out.f 0 (by simp)
      have f1 := HP2.out.f 1 (by simp)
      have f2 := HP2.out.f 2 (by simp)
      have f3 := HP2.out.f 3 (by simp)
      have f4 := HP2.out.f 4 (by simp)
      have f5 := HP2.out.f 5 (by simp)
      have hv : R = failN := by rw [← HR.out]; unfold runR; rw [Hlen.out, decide_eq_false (show ¬ len ≤ 64 by omega)]; simp
      have HV := Lib.hid hv
      clear hv
      go_wp2_with fail
      rw [HV.out]
      exact bodyPost_ret (v := .agg #[.slice none 0 0, .slice none 0 0, .slice none 0 0, .slice none 0 0, .slice none 0 0, .bool false]) (by first | (simp [results, Try.results65, go_sem, *]; done) | (simp (maxDischargeDepth := 12) [results, Try.results65, go_sem, *]; done) | (simp (maxDischargeDepth := 12) [results, Try.results65, go_sem, *]; rfl)) rfl (RunP.no ((((((HB2.out.setCell (p := ⟨w.heap.size + 1, 0, none⟩) (by show w.heap.size ≤ w.heap.size + 1; omega) _).setCell (p := ⟨w.heap.size + 1, 1, none⟩) (by show w.heap.size ≤ w.heap.size + 1; omega) _).setCell (p := ⟨w.heap.size + 1, 2, none⟩) (by show w.heap.size ≤ w.heap.size + 1; omega) _).setCell (p := ⟨w.heap.size + 1, 3, none⟩) (by show w.heap.size ≤ w.heap.size + 1; omega) _).setCell (p := ⟨w.heap.size + 1, 4, none⟩) (by show w.heap.size ≤ w.heap.size + 1; omega) _).setCell (p := ⟨w.heap.size + 1, 5, none⟩) (by show w.heap.size ≤ w.heap.size + 1; omega) _))
    have h64i : ¬ (64 : Int) < (len : Int) := by omega
    obtain ⟨bd, hbd⟩ : ∃ b, daysB Zs n = b := ⟨_, rfl⟩
    have HBD := Lib.hid hbd
    have HAl : Hid (Calls Try.prog 89 #[.slice sa len sc, .func (.func 107) #[] #[.pointer (some ⟨w.heap.size, 0, none⟩)]] w2 fun e w' => e = .returned (.bool bd) ∧ Below w2.heap.size w2 w') := Lib.hid ((allOfS 107 #[.pointer (some ⟨w.heap.size, 0, none⟩)] (fun k => inflB (zr Zs k) (zr Zs k).length l0) (enters_of Try.func107 (by kernel_rfl) rfl) sa len sc Zs w2 (fun k hk W hW ak ck hr => runClo a0 a1 a2 ak l0 n l2 c0 c1 c2 (zr Zs k).length ck w.heap.size (zr Zs k) W hr rfl (Hrl.out k hk) HL.out.1 (HX2.out.below hW HX2.out.1.1).1) (H.out.below HB2.out (Nat.le_refl _)) Hlen.out (by omega)).mono (by rintro e w' ⟨b9, h1, rfl, h3⟩; exact ⟨by rw [← h1, ← hbd, ← Hlen.out, h0n]; rfl, h3⟩))
    clear hbd
    have x0 := HX2.out.c 0 rfl
    have x1 := HX2.out.c 1 rfl
    have x2 := HX2.out.c 2 rfl
    go_wp2_with fail
    refine HAl.out.mono ?_
    rintro e w3 ⟨rfl, hb⟩
    clear HAl x0 x1 x2
    have HB3 : Hid (Below w.heap.size w w3) := Lib.hid (HB2.out.trans (hb.mono HB2.out.size))
    have HX3 := Lib.hid (HX2.out.below hb HX2.out.1.1)
    have HP3 := Lib.hid (HP2.out.below hb HP2.out.1.1)
    have HS3 : Hid (w.heap.size + 2 ≤ w3.heap.size) := Lib.hid (by have h9 := hb.size; have h8 := HS2.out; omega)
    clear hb HB2 HX2 HP2 HS2
    cases bd
    · have q0 := HP3.out.c 0 rfl
      have q1 := HP3.out.c 1 rfl
      have q2 := HP3.out.c 2 rfl
      have q3 := HP3.out.c 3 rfl
      have q4 := HP3.out.c 4 rfl
      have q5 := HP3.out.c 5 rfl
      have f0 := HP3.out.f 0 (by simp)
      have f1 := HP3.out.f 1 (by simp)
      have f2 := HP3.out.f 2 (by simp)
      have f3 := HP3.out.f 3 (by simp)
      have f4 := HP3.out.f 4 (by simp)
      have f5 := HP3.out.f 5 (by simp)
      have hv : R = failN := by rw [← HR.out]; unfold runR; rw [HBB.out, HBD.out]; simp
      have HV := Lib.hid hv
      clear hv
      go_wp2_with fail
      rw [HV.out]
      exact bodyPost_ret (v := .agg #[.slice none 0 0, .slice none 0 0, .slice none 0 0, .slice none 0 0, .slice none 0 0, .bool false]) (by first | (simp [results, Try.results65, go_sem, *]; done) | (simp (maxDischargeDepth := 12) [results, Try.results65, go_sem, *]; done) | (simp (maxDischargeDepth := 12) [results, Try.results65, go_sem, *]; rfl)) rfl (RunP.no ((((((HB3.out.setCell (p := ⟨w.heap.size + 1, 0, none⟩) (by show w.heap.size ≤ w.heap.size + 1; omega) _).setCell (p := ⟨w.heap.size + 1, 1, none⟩) (by show w.heap.size ≤ w.heap.size + 1; omega) _).setCell (p := ⟨w.heap.size + 1, 2, none⟩) (by show w.heap.size ≤ w.heap.size + 1; omega) _).setCell (p := ⟨w.heap.size + 1, 3, none⟩) (by show w.heap.size ≤ w.heap.size + 1; omega) _).setCell (p := ⟨w.heap.size + 1, 4, none⟩) (by show w.heap.size ≤ w.heap.size + 1; omega) _).setCell (p := ⟨w.heap.size + 1, 5, none⟩) (by show w.heap.size ≤ w.heap.size + 1; omega) _))
    · have hnn : l0 = n ∧ l2 = n := ⟨h0n, h2n⟩
      obtain ⟨ba, oa, b1, o1, b3, o3, e0, e1, e2, hsrc⟩ := Src.of (n := n) (H0.out.below HB3.out (Nat.le_refl _)) (H1.out.below HB3.out (Nat.le_refl _)) (H2.out.below HB3.out (Nat.le_refl _)) (by rw [HD.out]; exact h0n) HM.out (by rw [HVl.out]; exact h2n) hn1 (by omega)
      subst e0; subst e1; subst e2
      have HDn : Hid (D.length = n) := Lib.hid (by rw [HD.out]; exact h0n)
      have HVn : Hid (V.length = n) := Lib.hid (by rw [HVl.out]; exact h2n)
      obtain rfl : n = l0 := h0n.symm
      obtain rfl : n = l2 := h2n.symm
      obtain ⟨O, hO⟩ : ∃ O, kahn D n = O := ⟨_, rfl⟩
      have hac : acycB D = true := by unfold acycB; rw [List.all_eq_true]; intro i hi; rw [decide_eq_true_eq]; exact HT.out.2.2 i (List.mem_range.1 hi)
      have HOl : Hid (O.length = n) := Lib.hid (by rw [← hO]; have h9 := kahn_full hac n (by rw [HDn.out]; exact Nat.le_refl _); exact h9)
      have HOt : Hid (∀ k, k < n → O.getD k 0 < n) := Lib.hid (fun k hk => by have h9 := kahn_at (D := D) (t := n) (k := k) (by rw [hO, HOl.out]; exact hk); rw [hO, HDn.out] at h9; exact h9)
      have HO := Lib.hid hO
      have hv : R = ⟨n, D, (runTo D M V Zs n len).M, V, (runTo D M V Zs n len).G, (runTo D M V Zs n len).S, true⟩ := by rw [← HR.out]; unfold runR; rw [HBB.out, HBD.out, Hlen.out, decide_eq_true (show len ≤ 64 by omega)]; rfl
      have HV := Lib.hid hv
      clear hv hac hO hnn h0n h2n
      have HOw := Lib.hid (ownRiver_any ba oa b1 o1 b3 o3 n c0 c1 c2 D M V w3 hsrc)
      clear hsrc
      have x0 := HX3.out.c 0 rfl
      have x1 := HX3.out.c 1 rfl
      have x2 := HX3.out.c 2 rfl
      go_wp2_with fail
      refine HOw.out.mono ?_
      rintro e w4 ⟨lo, f0, f1, f2, d0, d1, d2, rfl, r0, r1, r2, n01, n02, n12, hlo, hb⟩
      clear HOw x0 x1 x2
      have HB4 : Hid (Below w.heap.size w w4) := Lib.hid (HB3.out.trans (hb.mono HB3.out.size))
      have HX4 := Lib.hid (HX3.out.below hb HX3.out.1.1)
      have HP4 := Lib.hid (HP3.out.below hb HP3.out.1.1)
      have HNum : Hid (w.heap.size + 2 ≤ lo ∧ lo ≤ f0 ∧ lo ≤ f1 ∧ lo ≤ f2 ∧ f0 < w4.heap.size ∧ f1 < w4.heap.size ∧ f2 < w4.heap.size) := Lib.hid (by have k0 := r0.lt f0 rfl; have k1 := r1.lt f1 rfl; have k2 := r2.lt f2 rfl; have k5 := HS3.out; omega)
      have HNn : Hid (f0 ≠ f1 ∧ f0 ≠ f2 ∧ f1 ≠ f2) := Lib.hid ⟨n01, n02, n12⟩
      have HR0 := Lib.hid r0
      have HR1 := Lib.hid r1
      have HR2 := Lib.hid r2
      clear hb HB3 HX3 HP3 r0 r1 r2 n01 n02 n12 hlo HS3
      have y0 := HX4.out.c 0 rfl
      have y1 := HX4.out.c 1 rfl
      have y2 := HX4.out.c 2 rfl
      have z0 := HX4.out.f 0 (by simp)
      have z1 := HX4.out.f 1 (by simp)
      have z2 := HX4.out.f 2 (by simp)
      go_upto_region 5 with fail
      generalize hW5 : World.setCell _ _ _ = W5
      have hS5 : W5.heap.size = w4.heap.size := by rw [← hW5]; simp [setCell_size]
      have HX5 : Hid (Bw W5 w.heap.size [.slice (some ⟨f0, 0, none⟩) n d0, .slice (some ⟨f1, 0, none⟩) n d1, .slice (some ⟨f2, 0, none⟩) n d2]) := Lib.hid (by rw [← hW5]; exact (((HX4.out.put 0 (by simp) (.slice (some ⟨f0, 0, none⟩) n d0)).put 1 (by simp) (.slice (some ⟨f1, 0, none⟩) n d1)).put 2 (by simp) (.slice (some ⟨f2, 0, none⟩) n d2)))
      have HP5 : Hid (Bw W5 (w.heap.size + 1) [.slice none 0 0, .slice none 0 0, .slice none 0 0, .slice none 0 0, .slice none 0 0, .bool false]) := Lib.hid (by rw [← hW5]; exact (((HP4.out.setOther (p := ⟨w.heap.size, 0, none⟩) (by show w.heap.size ≠ w.heap.size + 1; omega) _).setOther (p := ⟨w.heap.size, 1, none⟩) (by show w.heap.size ≠ w.heap.size + 1; omega) _).setOther (p := ⟨w.heap.size, 2, none⟩) (by show w.heap.size ≠ w.heap.size + 1; omega) _))
      have HB5 : Hid (Below w.heap.size w W5) := Lib.hid (by rw [← hW5]; exact (((HB4.out.setCell (p := ⟨w.heap.size, 0, none⟩) (Nat.le_refl _) _).setCell (p := ⟨w.heap.size, 1, none⟩) (Nat.le_refl _) _).setCell (p := ⟨w.heap.size, 2, none⟩) (Nat.le_refl _) _))
      have HU0 : Hid (W5.ownsRow lo 2 1 (.slice (some ⟨f0, 0, none⟩) n d0) n (ic D)) := Lib.hid (by rw [← hW5]; exact (owns_far (owns_far (owns_far HR0.out (by have h9 := HNum.out; simp [Value.ownBlock]; omega) _) (by have h9 := HNum.out; simp [Value.ownBlock]; omega) _) (by have h9 := HNum.out; simp [Value.ownBlock]; omega) _))
      have HU1 : Hid (W5.ownsRow lo 98 4 (.slice (some ⟨f1, 0, none⟩) n d1) n (ic (M))) := Lib.hid (by rw [← hW5]; exact (owns_far (owns_far (owns_far HR1.out (by have h9 := HNum.out; simp [Value.ownBlock]; omega) _) (by have h9 := HNum.out; simp [Value.ownBlock]; omega) _) (by have h9 := HNum.out; simp [Value.ownBlock]; omega) _))
      have HU2 : Hid (W5.ownsRow lo 2 1 (.slice (some ⟨f2, 0, none⟩) n d2) n (ic V)) := Lib.hid (by rw [← hW5]; exact (owns_far (owns_far (owns_far HR2.out (by have h9 := HNum.out; simp [Value.ownBlock]; omega) _) (by have h9 := HNum.out; simp [Value.ownBlock]; omega) _) (by have h9 := HNum.out; simp [Value.ownBlock]; omega) _))
      have HM5 : Hid (f0 < W5.heap.size ∧ f1 < W5.heap.size ∧ f2 < W5.heap.size ∧ lo ≤ W5.heap.size) := Lib.hid (by rw [hS5]; have h9 := HNum.out; omega)
      clear hW5 hS5 HX4 HP4 HB4 HR0 HR1 HR2 y0 y1 y2 z0 z1 z2
      have hll : len ≤ 1048576 := by omega
      refine wp_region_inv (id := 5) (runI (W5) _ _ _ _ _ _ _ _ _ _ _ _ _ _ _ _ _ _ _ _ _ _ _ _ _ _ _ _ _ _ _ _ _ _ _ _ _ _ _ _ _ _ _ _ _ _ _ _ _ _ _ _ _ _ _ _ _ _ _ _ _ _ _ _ _ _ _ _ _ _ _ _ _ _ _ _ _ _ sa len sc) (by kernel_rfl) (by kernel_rfl) ⟨⟨_, _, _, _, _, _, _, _, 0, 0, rfl, .start, .start, .start, .start, .start, .start, .start, .start, .start, .start, .start, beld (Below.refl _ _) 1⟩⟩ ?hend1 ?hsteps1
      rotate_left
      case hsteps1 =>
        clear HX5 HP5 HB5 HU0 HU1 HU2 HM5
        refine .cons 1 rfl ?_ ?_
        · intro d a w9 hsz hcl hinv hd hdep
          obtain ⟨⟨u6, u7, u33, u34, u35, u36, u37, u38, g2, g5, rfl, f0, f1, f2, f3, f4, f5, f6, f7, r2, r5, n2_5, hbel⟩⟩ := hinv
          go_wp2_with fail
          exact ⟨⟨u6, u7, (.slice sa len sc), u34, u35, u36, u37, u38, g2, g5, rfl, Gd.new (by first | rfl | simp), (f1.keep (i := 0) (by decide)), (f2.keep (i := 0) (by decide)), (f3.keep (i := 0) (by decide)), (f4.keep (i := 0) (by decide)), (f5.keep (i := 0) (by decide)), (f6.keep (i := 0) (by decide)), (f7.keep (i := 0) (by decide)), (r2.keep (i := 0) (by decide)), (r5.keep (i := 0) (by decide)), (Gd.keep (i := 0) (n2_5.imp fun h => Gd.keep (i := 0) h (by decide)) (by decide)), hbel⟩⟩
        refine .cons 2 rfl ?_ ?_
        · intro d a w9 hsz hcl hinv hd hdep
          obtain ⟨⟨u6, u7, u33, u34, u35, u36, u37, u38, g2, g5, rfl, f0, f1, f2, f3, f4, f5, f6, f7, r2, r5, n2_5, hbel⟩⟩ := hinv
          have e0 := f0 (hdep.get 0 rfl)
          subst e0
          go_wp2_with fail
          exact ⟨⟨u6, u7, (.slice sa len sc), (.int .i64 (len : Int)), u35, u36, u37, u38, g2, g5, rfl, Gd.new rfl, Gd.new (by first | rfl | simp), (f2.keep (i := 1) (by decide)), (f3.keep (i := 1) (by decide)), (f4.keep (i := 1) (by decide)), (f5.keep (i := 1) (by decide)), (f6.keep (i := 1) (by decide)), (f7.keep (i := 1) (by decide)), (r2.keep (i := 1) (by decide)), (r5.keep (i := 1) (by decide)), (Gd.keep (i := 1) (n2_5.imp fun h => Gd.keep (i := 1) h (by decide)) (by decide)), hbel⟩⟩
        refine .cons 3 rfl ?_ ?_
        · intro d a w9 hsz hcl hinv hd hdep
          obtain ⟨⟨u6, u7, u33, u34, u35, u36, u37, u38, g2, g5, rfl, f0, f1, f2, f3, f4, f5, f6, f7, r2, r5, n2_5, hbel⟩⟩ := hinv
          have e1 := f1 (hdep.get 1 rfl)
          subst e1
          have nb6 := hcl.not hd 6 _ rfl rfl
          go_wp2_with (at_make; refine makeS rfl rfl _ _ rfl .i64 .i64 _ _ len rfl rfl rfl rfl hll (lo := W5.heap.size) hbel.size ?_)
          intro w8 hown hgrow
          go_wp2_with fail
          exact ⟨⟨u6, u7, u33, (.int .i64 (len : Int)), (.slice (some ⟨w9.heap.size, 0, none⟩) len len), u36, u37, u38, w9.heap.size, g5, rfl, (f0.keep (i := 2) (by decide)), Gd.new rfl, Gd.new (by first | rfl | simp), (f3.keep (i := 2) (by decide)), (f4.keep (i := 2) (by decide)), (f5.keep (i := 2) (by decide)), (Gd.undone (i := 2) nb6 (by decide)), (f7.keep (i := 2) (by decide)), Gd.new hown, ((r5.imp fun h => owns_made h hgrow).keep (i := 2) (by decide)), (fun _ hj => (by rw [set_ne (by decide)] at hj; have h9 := ((r5 hj).lt g5 rfl).2; omega)), (below_made hbel hgrow hbel.size)⟩⟩
        refine .cons 4 rfl ?_ ?_
        · intro d a w9 hsz hcl hinv hd hdep
          obtain ⟨⟨u6, u7, u33, u34, u35, u36, u37, u38, g2, g5, rfl, f0, f1, f2, f3, f4, f5, f6, f7, r2, r5, n2_5, hbel⟩⟩ := hinv
          go_wp2_with fail
          exact ⟨⟨u6, u7, u33, u34, u35, (.slice sa len sc), u37, u38, g2, g5, rfl, (f0.keep (i := 3) (by decide)), (f1.keep (i := 3) (by decide)), (f2.keep (i := 3) (by decide)), Gd.new (by first | rfl | simp), (f4.keep (i := 3) (by decide)), (f5.keep (i := 3) (by decide)), (f6.keep (i := 3) (by decide)), (f7.keep (i := 3) (by decide)), (r2.keep (i := 3) (by decide)), (r5.keep (i := 3) (by decide)), (Gd.keep (i := 3) (n2_5.imp fun h => Gd.keep (i := 3) h (by decide)) (by decide)), hbel⟩⟩
        refine .cons 5 rfl ?_ ?_
        · intro d a w9 hsz hcl hinv hd hdep
          obtain ⟨⟨u6, u7, u33, u34, u35, u36, u37, u38, g2, g5, rfl, f0, f1, f2, f3, f4, f5, f6, f7, r2, r5, n2_5, hbel⟩⟩ := hinv
          have e3 := f3 (hdep.get 3 rfl)
          subst e3
          go_wp2_with fail
          exact ⟨⟨u6, u7, u33, u34, u35, (.slice sa len sc), (.int .i64 (len : Int)), u38, g2, g5, rfl, (f0.keep (i := 4) (by decide)), (f1.keep (i := 4) (by decide)), (f2.keep (i := 4) (by decide)), Gd.new rfl, Gd.new (by first | rfl | simp), (f5.keep (i := 4) (by decide)), (f6.keep (i := 4) (by decide)), (f7.keep (i := 4) (by decide)), (r2.keep (i := 4) (by decide)), (r5.keep (i := 4) (by decide)), (Gd.keep (i := 4) (n2_5.imp fun h => Gd.keep (i := 4) h (by decide)) (by decide)), hbel⟩⟩
        refine .cons 6 rfl ?_ ?_
        · intro d a w9 hsz hcl hinv hd hdep
          obtain ⟨⟨u6, u7, u33, u34, u35, u36, u37, u38, g2, g5, rfl, f0, f1, f2, f3, f4, f5, f6, f7, r2, r5, n2_5, hbel⟩⟩ := hinv
          have e4 := f4 (hdep.get 4 rfl)
          subst e4
          have nb7 := hcl.not hd 7 _ rfl rfl
          go_wp2_with (at_make; refine makeZ rfl rfl _ _ rfl .i64 .i64 _ _ len rfl rfl rfl rfl hll (lo := W5.heap.size) hbel.size ?_)
          intro w8 hown hgrow
          go_wp2_with fail
          exact ⟨⟨u6, u7, u33, u34, u35, u36, (.int .i64 (len : Int)), (.slice (some ⟨w9.heap.size, 0, none⟩) len len), g2, w9.heap.size, rfl, (f0.keep (i := 5) (by decide)), (f1.keep (i := 5) (by decide)), (f2.keep (i := 5) (by decide)), (f3.keep (i := 5) (by decide)), Gd.new rfl, Gd.new (by first | rfl | simp), (f6.keep (i := 5) (by decide)), (Gd.undone (i := 5) nb7 (by decide)), ((r2.imp fun h => owns_made h hgrow).keep (i := 5) (by decide)), Gd.new hown, (fun hj _ => (by rw [set_ne (by decide)] at hj; have h9 := ((r2 hj).lt g2 rfl).2; omega)), (below_made hbel hgrow hbel.size)⟩⟩
        refine .cons 7 rfl ?_ ?_
        · intro d a w9 hsz hcl hinv hd hdep
          obtain ⟨⟨u6, u7, u33, u34, u35, u36, u37, u38, g2, g5, rfl, f0, f1, f2, f3, f4, f5, f6, f7, r2, r5, n2_5, hbel⟩⟩ := hinv
          have e2 := f2 (hdep.get 2 rfl)
          subst e2
          go_wp2_with fail
          exact ⟨⟨(.slice (some ⟨g2, 0, none⟩) len len), u7, u33, u34, (.slice (some ⟨g2, 0, none⟩) len len), u36, u37, u38, g2, g5, rfl, (f0.keep (i := 6) (by decide)), (f1.keep (i := 6) (by decide)), Gd.new rfl, (f3.keep (i := 6) (by decide)), (f4.keep (i := 6) (by decide)), (f5.keep (i := 6) (by decide)), Gd.new (by first | rfl | simp), (f7.keep (i := 6) (by decide)), (r2.keep (i := 6) (by decide)), (r5.keep (i := 6) (by decide)), (Gd.keep (i := 6) (n2_5.imp fun h => Gd.keep (i := 6) h (by decide)) (by decide)), hbel⟩⟩
        refine .cons 8 rfl ?_ trivial
        · intro d a w9 hsz hcl hinv hd hdep
          obtain ⟨⟨u6, u7, u33, u34, u35, u36, u37, u38, g2, g5, rfl, f0, f1, f2, f3, f4, f5, f6, f7, r2, r5, n2_5, hbel⟩⟩ := hinv
          have e5 := f5 (hdep.get 5 rfl)
          subst e5
          go_wp2_with fail
          exact ⟨⟨u6, (.slice (some ⟨g5, 0, none⟩) len len), u33, u34, u35, u36, u37, (.slice (some ⟨g5, 0, none⟩) len len), g2, g5, rfl, (f0.keep (i := 7) (by decide)), (f1.keep (i := 7) (by decide)), (f2.keep (i := 7) (by decide)), (f3.keep (i := 7) (by decide)), (f4.keep (i := 7) (by decide)), Gd.new rfl, (f6.keep (i := 7) (by decide)), Gd.new (by first | rfl | simp), (r2.keep (i := 7) (by decide)), (r5.keep (i := 7) (by decide)), (Gd.keep (i := 7) (n2_5.imp fun h => Gd.keep (i := 7) h (by decide)) (by decide)), hbel⟩⟩
      case hend1 =>
        intro d a w9 hinv hall
        obtain ⟨⟨u6, u7, u33, u34, u35, u36, u37, u38, g2, g5, rfl, f0, f1, f2, f3, f4, f5, f6, f7, r2, r5, n2_5, hbel⟩⟩ := hinv
        have e0 := f0 (hall 0 (by decide))
        have e1 := f1 (hall 1 (by decide))
        have e2 := f2 (hall 2 (by decide))
        have e3 := f3 (hall 3 (by decide))
        have e4 := f4 (hall 4 (by decide))
        have e5 := f5 (hall 5 (by decide))
        have e6 := f6 (hall 6 (by decide))
        have e7 := f7 (hall 7 (by decide))
        subst e0
        subst e1
        subst e2
        subst e3
        subst e4
        subst e5
        subst e6
        subst e7
        have R2 := Lib.hid (r2 (hall 2 (by decide)))
        have R5 := Lib.hid (r5 (hall 5 (by decide)))
        have N2_5 := Lib.hid (n2_5 (hall 2 (by decide)) (hall 5 (by decide)))
        have HBL := Lib.hid hbel
        clear f0 f1 f2 f3 f4 f5 f6 f7 r2 r5 n2_5 hbel
        have HX9 := Lib.hid (HX5.out.below HBL.out HX5.out.1.1)
        have HP9 := Lib.hid (HP5.out.below HBL.out HP5.out.1.1)
        have HB9 : Hid (Below w.heap.size w w9) := Lib.hid (HB5.out.trans (HBL.out.mono HB5.out.size))
        have HT0 := Lib.hid (owns_below HU0.out HBL.out (Nat.le_refl _))
        have HT1 := Lib.hid (owns_below HU1.out HBL.out (Nat.le_refl _))
        have HT2 := Lib.hid (owns_below HU2.out HBL.out (Nat.le_refl _))
        have HG9 : Hid (W5.heap.size ≤ g2 ∧ W5.heap.size ≤ g5 ∧ g2 ≠ g5 ∧ g2 < w9.heap.size ∧ g5 < w9.heap.size) := Lib.hid (by have k1 := R2.out.lt g2 rfl; have k2 := R5.out.lt g5 rfl; have k3 := N2_5.out; omega)
        obtain ⟨z5, hz5⟩ : ∃ z, W5.heap.size = z := ⟨_, rfl⟩
        rw [hz5] at HG9 HM5 R2 R5
        clear HX5 HP5 HB5 HU0 HU1 HU2 HBL N2_5 hz5
        have HOr := Lib.hid (orderOf_any (some ⟨f0, 0, none⟩) n d0 D w9 (owns_row HT0.out) HDn.out hn1 (by omega) (rivB_range HBB.out))
        rw [HO.out, HOl.out] at HOr
        have x0 := HX9.out.c 0 rfl
        go_wp2_with fail
        refine HOr.out.mono ?_
        rintro e w10 ⟨gO, eO, rfl, hrow, hb⟩
        clear HOr x0
        have HX10 := Lib.hid (HX9.out.below hb HX9.out.1.1)
        have HP10 := Lib.hid (HP9.out.below hb HP9.out.1.1)
        have HB10 : Hid (Below w.heap.size w w10) := Lib.hid (HB9.out.trans (hb.mono HB9.out.size))
        have HV0 := Lib.hid (owns_below HT0.out hb (Nat.le_refl _))
        have HV1 := Lib.hid (owns_below HT1.out hb (Nat.le_refl _))
        have HV2 := Lib.hid (owns_below HT2.out hb (Nat.le_refl _))
        have HK : Hid (w10.ownsRow lo 2 1 (.slice (some ⟨gO, 0, none⟩) n eO) n (ic (ints O))) := Lib.hid (owns_lo hrow (by have h9 := HG9.out; have h8 := HM5.out; omega))
        have HS10 : Hid (MadeSS w10 g2 (g2 + 1) w10.heap.size w10.heap.size (.slice (some ⟨g2, 0, none⟩) len len) len (padS [] len) (List.replicate len (.slice none 0 0))) := Lib.hid (MadeSS.blank2 (owns_below R2.out hb (Nat.le_refl _)))
        have HZ10 : Hid (w10.ownsRow lo 2 1 (.slice (some ⟨g5, 0, none⟩) len len) len (ic (padZ [] len))) := Lib.hid (by unfold padZ ic; rw [List.nil_append, List.length_nil, Nat.sub_zero, List.map_replicate]; exact owns_lo (owns_below R5.out hb (Nat.le_refl _)) HM5.out.2.2.2)
        obtain ⟨z0, hz0⟩ : ∃ z, w10.heap.size = z := ⟨_, rfl⟩
        have HG10 : Hid (z5 ≤ g2 ∧ z5 ≤ g5 ∧ g2 ≠ g5 ∧ g2 < z0 ∧ g5 < z0 ∧ z5 ≤ gO ∧ gO < z0 ∧ g2 ≠ gO ∧ g5 ≠ gO) := Lib.hid (by have k1 := hrow.lt gO rfl; have k2 := hb.size; have k3 := HG9.out; omega)
        have HSz : Hid (z0 ≤ w10.heap.size) := Lib.hid (by omega)
        rw [show MadeSS w10 g2 (g2 + 1) w10.heap.size = MadeSS w10 g2 (g2 + 1) z0 by rw [hz0]] at HS10
        clear hrow hb HX9 HP9 HB9 HT0 HT1 HT2 R2 R5 HG9 hz0
        go_wp2_with fail
        go_loopw [44] (fun iv wr => ∃ (k : Nat) (S : List Value), k ≤ len ∧ iv = .int .i64 (k : Int) ∧ Hid (MadeSS wr g2 (g2 + 1) z0 wr.heap.size (.slice (some ⟨g2, 0, none⟩) len len) len (padS (runTo D M V Zs n k).G len) S) ∧ Hid (wr.ownsRow lo 2 1 (.slice (some ⟨g5, 0, none⟩) len len) len (ic (padZ (runTo D M V Zs n k).S len))) ∧ Hid (wr.ownsRow lo 2 1 (.slice (some ⟨f0, 0, none⟩) n d0) n (ic D)) ∧ Hid (wr.ownsRow lo 98 4 (.slice (some ⟨f1, 0, none⟩) n d1) n (ic ((runTo D M V Zs n k).M))) ∧ Hid (wr.ownsRow lo 2 1 (.slice (some ⟨f2, 0, none⟩) n d2) n (ic V)) ∧ Hid (wr.ownsRow lo 2 1 (.slice (some ⟨gO, 0, none⟩) n eO) n (ic (ints O))) ∧ Hid (Bw wr w.heap.size [.slice (some ⟨f0, 0, none⟩) n d0, .slice (some ⟨f1, 0, none⟩) n d1, .slice (some ⟨f2, 0, none⟩) n d2]) ∧ Hid (Bw wr (w.heap.size + 1) [.slice none 0 0, .slice none 0 0, .slice none 0 0, .slice none 0 0, .slice none 0 0, .bool false]) ∧ Hid (Below w.heap.size w wr) ∧ Hid (z0 ≤ wr.heap.size)) (fun iv _ => len - (intOf iv).toNat)
        case atStart => exact ⟨0, _, Nat.zero_le _, rfl, HS10, HZ10, HV0, HV1, HV2, HK, HX10, HP10, HB10, HSz⟩
        case round =>
        clear HS10 HZ10 HV0 HV1 HV2 HK HX10 HP10 HB10 HSz
        obtain ⟨k, S, hk, rfl, RS, RZ, RQ0, RQ1, RQ2, RQO, RX, RP, RB, RH⟩ := hrel
        have hk0 : (0 : Int) ≤ (k : Int) := by omega
        by_cases hlt : k < len
        · have hk1 : (k : Int) < (len : Int) := by omega
          obtain ⟨b, off, rfl, hb, hc⟩ : ∃ b off, sa = some ⟨b, off, none⟩ ∧ b < wr.heap.size ∧ ∀ k, k < Zs.length → ∃ ak ck, wr.cell? ⟨b, off + k, none⟩ = some (.slice ak (zr Zs k).length ck) ∧ RowC wr ak (ic (zr Zs k)) := by
            rcases H.out.below RB.out (Nat.le_refl _) with h9 | h9
            · have h8 := Hlen.out; rw [h9, List.length_nil] at h8; omega
            · exact h9
          obtain ⟨ak, ck, hcell, hrow⟩ := hc k (by rw [Hlen.out]; exact hlt)
          have hdl := (daysB_at HBD.out (show k < Zs.length by rw [Hlen.out]; exact hlt)).1
          rw [hdl] at hcell
          obtain ⟨bi, oi, rfl, hbi, hci⟩ := hrow.cells (fun e => by rw [e, List.length_nil] at hdl; omega)
          have hrl9 := runTo_len (D := D) (V := V) (Zs := Zs) HM.out k (fun j hj => (daysB_at HBD.out (show j < Zs.length by rw [Hlen.out]; omega)).1)
          obtain ⟨Q, hQ⟩ : ∃ Q, runTo D M V Zs n k = Q := ⟨_, rfl⟩
          have hsucc : runTo D M V Zs n (k + 1) = ⟨(runDay D V n Q.M (zr Zs k)).M, Q.G ++ [(runDay D V n Q.M (zr Zs k)).G], Q.S ++ [seaTo D (runDay D V n Q.M (zr Zs k)).L n]⟩ := by rw [← hQ]; rfl
          rw [hQ] at RS RZ RQ1 hrl9
          obtain ⟨hq1, hq2, hq3, -⟩ := hrl9
          clear hQ
          have HDa := Lib.hid (passDay_any f0 f1 f2 gO n d0 d1 d2 eO bi oi ck lo D Q.M V (zr Zs k) O wr RQ0.out RQ1.out RQ2.out RQO.out ⟨HNn.out.1, fun e => HNn.out.2.2 e.symm, by have h9 := HNum.out; have h8 := HM5.out; have h7 := HG10.out; have h6 := RH.out; have h5 := HNn.out; omega⟩ hbi hci hdl HDn.out hq1 HVn.out HOl.out HOt.out hn1 hn12 (rivB_range HBB.out))
          obtain ⟨S9, hS9⟩ : ∃ S9, runDay D V n Q.M (zr Zs k) = S9 := ⟨_, rfl⟩
          unfold runDay at hS9
          rw [HO.out] at hS9
          rw [hS9] at HDa
          unfold runDay at hsucc
          rw [HO.out, hS9] at hsucc
          have Hsucc := Lib.hid hsucc
          have hLl : S9.L.length = n ∧ S9.G.length = n := by rw [← hS9]; have h8 := dayTo_len (D := D) (V := V) (O := O) hq1 hdl n; exact ⟨h8.2.2.2, h8.2.2.1⟩
          have HLl := Lib.hid hLl
          have HQ2 := Lib.hid hq2
          have HQ3 := Lib.hid hq3
          clear hsucc hS9 hc hrow hbi hci hdl hLl hq1 hq2 hq3
          have x0 := RX.out.c 0 rfl
          have x1 := RX.out.c 1 rfl
          have x2 := RX.out.c 2 rfl
          go_wp2_with fail
          refine HDa.out.mono ?_
          rintro e w6 ⟨h1, h2, rfl, q0, q1, q2, qO, qG, qL, ⟨m1, m2, nh⟩, hb, hfr⟩
          clear HDa hcell x0 x1 x2
          have hkf : Kept f1 (f1 + 1) wr w6 := ⟨hb.os, hb.tape, hb.output, hb.size, fun b hb1 hb2 => hfr b hb2 (by omega)⟩
          have RS6 := Lib.hid (RS.out.kept hkf (by have h9 := HNum.out; have h8 := HM5.out; have h7 := HG10.out; have h6 := RH.out; have h5 := HNn.out; omega))
          have RZ6 : Hid (w6.ownsRow lo 2 1 (.slice (some ⟨g5, 0, none⟩) len len) len (ic (padZ Q.S len))) := Lib.hid (ownsRow_sameG RZ.out fun b hb9 => hkf.block b (by have e9 : g5 = b := Option.some.inj hb9; have h9 := HNum.out; have h8 := HM5.out; have h7 := HG10.out; have h6 := RH.out; have h5 := HNn.out; omega) (RZ.out.lt b hb9).2)
          have RX6 := Lib.hid (RX.out.below hb (by have h9 := HNum.out; have h8 := HM5.out; have h7 := HG10.out; have h6 := RH.out; have h5 := HNn.out; omega))
          have RP6 := Lib.hid (RP.out.below hb (by have h9 := HNum.out; have h8 := HM5.out; have h7 := HG10.out; have h6 := RH.out; have h5 := HNn.out; omega))
          have RB6 : Hid (Below w.heap.size w w6) := Lib.hid (RB.out.trans (hb.mono (by have h9 := HNum.out; have h8 := HM5.out; have h7 := HG10.out; have h6 := RH.out; have h5 := HNn.out; omega)))
          have HF0 := Lib.hid q0
          have HF1 := Lib.hid q1
          have HF2 := Lib.hid q2
          have HFO := Lib.hid qO
          have HFG := Lib.hid qG
          have HFL := Lib.hid qL
          have HF9 : Hid (wr.heap.size ≤ h1 ∧ wr.heap.size ≤ h2 ∧ h1 ≠ h2 ∧ h1 < w6.heap.size ∧ h2 < w6.heap.size ∧ wr.heap.size ≤ w6.heap.size) := Lib.hid (by have k3 := qG.lt h1 rfl; have k4 := qL.lt h2 rfl; have k5 := hb.size; omega)
          obtain ⟨z6, hz6⟩ : ∃ z, wr.heap.size = z := ⟨_, rfl⟩
          rw [hz6] at HF9 RH RS6
          clear RS RZ RQ0 RQ1 RQ2 RQO RX RP RB q0 q1 q2 qO qG qL m1 m2 nh hb hfr hkf hz6
          have hrr : HRow w6 2 1 z6 w6.heap.size (.slice (some ⟨h1, 0, none⟩) n n) n (ic S9.G) := ⟨by have h9 := HFG.out; exact ((HRow.one h9).mono (lo' := z6) (hi' := h1 + 1) HF9.out.1 (Nat.le_refl _) (by have h8 := HF9.out; omega)).1, fun b hb9 => by have e9 : h1 = b := Option.some.inj hb9; have h8 := HF9.out; omega, Nat.le_refl _⟩
          have hput := MadeSS.put9 RS6.out hlt HLl.out.2 hrr (by have h8 := HF9.out; omega) (by have h9 := HNum.out; have h8 := HM5.out; have h7 := HG10.out; have h6 := RH.out; have h5 := HNn.out; omega) (by have h9 := HNum.out; have h8 := HM5.out; have h7 := HG10.out; have h6 := RH.out; have h5 := HNn.out; omega)
          rw [padS_set HQ2.out hlt] at hput
          have HPut := Lib.hid hput
          obtain ⟨u0, hu0⟩ : ∃ u, S[k]? = some u := ⟨_, List.getElem?_eq_getElem (by rw [RS6.out.slen]; exact hlt)⟩
          have hcg := RS6.out.out.1.cellAt k (by omega)
          rw [hu0] at hcg
          have hfg := RS6.out.out.1.frozenAt k
          clear hrr hput hu0
          have x0 := RX6.out.c 0 rfl
          have hxs : w.heap.size ≠ g2 := by have h9 := HNum.out; have h8 := HM5.out; have h7 := HG10.out; have h6 := RH.out; have h5 := HNn.out; omega
          have hxs2 : g2 ≠ w.heap.size := fun e => hxs e.symm
          go_upto_region 12 with fail
          generalize hW7 : World.setCell w6 _ _ = W7
          rw [hW7] at HPut
          have hk7 : Kept g2 (g2 + 1) w6 W7 := by rw [← hW7]; exact Kept.set w6 ⟨g2, k, none⟩ _ ⟨Nat.le_refl _, Nat.lt_succ_self _⟩
          have hs7 : W7.heap.size = w6.heap.size := by rw [← hW7]; exact setCell_size _ _ _
          have HF07 : Hid (W7.ownsRow lo 2 1 (.slice (some ⟨f0, 0, none⟩) n d0) n (ic D)) := Lib.hid (ownsRow_sameG HF0.out fun b hb9 => hk7.block b (by have e9 : f0 = b := Option.some.inj hb9; have h9 := HNum.out; have h8 := HM5.out; have h7 := HG10.out; have h6 := RH.out; have h5 := HNn.out; have h4 := HF9.out; omega) (HF0.out.lt b hb9).2)
          have HF17 : Hid (W7.ownsRow lo 98 4 (.slice (some ⟨f1, 0, none⟩) n d1) n (ic (S9.M))) := Lib.hid (ownsRow_sameG HF1.out fun b hb9 => hk7.block b (by have e9 : f1 = b := Option.some.inj hb9; have h9 := HNum.out; have h8 := HM5.out; have h7 := HG10.out; have h6 := RH.out; have h5 := HNn.out; have h4 := HF9.out; omega) (HF1.out.lt b hb9).2)
          have HF27 : Hid (W7.ownsRow lo 2 1 (.slice (some ⟨f2, 0, none⟩) n d2) n (ic V)) := Lib.hid (ownsRow_sameG HF2.out fun b hb9 => hk7.block b (by have e9 : f2 = b := Option.some.inj hb9; have h9 := HNum.out; have h8 := HM5.out; have h7 := HG10.out; have h6 := RH.out; have h5 := HNn.out; have h4 := HF9.out; omega) (HF2.out.lt b hb9).2)
          have HFO7 : Hid (W7.ownsRow lo 2 1 (.slice (some ⟨gO, 0, none⟩) n eO) n (ic (ints O))) := Lib.hid (ownsRow_sameG HFO.out fun b hb9 => hk7.block b (by have e9 : gO = b := Option.some.inj hb9; have h9 := HNum.out; have h8 := HM5.out; have h7 := HG10.out; have h6 := RH.out; have h5 := HNn.out; have h4 := HF9.out; omega) (HFO.out.lt b hb9).2)
          have HFL7 : Hid (W7.ownsRow lo 2 1 (.slice (some ⟨h2, 0, none⟩) n n) n (ic S9.L)) := Lib.hid (ownsRow_sameG HFL.out fun b hb9 => hk7.block b (by have e9 : h2 = b := Option.some.inj hb9; have h9 := HNum.out; have h8 := HM5.out; have h7 := HG10.out; have h6 := RH.out; have h5 := HNn.out; have h4 := HF9.out; omega) (HFL.out.lt b hb9).2)
          have HZ7 : Hid (W7.ownsRow lo 2 1 (.slice (some ⟨g5, 0, none⟩) len len) len (ic (padZ Q.S len))) := Lib.hid (ownsRow_sameG RZ6.out fun b hb9 => hk7.block b (by have e9 : g5 = b := Option.some.inj hb9; have h9 := HNum.out; have h8 := HM5.out; have h7 := HG10.out; have h6 := RH.out; have h5 := HNn.out; have h4 := HF9.out; omega) (RZ6.out.lt b hb9).2)
          have RX7 := Lib.hid (RX6.out.kept hk7 (by have h9 := HNum.out; have h8 := HM5.out; have h7 := HG10.out; have h6 := RH.out; have h5 := HNn.out; omega))
          have RP7 := Lib.hid (RP6.out.kept hk7 (by have h9 := HNum.out; have h8 := HM5.out; have h7 := HG10.out; have h6 := RH.out; have h5 := HNn.out; omega))
          have RB7 : Hid (Below w.heap.size w W7) := Lib.hid (RB6.out.trans (hk7.below (by have h9 := HNum.out; have h8 := HM5.out; have h7 := HG10.out; have h6 := RH.out; have h5 := HNn.out; omega) RB6.out.size))
          have HS7 : Hid (z6 ≤ W7.heap.size ∧ h1 < W7.heap.size ∧ h2 < W7.heap.size) := Lib.hid (by rw [hs7]; have h9 := HF9.out; omega)
          rw [show MadeSS W7 g2 (g2 + 1) z0 w6.heap.size = MadeSS W7 g2 (g2 + 1) z0 W7.heap.size by rw [hs7]] at HPut
          clear hk7 hs7 hW7 RS6 RZ6 RX6 RP6 RB6 HF0 HF1 HF2 HFO HFL HFG hcg hfg x0 hxs hxs2
          have HG0 : Hid (W7.ownsRow lo 2 1 (.slice (some ⟨g5, 0, none⟩) len len) len (ic ((padZ Q.S len).set k (seaTo D S9.L 0)))) := Lib.hid (by rw [show seaTo D S9.L 0 = 0 from rfl, padZ_zero HQ3.out hlt]; exact HZ7.out)
          have x0 := RX7.out.c 0 rfl
          go_wp2_with fail
          go_loopw [63] (fun iv wr2 => ∃ i : Nat, i ≤ n ∧ iv = .int .i64 (i : Int) ∧ Hid (wr2.ownsRow lo 2 1 (.slice (some ⟨g5, 0, none⟩) len len) len (ic ((padZ Q.S len).set k (seaTo D S9.L i)))) ∧ Hid (Kept g5 (g5 + 1) W7 wr2)) (fun iv _ => n - (intOf iv).toNat)
          case atStart => exact ⟨0, Nat.zero_le _, rfl, HG0, Lib.hid (Kept.refl _ _ _)⟩
          case round =>
          clear HG0 x0
          obtain ⟨i, hi, rfl, RG, RK⟩ := hrel
          have hi0 : (0 : Int) ≤ (i : Int) := by omega
          by_cases hli : i < n
          · have hi1 : (i : Int) < (n : Int) := by omega
            have cd7 := HF07.out.cellAt i (by omega)
            rw [ic_at (by rw [HDn.out]; exact hli)] at cd7
            have cd : wr.cell? ⟨f0, i, none⟩ = some (.int .i64 (D.getD i 0)) := (World.cell?_of_block (a := ⟨f0, i, none⟩) (RK.out.block f0 (by have h9 := HNum.out; have h8 := HM5.out; have h7 := HG10.out; have h6 := RH.out; have h5 := HNn.out; omega) (HF07.out.lt f0 rfl).2)).trans cd7
            have cl7 := HFL7.out.cellAt i (by omega)
            rw [ic_at (by rw [HLl.out.1]; exact hli)] at cl7
            have cl : wr.cell? ⟨h2, i, none⟩ = some (.int .i64 (S9.L.getD i 0)) := (World.cell?_of_block (a := ⟨h2, i, none⟩) (RK.out.block h2 (by have h9 := HNum.out; have h8 := HM5.out; have h7 := HG10.out; have h6 := RH.out; have h5 := HNn.out; have h4 := HF9.out; omega) (HFL7.out.lt h2 rfl).2)).trans cl7
            have hrk := rivB_range HBB.out i (by rw [HDn.out]; exact hli)
            have hss : seaTo D S9.L (i + 1) = if D.getD i 0 < 0 then wrap64 (seaTo D S9.L i + S9.L.getD i 0) else seaTo D S9.L i := rfl
            obtain ⟨dz, hdz⟩ : ∃ z, D.getD i 0 = z := ⟨_, rfl⟩
            obtain ⟨lz, hlz⟩ : ∃ z, S9.L.getD i 0 = z := ⟨_, rfl⟩
            obtain ⟨s, hs⟩ : ∃ z, seaTo D S9.L i = z := ⟨_, rfl⟩
            rw [hdz] at cd hss hrk
            rw [hlz] at cl hss
            rw [hs] at hss RG
            have Hss := Lib.hid hss
            clear hss hdz hlz hs cd7 cl7
            obtain ⟨nx, hnx⟩ : ∃ z, wrap64 (s + lz) = z := ⟨_, rfl⟩
            have w7b := iw hnx
            rw [hnx] at Hss
            clear hnx
            by_cases hd : dz = -1
            · have hdr : Below wr.heap.size wr wr.drew := (Below.refl _ _).drew
              have cg := (owns_below RG.out hdr (Nat.le_refl _)).cellAt k (by omega)
              rw [ic_at (by rw [List.length_set, padZ_length (by rw [HQ3.out]; omega)]; exact hlt), List.getD_eq_getElem?_getD, List.getElem?_set_self (by rw [padZ_length (by rw [HQ3.out]; omega)]; exact hlt)] at cg
              simp only [Option.getD_some] at cg
              have fg : wr.drew.frozen? ⟨g5, k, none⟩ = false := (owns_below RG.out hdr (Nat.le_refl _)).frozenAt k
              have cl9 : wr.drew.cell? ⟨h2, i, none⟩ = some (.int .i64 lz) := cl
              have hst := ((owns_below RG.out hdr (Nat.le_refl _)).stored k (.int .i64 nx)).1
              rw [← ic_set, List.set_set] at hst
              have Hst := Lib.hid hst
              clear hst cl
              go_wp2_with fail
              go_still_tail 10, (by kernel_rfl)
              (try change wpList _ _ _ _ _ wr.drew)
              go_wp2_with fail
              go_roundw
              case rel => exact ⟨i + 1, by omega, by go_num, by rw [Hss.out, if_pos (by omega)]; exact Hst, Lib.hid ((RK.out.trans (Kept.of_below hdr (Nat.le_refl _))).trans (Kept.set _ ⟨g5, k, none⟩ _ ⟨Nat.le_refl _, Nat.lt_succ_self _⟩))⟩
              case measure => simp [intOf]; omega
            · go_wp2_with fail
              go_roundw
              case rel => exact ⟨i + 1, by omega, by go_num, by rw [Hss.out, if_neg (by omega)]; exact RG, RK⟩
              case measure => simp [intOf]; omega
          · obtain rfl : n = i := by omega
            have hge := RG.out
            rw [padZ_set HQ3.out hlt] at hge
            have HGE := Lib.hid hge
            clear hge RG
            have RSe := Lib.hid (HPut.out.kept RK.out (by have h9 := HNum.out; have h8 := HM5.out; have h7 := HG10.out; have h6 := RH.out; have h5 := HNn.out; omega))
            have HF08 : Hid (wr.ownsRow lo 2 1 (.slice (some ⟨f0, 0, none⟩) n d0) n (ic D)) := Lib.hid (ownsRow_sameG HF07.out fun b hb9 => RK.out.block b (by have e9 : f0 = b := Option.some.inj hb9; have h9 := HNum.out; have h8 := HM5.out; have h7 := HG10.out; have h6 := RH.out; have h5 := HNn.out; have h4 := HF9.out; omega) (HF07.out.lt b hb9).2)
            have HF18 : Hid (wr.ownsRow lo 98 4 (.slice (some ⟨f1, 0, none⟩) n d1) n (ic (S9.M))) := Lib.hid (ownsRow_sameG HF17.out fun b hb9 => RK.out.block b (by have e9 : f1 = b := Option.some.inj hb9; have h9 := HNum.out; have h8 := HM5.out; have h7 := HG10.out; have h6 := RH.out; have h5 := HNn.out; have h4 := HF9.out; omega) (HF17.out.lt b hb9).2)
            have HF28 : Hid (wr.ownsRow lo 2 1 (.slice (some ⟨f2, 0, none⟩) n d2) n (ic V)) := Lib.hid (ownsRow_sameG HF27.out fun b hb9 => RK.out.block b (by have e9 : f2 = b := Option.some.inj hb9; have h9 := HNum.out; have h8 := HM5.out; have h7 := HG10.out; have h6 := RH.out; have h5 := HNn.out; have h4 := HF9.out; omega) (HF27.out.lt b hb9).2)
            have HFO8 : Hid (wr.ownsRow lo 2 1 (.slice (some ⟨gO, 0, none⟩) n eO) n (ic (ints O))) := Lib.hid (ownsRow_sameG HFO7.out fun b hb9 => RK.out.block b (by have e9 : gO = b := Option.some.inj hb9; have h9 := HNum.out; have h8 := HM5.out; have h7 := HG10.out; have h6 := RH.out; have h5 := HNn.out; have h4 := HF9.out; omega) (HFO7.out.lt b hb9).2)
            have RX8 := Lib.hid (RX7.out.kept RK.out (by have h9 := HNum.out; have h8 := HM5.out; have h7 := HG10.out; have h6 := RH.out; have h5 := HNn.out; omega))
            have RP8 := Lib.hid (RP7.out.kept RK.out (by have h9 := HNum.out; have h8 := HM5.out; have h7 := HG10.out; have h6 := RH.out; have h5 := HNn.out; omega))
            have RB8 : Hid (Below w.heap.size w wr) := Lib.hid (RB7.out.trans (RK.out.below (by have h9 := HNum.out; have h8 := HM5.out; have h7 := HG10.out; have h6 := RH.out; have h5 := HNn.out; omega) RB7.out.size))
            have HS8 : Hid (z0 ≤ wr.heap.size) := Lib.hid (by have k1 := RK.out.size; have k2 := HS7.out; have h9 := HNum.out; have h8 := HM5.out; have h7 := HG10.out; have h6 := RH.out; have h5 := HNn.out; omega)
            have HSS8 : Hid (MadeSS wr g2 (g2 + 1) z0 wr.heap.size (.slice (some ⟨g2, 0, none⟩) len len) len (padS (Q.G ++ [S9.G]) len) (S.set k (.slice (some ⟨h1, 0, none⟩) n n))) := Lib.hid (RSe.out.mono (Nat.le_refl _) (Nat.le_refl _) RSe.out.out.2.2 (Nat.le_refl _) RK.out.size (Nat.le_refl _))
            clear RSe HPut HF07 HF17 HF27 HFO7 HFL7 HZ7 RX7 RP7 RB7
            go_wp2_with fail
            go_roundw
            case rel => exact ⟨k + 1, _, by omega, by go_num, by rw [Hsucc.out]; exact HSS8, by rw [Hsucc.out]; exact HGE, HF08, by rw [Hsucc.out]; exact HF18, HF28, HFO8, RX8, RP8, RB8, HS8⟩
            case measure => simp [intOf]; omega
        · obtain rfl : len = k := by omega
          have hq9 := runTo_len (D := D) (V := V) (Zs := Zs) HM.out len (fun j hj => (daysB_at HBD.out (show j < Zs.length by rw [Hlen.out]; exact hj)).1)
          obtain ⟨hq1, hq2, hq3, hq4⟩ := hq9
          have hss := RS.out
          have hzz := RZ.out
          rw [padS_all hq2] at hss
          rw [padZ_all hq3] at hzz
          have HSS := Lib.hid hss
          have HZZ := Lib.hid hzz
          clear hss hzz
          have x0 := RX.out.c 0 rfl
          have x1 := RX.out.c 1 rfl
          have x2 := RX.out.c 2 rfl
          have q0 := RP.out.c 0 rfl
          have q1 := RP.out.c 1 rfl
          have q2 := RP.out.c 2 rfl
          have q3 := RP.out.c 3 rfl
          have q4 := RP.out.c 4 rfl
          have q5 := RP.out.c 5 rfl
          have t0 := RP.out.f 0 (by simp)
          have t1 := RP.out.f 1 (by simp)
          have t2 := RP.out.f 2 (by simp)
          have t3 := RP.out.f 3 (by simp)
          have t4 := RP.out.f 4 (by simp)
          have t5 := RP.out.f 5 (by simp)
          have HE2 := Lib.hid hq2
          have HE3 := Lib.hid hq3
          clear hq1 hq2 hq3 hq4
          go_wp2_with fail
          rw [HV.out]
          have hkk : Kept (w.heap.size + 1) (w.heap.size + 2) wr _ := (((((Kept.set wr ⟨w.heap.size + 1, 0, none⟩ (.slice (some ⟨f0, 0, none⟩) n d0) ⟨Nat.le_refl _, Nat.lt_succ_self _⟩).trans (Kept.set _ ⟨w.heap.size + 1, 1, none⟩ (.slice (some ⟨f1, 0, none⟩) n d1) ⟨Nat.le_refl _, Nat.lt_succ_self _⟩)).trans (Kept.set _ ⟨w.heap.size + 1, 2, none⟩ (.slice (some ⟨f2, 0, none⟩) n d2) ⟨Nat.le_refl _, Nat.lt_succ_self _⟩)).trans (Kept.set _ ⟨w.heap.size + 1, 3, none⟩ (.slice (some ⟨g2, 0, none⟩) len len) ⟨Nat.le_refl _, Nat.lt_succ_self _⟩)).trans (Kept.set _ ⟨w.heap.size + 1, 4, none⟩ (.slice (some ⟨g5, 0, none⟩) len len) ⟨Nat.le_refl _, Nat.lt_succ_self _⟩)).trans (Kept.set _ ⟨w.heap.size + 1, 5, none⟩ (.bool true) ⟨Nat.le_refl _, Nat.lt_succ_self _⟩)
          have h9 := HNum.out
          have h8 := HM5.out
          have h7 := HG10.out
          have h6 := RH.out
          have h5 := HNn.out
          have hrv := riv_lay (t := z5) (ownsRow_sameG RQ0.out fun b hb9 => hkk.block b (.inr (by have e9 := (RQ0.out.lt b hb9).1; omega)) (RQ0.out.lt b hb9).2) (ownsRow_sameG RQ1.out fun b hb9 => hkk.block b (.inr (by have e9 := (RQ1.out.lt b hb9).1; omega)) (RQ1.out.lt b hb9).2) (ownsRow_sameG RQ2.out fun b hb9 => hkk.block b (.inr (by have e9 := (RQ2.out.lt b hb9).1; omega)) (RQ2.out.lt b hb9).2) h5.1 h5.2.1 h5.2.2 h8.1 h8.2.1 h8.2.2.1 (Nat.le_trans (by omega) hkk.size) HDn.out HVn.out
          have hs9 := (HSS.out.kept hkk ⟨.inr (by omega), .inr (by omega)⟩).mono (Nat.le_refl _) (Nat.le_refl _) (Nat.le_trans HSS.out.out.2.2 hkk.size) (Nat.le_refl _) (Nat.le_refl _) (Nat.le_trans HSS.out.top hkk.size)
          have hz9 := HRow.one (ownsRow_sameG HZZ.out fun b hb9 => hkk.block b (.inr (by have e9 := (HZZ.out.lt b hb9).1; omega)) (HZZ.out.lt b hb9).2)
          have hbe := RB.out.trans (hkk.below (by omega) RB.out.size)
          refine bodyPost_ret (v := .agg #[.slice (some ⟨f0, 0, none⟩) n d0, .slice (some ⟨f1, 0, none⟩) n d1, .slice (some ⟨f2, 0, none⟩) n d2, .slice (some ⟨g2, 0, none⟩) len len, .slice (some ⟨g5, 0, none⟩) len len, .bool true]) (by first | (simp [results, Try.results65, go_sem, *]; done) | (simp (maxDischargeDepth := 12) [results, Try.results65, go_sem, *]; done) | (simp (maxDischargeDepth := 12) [results, Try.results65, go_sem, *]; rfl)) rfl ⟨lo, z5, ⟨f0, f0 + 1, f1, f1 + 1, f2, f2 + 1⟩, some ⟨f0, 0, none⟩, some ⟨f1, 0, none⟩, some ⟨f2, 0, none⟩, d0, d1, d2, g2, g2 + 1, z0, wr.heap.size, g5, g5 + 1, some ⟨g2, 0, none⟩, some ⟨g5, 0, none⟩, len, len, ?_, ?_, ?_, by omega, ?_, ?_, by omega, by omega, by omega, by omega, by omega, by omega, by omega, by omega⟩
          · simp only [HDn.out, HVn.out, HE2.out, HE3.out]
          · exact hbe
          · exact hrv
          · simp only [HE2.out]; exact ⟨_, hs9⟩
          · simp only [HE3.out]; exact hz9

end Go.Proofs.Ytckmacnmmloemaa
