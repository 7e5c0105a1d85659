/- Lags: values; the mean of the products of a gauge and a later part of another one. -/
import Derived.Test.YtdmcjloaommnpaaScore
import Derived.Test.YtdmcjloaommnpaaIn
import Derived.Test.YtdmcjloaommnpaaOnlyV
namespace Go.Proofs.Ytdmcjloaommnpaa
open Go.RowKit
set_option linter.unusedVariables false
set_option linter.unusedSimpArgs false
set_option maxRecDepth 100000
attribute [local irreducible] wpV wpList Code.wp

def lagS (A B : List Nat) (lag : Nat) : Nat → Option Nat
  | 0 => some 0
  | k + 1 => fop .add .f32 (lagS A B lag k) (fop .mul .f32 (some (A.getD k 0)) (some (B.getD (k + lag) 0)))
def lagM (A B : List Nat) (n lag : Nat) : Option Nat := fop .quo .f32 (lagS A B lag (n - lag)) (some (iF (n - lag : Nat)))
theorem lagM_ne (A B : List Nat) (n lag : Nat) : ∃ z, Is32 (lagM A B n lag) z := Is32.nef (by decide) _ _
structure LagT where
  b : Int
  x : Option Nat
def lagUp (A B : List Nat) (n : Nat) : Nat → LagT
  | 0 => ⟨0, lagM A B n 0⟩
  | k + 1 => if fcmp .gtr .f32 (lagM A B n (k + 1)) (lagUp A B n k).x then ⟨((k + 1 : Nat) : Int), lagM A B n (k + 1)⟩ else lagUp A B n k
theorem lagUp_nn (A B : List Nat) (n : Nat) : ∀ k, 0 ≤ (lagUp A B n k).b
  | 0 => Int.le_refl _
  | k + 1 => by
    unfold lagUp
    split
    · show (0 : Int) ≤ ((k + 1 : Nat) : Int); omega
    · exact lagUp_nn A B n k
structure LagR where
  b : Int
  x : Option Nat
  ok : Bool
def lagF (t : LagT) : LagR := if fin32o t.x then ⟨t.b, t.x, true⟩ else ⟨0, some 0, false⟩
def lagO (A B : List Nat) (most : Int) : LagR := if bothB A B && (decide (0 ≤ most) && decide (most < (A.length : Int))) then lagF (lagUp A B A.length most.toNat) else ⟨0, some 0, false⟩
theorem lag_no {A B : List Nat} {m : Int} (h : bothB A B = false) : lagO A B m = ⟨0, some 0, false⟩ := by unfold lagO; rw [h]; rfl
theorem lag_out {A B : List Nat} {m : Int} (h : ¬ (0 ≤ m ∧ m < (A.length : Int))) : lagO A B m = ⟨0, some 0, false⟩ := by
  unfold lagO
  rw [if_neg]
  intro hc
  simp only [Bool.and_eq_true, decide_eq_true_eq] at hc
  exact h hc.2
theorem lag_go {A B : List Nat} {m : Int} (h : bothB A B = true) (h2 : 0 ≤ m ∧ m < (A.length : Int)) : lagO A B m = lagF (lagUp A B A.length m.toNat) := by
  unfold lagO
  rw [h, decide_eq_true h2.1, decide_eq_true h2.2]; rfl
def LagB (r : LagR) (w : World) (e : Ending) (w' : World) : Prop := ∃ b x, e = .returned (.tuple #[.int .i64 r.b, .float .f32 x, .bool b]) ∧ r.ok = b ∧ Is32 r.x x ∧ Below w.heap.size w w'
theorem lagS_dot (A B : List Nat) (lag m : Nat) (ha : m ≤ A.length) (hb : m + lag ≤ B.length) : ∀ k, k ≤ m → fdot (A.take m) (B.drop lag) k = lagS A B lag k
  | 0, _ => rfl
  | k + 1, hk => by
    rw [fdot_succ, lagS_dot A B lag m ha hb k (by omega), lagS]
    have e1 : (A.take m).getD k 0 = A.getD k 0 := by rw [List.getD_eq_getElem?_getD, List.getD_eq_getElem?_getD, List.getElem?_take, if_pos (by omega)]
    have e2 : (B.drop lag).getD k 0 = B.getD (k + lag) 0 := by rw [List.getD_eq_getElem?_getD, List.getD_eq_getElem?_getD, List.getElem?_drop, Nat.add_comm]
    rw [e1, e2]
theorem RowF.take9 {w : World} {b o n : Nat} {zs : List Nat} (h : RowF .f32 w (some ⟨b, o, none⟩) zs) (h0 : 0 < zs.length) : RowF .f32 w (some ⟨b, o, none⟩) (zs.take n) := by
  rcases h with h | ⟨b', o', h1, h2, h3⟩
  · rw [h] at h0; cases h0
  · cases h1
    refine .inr ⟨b, o, rfl, h2, fun i hi => ?_⟩
    rw [List.length_take] at hi
    rw [h3 i (by omega), List.getD_eq_getElem?_getD, List.getD_eq_getElem?_getD, List.getElem?_take, if_pos (by omega)]
theorem RowF.drop9 {w : World} {b o n : Nat} {zs : List Nat} (h : RowF .f32 w (some ⟨b, o, none⟩) zs) (h0 : 0 < zs.length) : RowF .f32 w (some ⟨b, o + n, none⟩) (zs.drop n) := by
  rcases h with h | ⟨b', o', h1, h2, h3⟩
  · rw [h] at h0; cases h0
  · cases h1
    refine .inr ⟨b, o + n, rfl, h2, fun i hi => ?_⟩
    rw [List.length_drop] at hi
    have := h3 (n + i) (by omega)
    rw [← Nat.add_assoc] at this
    rw [this, List.getD_eq_getElem?_getD, List.getD_eq_getElem?_getD, List.getElem?_drop]
theorem RowF.some9 {w : World} {a : Option Addr} {zs : List Nat} (h : RowF .f32 w a zs) (h0 : 0 < zs.length) : ∃ b o, a = some ⟨b, o, none⟩ := by
  rcases h with h | ⟨b', o', h1, h2, h3⟩
  · rw [h] at h0; cases h0
  · exact ⟨b', o', h1⟩
theorem wpV_only2m {P : Program} {ops : Array Oper} {C : World → Prop} {V : Nat → Option (Value → Prop)} {Q : Act → Prop} {i : Nat} {rest : List Oper} {o : Oper} {a : Act} (j : Nat) (hj : i + 1 = j) (hC : ∀ w n, C w → C (w.drewN n)) {f : FuncId} {t s : Operand} {ats : Array TypeId} {u x : Value} {p : Option Nat × Bool} (hop : o.op = .call { callee := .value (.func f), args := #[t, s], argTypes := ats }) (he : Enters P f) (hw : Region.wanted o (yielded ops a.tmps) = true) (hl : a.eval t = u) (hl2 : a.eval s = x)
    (hcall : (∃ z, Is32 p.1 z) ∧ ∀ w', C w' → Calls P f #[u, x] w' (OnlyQ p w')) (hV : V i = some (V32o p)) (hK : ∀ z bb, p.2 = bb → Is32 p.1 z → wpV P ops C V Q j rest (a.put o.dst (.tuple #[.float .f32 z, .bool bb]))) : wpV P ops C V Q i (o :: rest) a := by
  subst hj
  unfold wpV
  rw [if_pos hw, hV]
  obtain ⟨⟨z0, hz0⟩, hcall⟩ := hcall
  refine ⟨⟨_, z0, rfl, hz0⟩, fun w hCw => ?_, ?_⟩
  · rw [run_call2 hop he hl hl2]
    refine (hcall w hCw).mono ?_
    rintro e w' ⟨z, b, rfl, hb, hz, n, rfl⟩
    exact ⟨_, rfl, ⟨z, by rw [hb], hz⟩, hC _ _ hCw⟩
  · rintro v ⟨z, rfl, hz⟩; exact hK z _ rfl hz

set_option maxHeartbeats 4000000 in
theorem lagMean_any (b0 o0 b1 o1 n cap0 cap1 lag : Nat) (A B : List Nat) (w : World) (hA : A.length = n) (hB : B.length = n) (h0 : RowF .f32 w (some ⟨b0, o0, none⟩) A) (h1 : RowF .f32 w (some ⟨b1, o1, none⟩) B) (hn : n ≤ 128) (hlag : lag < n) (hc0 : n ≤ cap0) (hc1 : n ≤ cap1) :
    Calls Try.prog 76 #[.slice (some ⟨b0, o0, none⟩) n cap0, .slice (some ⟨b1, o1, none⟩) n cap1, .int .i64 lag] w (NumQ (lagM A B n lag) w) := by
  obtain ⟨m, hm⟩ : ∃ m : Nat, n - lag = m := ⟨_, rfl⟩
  have hmi : IntKind.i64.wrap ((n : Int) - (lag : Int)) = (m : Int) := by rw [IntWalk.i64_in _ (by omega)]; omega
  have hlm : lagM A B n lag = fop .quo .f32 (lagS A B lag m) (some (iF m)) := by unfold lagM; rw [hm]
  have HLM := Lib.hid hlm
  have hf1 : Is32 (some (iF m)) (floatOfInt .f32 m) := iF_is _
  have HF1 := Lib.hid hf1
  have HD : Hid ((∃ z, Is32 (lagS A B lag m) z) ∧ ∀ w' : World, (∃ q, w' = w.drewN q) → Calls Try.prog 100 #[.slice (some ⟨b0, o0, none⟩) m cap0, .slice (some ⟨b1, o1 + lag, none⟩) m (cap1 - lag)] w' (OnlyQ (lagS A B lag m, true) w')) := Lib.hid ⟨by
    rw [← lagS_dot A B lag m (by omega) (by omega) m (Nat.le_refl _)]; exact fdot_ne _ _ _, fun w' hw' => by
    obtain ⟨q, rfl⟩ := hw'
    have hx : (A.take m).length = m := by rw [List.length_take]; omega
    have hy : (B.drop lag).length = m := by rw [List.length_drop]; omega
    have h9 := dotNumbers_any (some ⟨b0, o0, none⟩) (some ⟨b1, o1 + lag, none⟩) cap0 (cap1 - lag) (A.take m) (B.drop lag) (w.drewN q) (RowF.take9 (h0.drewN q) (by omega)) (RowF.drop9 (h1.drewN q) (by omega)) (by omega) (by omega)
    rw [hx] at h9
    refine h9.mono ?_
    rintro e w2 ⟨r, n2, rfl, rfl, hr⟩
    rw [lagS_dot A B lag m (by omega) (by omega) m (Nat.le_refl _)] at hr
    exact ⟨r, true, rfl, rfl, rp_is hr (by rw [← lagS_dot A B lag m (by omega) (by omega) m (Nat.le_refl _)]; exact fdot_ne _ _ _), n2, rfl⟩⟩
  clear h0 h1 hf1 hlm
  have hm0 : (0 : Int) ≤ (m : Int) := by omega
  have hm1 : (m : Int) ≤ (cap0 : Int) := by omega
  have hg0 : (0 : Int) ≤ (lag : Int) := by omega
  have hg1 : (lag : Int) ≤ (n : Int) := by omega
  have hcl : ¬ cap1 = lag := by omega
  have hc0 : ¬ cap0 = 0 := by omega
  go_enter Try.func76, Try.ntmps76
  go_wp2_with fail
  apply wp_region_V (id := 2) (vmap [(6, V32o (lagS A B lag m, true))]) (by kernel_rfl) (by kernel_rfl)
  (refine wpV_go 1 rfl (fun K hK => ?_); go_simp; refine hK.out _ ?_; clear hK K)
  (refine wpV_go 2 rfl (fun K hK => ?_); go_simp; refine hK.out _ ?_; clear hK K)
  (refine wpV_go 3 rfl (fun K hK => ?_); go_simp; refine hK.out _ ?_; clear hK K)
  (refine wpV_go 4 rfl (fun K hK => ?_); go_simp; refine hK.out _ ?_; clear hK K)
  (refine wpV_go 5 rfl (fun K hK => ?_); go_simp; refine hK.out _ ?_; clear hK K)
  (refine wpV_go 6 rfl (fun K hK => ?_); go_simp; refine hK.out _ ?_; clear hK K)
  (refine wpV_only2m 7 rfl (drewC _) rfl (enters_of Try.func100 (by kernel_rfl) rfl) rfl rfl rfl HD.out rfl ?_; intro z bb hbb hz; subst hbb)
  (refine wpV_go 8 rfl (fun K hK => ?_); go_simp; refine hK.out _ ?_; clear hK K)
  (refine wpV_go 9 rfl (fun K hK => ?_); go_simp; refine hK.out _ ?_; clear hK K)
  (refine wpV_go 10 rfl (fun K hK => ?_); go_simp; refine hK.out _ ?_; clear hK K)
  (refine wpV_go 11 rfl (fun K hK => ?_); go_simp; refine hK.out _ ?_; clear hK K)
  (refine wpV_go 12 rfl (fun K hK => ?_); go_simp; refine hK.out _ ?_; clear hK K)
  (refine wpV_nil ?_; intro q9)
  have hf1 := HF1.out
  have hz9 : Is32 (lagS A B lag m) z := hz
  clear hz
  go_wp2_with (first | ((with_reducible refine wpList_bin ?_); refine wpList_f32 rfl _ _ _ _ _ rfl rfl rfl (by decide) (by first | assumption | exact Is32.c (by decide)) (by first | assumption | exact Is32.c (by decide)) ?_; intro z n hz))
  go_ret
  rw [HLM.out]
  exact ⟨_, rfl, by assumption, _, by first | rfl | exact World.drewN_drewN _ _ _⟩

end Go.Proofs.Ytdmcjloaommnpaa
