/- A canal's copy: the model. -/
import Derived.Test.YtgnkpppbhibfoaaStillI
import Derived.Test.YtgnkpppbhibfoaaCanalB
import Derived.Test.YtgnkpppbhibfoaaIn
namespace Go.Proofs.Ytgnkpppbhibfoaa
open Go.RowKit
set_option linter.unusedVariables false
set_option linter.unusedSimpArgs false
set_option maxRecDepth 100000
attribute [local irreducible] wpV wpList Code.wp

set_option maxHeartbeats 4000000 in
theorem l05Own_o {N0 N1 N2 : Option Nat} {n0 n1 n2 : Nat} (a0 a1 : Option Addr) (c0 c1 : Nat) (S O : List Nat) (w : World) (b : Nat) (hB : Bx w b [.float .f32 n0, .float .f32 n1, .float .f32 n2, .slice a0 S.length c0, .slice a1 O.length c1]) (g0 : Is32 N0 n0) (g1 : Is32 N1 n1) (g2 : Is32 N2 n2) (h0 : RowF .f32 w a0 S) (hl0 : S.length ≤ 1048576) (hz0 : ∀ z ∈ S, z < 4294967296) (h1 : RowF .f32 w a1 O) (hl1 : O.length ≤ 1048576) (hz1 : ∀ z ∈ O, z < 4294967296) (hp0 : 0 < S.length) (hp1 : 0 < O.length) :
    Calls Try.prog 90 #[.pointer (some ⟨b, 0, none⟩)] w fun e w' => ∃ x0 k0 x1 k1, e = .returned (.agg #[.float .f32 n0, .float .f32 n1, .float .f32 n2, .slice (some ⟨x0, 0, none⟩) S.length k0, .slice (some ⟨x1, 0, none⟩) O.length k1]) ∧ RowO w' w.heap.size (.slice (some ⟨x0, 0, none⟩) S.length k0) S ∧ RowO w' w.heap.size (.slice (some ⟨x1, 0, none⟩) O.length k1) O ∧ x0 ≠ x1 ∧ Below w.heap.size w w' := by
  rcases h0 with rfl | ⟨b0, off0, rfl, hb0, hc0⟩
  · simp at hp0
  rcases h1 with rfl | ⟨b1, off1, rfl, hb1, hc1⟩
  · simp at hp1
  have HC0 := Lib.hid hc0
  have HC1 := Lib.hid hc1
  have Hb0 := Lib.hid hb0
  have Hb1 := Lib.hid hb1
  have Hp0 := Lib.hid hp0
  have Hp1 := Lib.hid hp1
  have Hl0 := Lib.hid hl0
  have Hl1 := Lib.hid hl1
  clear hc0 hc1 hz0 hz1 hb0 hb1 hp0 hp1 hl0 hl1
  have hk0 := hB.c 0 rfl
  have hk1 := hB.c 1 rfl
  have hk2 := hB.c 2 rfl
  have hk3 := hB.c 3 rfl
  have hk4 := hB.c 4 rfl
  have HBX := Lib.hid hB
  clear hB
  obtain ⟨n, hn⟩ : ∃ n, S.length = n := ⟨_, rfl⟩
  obtain ⟨m, hm⟩ : ∃ m, O.length = m := ⟨_, rfl⟩
  have Hn := Lib.hid hn
  have Hm := Lib.hid hm
  have LIT : ∀ (W : World) (k : Nat), W.heap.size = k → RowO (W.alloc (.cells #[] 23)) k (.slice (some ⟨k, 0, none⟩) 0 0) [] := by
    rintro W k rfl
    exact World.ownsRow_lit (base := W.heap.size) (e := 23) (size := 1) W #[] 0 (Nat.le_refl _) (by simp [maxLen]) rfl
  have HLIT := Lib.hid LIT
  rw [hn] at hk3 ⊢
  rw [hm] at hk4 ⊢
  clear hn hm LIT
  have kz0 : (w.alloc (.cells #[.float .f32 0, .float .f32 0, .float .f32 0, .slice none 0 0, .slice none 0 0] 36)).cell? ⟨b, 0, none⟩ = some (.float .f32 n0) := by rw [(bel1 w _).cell (p := ⟨b, 0, none⟩) HBX.out.1]; exact hk0
  have kz1 : (w.alloc (.cells #[.float .f32 0, .float .f32 0, .float .f32 0, .slice none 0 0, .slice none 0 0] 36)).cell? ⟨b, 1, none⟩ = some (.float .f32 n1) := by rw [(bel1 w _).cell (p := ⟨b, 1, none⟩) HBX.out.1]; exact hk1
  have kz2 : (w.alloc (.cells #[.float .f32 0, .float .f32 0, .float .f32 0, .slice none 0 0, .slice none 0 0] 36)).cell? ⟨b, 2, none⟩ = some (.float .f32 n2) := by rw [(bel1 w _).cell (p := ⟨b, 2, none⟩) HBX.out.1]; exact hk2
  have kz3 : (w.alloc (.cells #[.float .f32 0, .float .f32 0, .float .f32 0, .slice none 0 0, .slice none 0 0] 36)).cell? ⟨b, 3, none⟩ = some (.slice (some ⟨b0, off0, none⟩) n c0) := by rw [(bel1 w _).cell (p := ⟨b, 3, none⟩) HBX.out.1]; exact hk3
  have kz4 : (w.alloc (.cells #[.float .f32 0, .float .f32 0, .float .f32 0, .slice none 0 0, .slice none 0 0] 36)).cell? ⟨b, 4, none⟩ = some (.slice (some ⟨b1, off1, none⟩) m c1) := by rw [(bel1 w _).cell (p := ⟨b, 4, none⟩) HBX.out.1]; exact hk4
  have HB3 : Hid (Below w.heap.size w (((w.alloc (.cells #[.float .f32 0, .float .f32 0, .float .f32 0, .slice none 0 0, .slice none 0 0] 36)).alloc (.cells #[.float .f32 n0, .float .f32 n1, .float .f32 n2, .slice (some ⟨b0, off0, none⟩) n c0, .slice (some ⟨b1, off1, none⟩) m c1] 36)).alloc (.cells #[] 23))) := Lib.hid (bel3 w _ _ _)
  have hr3 : (((w.alloc (.cells #[.float .f32 0, .float .f32 0, .float .f32 0, .slice none 0 0, .slice none 0 0] 36)).alloc (.cells #[.float .f32 n0, .float .f32 n1, .float .f32 n2, .slice (some ⟨b0, off0, none⟩) n c0, .slice (some ⟨b1, off1, none⟩) m c1] 36)).alloc (.cells #[] 23)).cell? ⟨b, 3, none⟩ = some (.slice (some ⟨b0, off0, none⟩) n c0) := by rw [HB3.out.cell (p := ⟨b, 3, none⟩) HBX.out.1]; exact hk3
  have HK4 := Lib.hid hk4
  clear hk0 hk1 hk2 hk3 hk4
  have HX : Hid (∀ i, i < S.length → (((w.alloc (.cells #[.float .f32 0, .float .f32 0, .float .f32 0, .slice none 0 0, .slice none 0 0] 36)).alloc (.cells #[.float .f32 n0, .float .f32 n1, .float .f32 n2, .slice (some ⟨b0, off0, none⟩) n c0, .slice (some ⟨b1, off1, none⟩) m c1] 36)).alloc (.cells #[] 23)).cell? ⟨b0, off0 + i, none⟩ = some (.float .f32 (S.getD i 0))) := Lib.hid fun i hi => by rw [HB3.out.cell (p := ⟨b0, off0 + i, none⟩) Hb0.out]; exact HC0.out i hi
  have HR := Lib.hid (HLIT.out ((w.alloc (.cells #[.float .f32 0, .float .f32 0, .float .f32 0, .slice none 0 0, .slice none 0 0] 36)).alloc (.cells #[.float .f32 n0, .float .f32 n1, .float .f32 n2, .slice (some ⟨b0, off0, none⟩) n c0, .slice (some ⟨b1, off1, none⟩) m c1] 36)) (w.heap.size + 1 + 1) (by simp))
  have BR3 : Hid (Bw (((w.alloc (.cells #[.float .f32 0, .float .f32 0, .float .f32 0, .slice none 0 0, .slice none 0 0] 36)).alloc (.cells #[.float .f32 n0, .float .f32 n1, .float .f32 n2, .slice (some ⟨b0, off0, none⟩) n c0, .slice (some ⟨b1, off1, none⟩) m c1] 36)).alloc (.cells #[] 23)) w.heap.size [.float .f32 0, .float .f32 0, .float .f32 0, .slice none 0 0, .slice none 0 0]) := Lib.hid (((Bw.new w [.float .f32 0, .float .f32 0, .float .f32 0, .slice none 0 0, .slice none 0 0] _).alloc _).alloc _)
  have BC3 : Hid (Bw (((w.alloc (.cells #[.float .f32 0, .float .f32 0, .float .f32 0, .slice none 0 0, .slice none 0 0] 36)).alloc (.cells #[.float .f32 n0, .float .f32 n1, .float .f32 n2, .slice (some ⟨b0, off0, none⟩) n c0, .slice (some ⟨b1, off1, none⟩) m c1] 36)).alloc (.cells #[] 23)) (w.heap.size + 1) [.float .f32 n0, .float .f32 n1, .float .f32 n2, .slice (some ⟨b0, off0, none⟩) n c0, .slice (some ⟨b1, off1, none⟩) m c1]) := Lib.hid (by have h9 := (Bw.new (w.alloc (.cells #[.float .f32 0, .float .f32 0, .float .f32 0, .slice none 0 0, .slice none 0 0] 36)) [.float .f32 n0, .float .f32 n1, .float .f32 n2, .slice (some ⟨b0, off0, none⟩) n c0, .slice (some ⟨b1, off1, none⟩) m c1] 36).alloc (.cells #[] 23); rw [show (w.alloc (.cells #[.float .f32 0, .float .f32 0, .float .f32 0, .slice none 0 0, .slice none 0 0] 36)).heap.size = w.heap.size + 1 by simp] at h9; exact h9)
  go_enter Try.func90, Try.ntmps90
  go_wp2_with (at_builtin; refine push_all rfl rfl _ _ rfl (ys := S) rfl HR.out b0 off0 _ (by rw [Hn.out]; rfl) HX.out Hp0.out (by rw [List.length_nil, Nat.zero_add]; exact Hl0.out) (by simp) ?_)
  intro g9 c9 w9 hr hp
  have hb : Below (w.heap.size + 1 + 1) (((w.alloc (.cells #[.float .f32 0, .float .f32 0, .float .f32 0, .slice none 0 0, .slice none 0 0] 36)).alloc (.cells #[.float .f32 n0, .float .f32 n1, .float .f32 n2, .slice (some ⟨b0, off0, none⟩) n c0, .slice (some ⟨b1, off1, none⟩) m c1] 36)).alloc (.cells #[] 23)) w9 := Below.pushed (Below.refl _ _) hp HR.out (Nat.le_refl _) (by simp)
  have HB9 : Hid (Below w.heap.size w w9) := Lib.hid (HB3.out.trans (hb.mono (by omega)))
  have BR9 := Lib.hid (BR3.out.below hb (by omega))
  have bc := BC3.out.below hb (by omega)
  (try simp only [List.nil_append, List.length_nil, Nat.zero_add] at hr)
  (try simp only [List.length_nil, Nat.zero_add])
  rw [Hn.out] at hr
  rw [Hn.out]
  have hg9 := hr.lo g9 rfl
  have hz9 : w.heap.size + 1 + 1 ≤ w9.heap.size := by have := hb.size; simp at this; omega
  have HG9 := Lib.hid hg9
  have HZ9 := Lib.hid hz9
  have HS9 := Lib.hid hr
  have q0 := bc.c 0 rfl
  have q1 := bc.c 1 rfl
  have q2 := bc.c 2 rfl
  have q3 := bc.c 3 rfl
  have q4 := bc.c 4 rfl
  have f0 := bc.f 0 (by simp)
  have f1 := bc.f 1 (by simp)
  have f2 := bc.f 2 (by simp)
  have f3 := bc.f 3 (by simp)
  have f4 := bc.f 4 (by simp)
  have BC9 := Lib.hid bc
  clear bc hr hp hb hg9 hz9 HX HR BR3 BC3 HB3 hr3 kz0 kz1 kz2 kz3 kz4
  have HB10 : Hid (Below w.heap.size w ((w9.setCell ⟨w.heap.size + 1, 3, none⟩ (.slice (some ⟨g9, 0, none⟩) n c9)).alloc (.cells #[] 23))) := Lib.hid ((HB9.out.setCell (by simp) _).alloc (by simp; have := HZ9.out; omega) _)
  have hr4 : ((w9.setCell ⟨w.heap.size + 1, 3, none⟩ (.slice (some ⟨g9, 0, none⟩) n c9)).alloc (.cells #[] 23)).cell? ⟨b, 4, none⟩ = some (.slice (some ⟨b1, off1, none⟩) m c1) := by rw [HB10.out.cell (p := ⟨b, 4, none⟩) HBX.out.1]; exact HK4.out
  have HX : Hid (∀ i, i < O.length → ((w9.setCell ⟨w.heap.size + 1, 3, none⟩ (.slice (some ⟨g9, 0, none⟩) n c9)).alloc (.cells #[] 23)).cell? ⟨b1, off1 + i, none⟩ = some (.float .f32 (O.getD i 0))) := Lib.hid fun i hi => by rw [HB10.out.cell (p := ⟨b1, off1 + i, none⟩) Hb1.out]; exact HC1.out i hi
  have HR := Lib.hid (HLIT.out (w9.setCell ⟨w.heap.size + 1, 3, none⟩ (.slice (some ⟨g9, 0, none⟩) n c9)) w9.heap.size (by simp))
  have HS10 : Hid (RowO ((w9.setCell ⟨w.heap.size + 1, 3, none⟩ (.slice (some ⟨g9, 0, none⟩) n c9)).alloc (.cells #[] 23)) (w.heap.size + 1 + 1) (.slice (some ⟨g9, 0, none⟩) n c9) S) := Lib.hid ((HS9.out.setFar (by simp [Value.ownBlock]; have := HG9.out; omega) _).alloc _)
  have BR10 : Hid (Bw ((w9.setCell ⟨w.heap.size + 1, 3, none⟩ (.slice (some ⟨g9, 0, none⟩) n c9)).alloc (.cells #[] 23)) w.heap.size [.float .f32 0, .float .f32 0, .float .f32 0, .slice none 0 0, .slice none 0 0]) := Lib.hid ((BR9.out.setOther (by simp) _).alloc _)
  have BC10 : Hid (Bw ((w9.setCell ⟨w.heap.size + 1, 3, none⟩ (.slice (some ⟨g9, 0, none⟩) n c9)).alloc (.cells #[] 23)) (w.heap.size + 1) [.float .f32 n0, .float .f32 n1, .float .f32 n2, .slice (some ⟨g9, 0, none⟩) n c9, .slice (some ⟨b1, off1, none⟩) m c1]) := Lib.hid (by
    have hz9 := HZ9.out
    have h9 : Bw (w9.setCell ⟨w.heap.size + 1, 3, none⟩ (.slice (some ⟨g9, 0, none⟩) n c9)) (w.heap.size + 1) [.float .f32 n0, .float .f32 n1, .float .f32 n2, .slice (some ⟨g9, 0, none⟩) n c9, .slice (some ⟨b1, off1, none⟩) m c1] := Bw.of5 (by simp; omega) (by first | (simp [go_sem, q0, q1, q2, q3, q4, f0, f1, f2, f3, f4]; done) | (simp [go_sem, q0, q1, q2, q3, q4, f0, f1, f2, f3, f4]; rfl)) (by first | (simp [go_sem, q0, q1, q2, q3, q4, f0, f1, f2, f3, f4]; done) | (simp [go_sem, q0, q1, q2, q3, q4, f0, f1, f2, f3, f4]; rfl)) (by first | (simp [go_sem, q0, q1, q2, q3, q4, f0, f1, f2, f3, f4]; done) | (simp [go_sem, q0, q1, q2, q3, q4, f0, f1, f2, f3, f4]; rfl)) (by first | (simp [go_sem, q0, q1, q2, q3, q4, f0, f1, f2, f3, f4]; done) | (simp [go_sem, q0, q1, q2, q3, q4, f0, f1, f2, f3, f4]; rfl)) (by first | (simp [go_sem, q0, q1, q2, q3, q4, f0, f1, f2, f3, f4]; done) | (simp [go_sem, q0, q1, q2, q3, q4, f0, f1, f2, f3, f4]; rfl)) (by first | (simp [go_sem, q0, q1, q2, q3, q4, f0, f1, f2, f3, f4]; done) | (simp [go_sem, q0, q1, q2, q3, q4, f0, f1, f2, f3, f4]; rfl)) (by first | (simp [go_sem, q0, q1, q2, q3, q4, f0, f1, f2, f3, f4]; done) | (simp [go_sem, q0, q1, q2, q3, q4, f0, f1, f2, f3, f4]; rfl)) (by first | (simp [go_sem, q0, q1, q2, q3, q4, f0, f1, f2, f3, f4]; done) | (simp [go_sem, q0, q1, q2, q3, q4, f0, f1, f2, f3, f4]; rfl)) (by first | (simp [go_sem, q0, q1, q2, q3, q4, f0, f1, f2, f3, f4]; done) | (simp [go_sem, q0, q1, q2, q3, q4, f0, f1, f2, f3, f4]; rfl)) (by first | (simp [go_sem, q0, q1, q2, q3, q4, f0, f1, f2, f3, f4]; done) | (simp [go_sem, q0, q1, q2, q3, q4, f0, f1, f2, f3, f4]; rfl))
    exact h9.alloc _)
  go_wp2_with (at_builtin; refine push_all rfl rfl _ _ rfl (ys := O) rfl HR.out b1 off1 _ (by rw [Hm.out]; rfl) HX.out Hp1.out (by rw [List.length_nil, Nat.zero_add]; exact Hl1.out) (by simp) ?_)
  intro g10 c10 w11 hr hp
  have hb : Below w9.heap.size ((w9.setCell ⟨w.heap.size + 1, 3, none⟩ (.slice (some ⟨g9, 0, none⟩) n c9)).alloc (.cells #[] 23)) w11 := Below.pushed (Below.refl _ _) hp HR.out (Nat.le_refl _) (by simp)
  have HB11 : Hid (Below w.heap.size w w11) := Lib.hid (HB10.out.trans (hb.mono (by have := HZ9.out; omega)))
  have br := BR10.out.below hb (by have := HZ9.out; omega)
  have bc := BC10.out.below hb (by have := HZ9.out; omega)
  (try simp only [List.nil_append, List.length_nil, Nat.zero_add] at hr)
  (try simp only [List.length_nil, Nat.zero_add])
  rw [Hm.out] at hr
  rw [Hm.out]
  have hg10 := hr.lo g10 rfl
  have HG10 := Lib.hid hg10
  have HT := Lib.hid hr
  have HS11 : Hid (RowO w11 (w.heap.size + 1 + 1) (.slice (some ⟨g9, 0, none⟩) n c9) S) := Lib.hid (ownsRow_same HS10.out fun k hk => hb.block k (by simp only [Value.ownBlock, Option.some.injEq] at hk; have := HG9.out; omega))
  have HW11 : Hid (w.heap.size + 1 + 1 ≤ w11.heap.size) := Lib.hid (by have := hg10.1; have := hg10.2; have := HZ9.out; omega)
  clear q0 q1 q2 q3 q4 f0 f1 f2 f3 f4 hr4
  have q0 := bc.c 0 rfl
  have q1 := bc.c 1 rfl
  have q2 := bc.c 2 rfl
  have q3 := bc.c 3 rfl
  have q4 := bc.c 4 rfl
  have f0 := bc.f 0 (by simp)
  have f1 := bc.f 1 (by simp)
  have f2 := bc.f 2 (by simp)
  have f3 := bc.f 3 (by simp)
  have f4 := bc.f 4 (by simp)
  have u0 := br.c 0 rfl
  have u1 := br.c 1 rfl
  have u2 := br.c 2 rfl
  have u3 := br.c 3 rfl
  have u4 := br.c 4 rfl
  have v0 := br.f 0 (by simp)
  have v1 := br.f 1 (by simp)
  have v2 := br.f 2 (by simp)
  have v3 := br.f 3 (by simp)
  have v4 := br.f 4 (by simp)
  clear bc br hr hp hb hg10 HX HR HB10 HS10 BR10 BC10
  go_wp2_with fail
  have hs6 : ∀ (W : World) (p : Addr) (u : Value), (W.setCell p u).heap.size = W.heap.size := fun W p u => by simp
  have LOW : ∀ (W : World) (lo : Nat) (v : Value) (zs : List Nat), w.heap.size ≤ lo → RowO W lo v zs → RowO W w.heap.size v zs := fun W lo v zs hl h => (h.frow.mono hl (Nat.le_refl _) (Nat.le_refl _)).1
  have n9 := HG9.out
  have n10 := HG10.out
  have z9 := HZ9.out
  refine bodyPost_ret (v := .agg #[.float .f32 n0, .float .f32 n1, .float .f32 n2, .slice (some ⟨g9, 0, none⟩) n c9, .slice (some ⟨g10, 0, none⟩) m c10]) (by first | (simp [results, Try.results90, go_sem, q0, q1, q2, q3, q4, f0, f1, f2, f3, f4, u0, u1, u2, u3, u4, v0, v1, v2, v3, v4]; done) | (simp (maxDischargeDepth := 12) [results, Try.results90, go_sem, q0, q1, q2, q3, q4, f0, f1, f2, f3, f4, u0, u1, u2, u3, u4, v0, v1, v2, v3, v4]; done) | (simp (maxDischargeDepth := 12) [results, Try.results90, go_sem, q0, q1, q2, q3, q4, f0, f1, f2, f3, f4, u0, u1, u2, u3, u4, v0, v1, v2, v3, v4]; rfl)) rfl ?_
  refine ⟨g9, c9, g10, c10, rfl, LOW _ (w.heap.size + 1 + 1) _ _ (by omega) ((((((HS11.out.setFar (by simp [Value.ownBlock]; omega) _).setFar (by simp [Value.ownBlock]; omega) _).setFar (by simp [Value.ownBlock]; omega) _).setFar (by simp [Value.ownBlock]; omega) _).setFar (by simp [Value.ownBlock]; omega) _).setFar (by simp [Value.ownBlock]; omega) _), LOW _ w9.heap.size _ _ (by omega) ((((((HT.out.setFar (by simp [Value.ownBlock]; omega) _).setFar (by simp [Value.ownBlock]; omega) _).setFar (by simp [Value.ownBlock]; omega) _).setFar (by simp [Value.ownBlock]; omega) _).setFar (by simp [Value.ownBlock]; omega) _).setFar (by simp [Value.ownBlock]; omega) _), by omega, (by repeat (first | with_reducible exact HB11.out | with_reducible refine beld ?_ _ | (with_reducible refine Below.alloc ?_ ?_ _; rotate_left; exact (by first | (simp; done) | (simp; omega) | omega)) | (with_reducible refine Below.setCell ?_ ?_ _; rotate_left; exact (by first | (simp; done) | (simp; omega) | omega))))⟩

end Go.Proofs.Ytgnkpppbhibfoaa
