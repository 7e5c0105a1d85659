/- A hill is given if it is valid: the program and its model. -/
import Derived.Test.YtljehplkdofhpacHillR
namespace Go.Proofs.Ytljehplkdofhpac
open Go.RowKit
set_option maxRecDepth 100000

/-- What is given of a row that lies from lo on. -/
def RetFrom (lo : Nat) (rw rh : Int) (rz : List Nat) (rok : Bool) (W : World) (e : Ending) (w' : World) : Prop :=
  ∃ a cap, e = .returned (.tuple #[.agg #[.int .i64 rw, .int .i64 rh, .slice a rz.length cap], .bool rok]) ∧ Below W.heap.size W w' ∧ FRow w' lo w'.heap.size (.slice a rz.length cap) rz

theorem give_valid {wide high : Int} {zs : List Nat} {T : List (Option Nat)} (hs : sidesB wide high = true) (hn : (zs.length : Int) = wide * high) (ht : Told T zs) : validB wide high zs = okT T := by
  unfold validB
  rw [hs, decide_eq_true hn, ht.all]; rfl
theorem bool_not_false {b : Bool} (h : b = false) : (!b) = true := by rw [h]; rfl

set_option maxHeartbeats 1000000 in
theorem madeHill_any (wide high : Int) (a : Option Addr) (cap : Nat) (zs : List Nat) (T : List (Option Nat)) (lo hi : Nat) (w : World) (hs : sidesB wide high = true) (hn : (zs.length : Int) = wide * high) (ht : Told T zs) (hz : ∀ z ∈ zs, z < 4294967296)
    (h : FRow w lo hi (.slice a zs.length cap) zs) :
    Calls Try.prog 76 #[.int .i64 wide, .int .i64 high, .slice a zs.length cap] w (RetFrom lo (giveH wide high T).wide (giveH wide high T).high (giveH wide high T).zs (giveH wide high T).ok w) := by
  have hv := give_valid hs hn ht
  have hl : zs.length ≤ 1048576 := by have := mul_bound hs; omega
  have H := Lib.hid h
  have Hz := Lib.hid hz
  unfold giveH
  clear h hz hs
  cases ho : okT T
  · have Hv := Lib.hid (hv.trans ho)
    clear hv ho hn ht
    go_enter Try.func76, Try.ntmps76
    go_wp2_with fail
    refine ((Hv.out ▸ validHill_any wide high a cap zs _ (by exact ((H.out.alloc _).alloc _).row) hl Hz.out : Calls _ _ _ _ (Says false _))).mono ?_
    rintro e w1 ⟨rfl, hb⟩
    obtain ⟨⟨r0, r1, r2, _⟩, rf⟩ := ((BoxW.new w 0 0 (.slice none 0 0) 28).alloc _).below hb (by simp; omega)
    have hm : BoxH w1 (w.heap.size + 1) wide high (.slice a zs.length cap) := by simpa using (BoxH.new (w.alloc _) wide high (.slice a zs.length cap) 28).below hb (by simp)
    obtain ⟨m0, m1, m2, _⟩ := hm
    have hz1 : w.heap.size + 2 ≤ w1.heap.size := by have := hb.size; simpa using this
    have Hb := Lib.hid ((below2 _ _ _).trans (hb.mono (by simp; omega)) : Below w.heap.size w w1)
    have hlo : hi ≤ w.heap.size := H.out.2.2
    clear hb
    go_wp2_with fail
    refine bodyPost_ret (v := .tuple #[.agg #[.int .i64 0, .int .i64 0, .slice none 0 0], .bool false]) (by simp [results, Try.results76, go_sem, r0, r1, r2]) rfl ⟨none, 0, rfl, ?_, ?_⟩
    · exact belowSetBox Hb.out (Nat.le_refl _) _ _ _
    · exact (FRow.nil _ _)
  · have Hv := Lib.hid (hv.trans ho)
    have Hvals := Lib.hid (ht.vals ho)
    clear hv ho hn ht
    go_enter Try.func76, Try.ntmps76
    go_wp2_with fail
    refine ((Hv.out ▸ validHill_any wide high a cap zs _ (by exact ((H.out.alloc _).alloc _).row) hl Hz.out : Calls _ _ _ _ (Says true _))).mono ?_
    rintro e w1 ⟨rfl, hb⟩
    obtain ⟨⟨r0, r1, r2, _⟩, rf⟩ := ((BoxW.new w 0 0 (.slice none 0 0) 28).alloc _).below hb (by simp; omega)
    have hm : BoxH w1 (w.heap.size + 1) wide high (.slice a zs.length cap) := by simpa using (BoxH.new (w.alloc _) wide high (.slice a zs.length cap) 28).below hb (by simp)
    obtain ⟨m0, m1, m2, _⟩ := hm
    have hz1 : w.heap.size + 2 ≤ w1.heap.size := by have := hb.size; simpa using this
    have Hb := Lib.hid ((below2 _ _ _).trans (hb.mono (by simp; omega)) : Below w.heap.size w w1)
    have H1 := Lib.hid (((H.out.alloc _).alloc _).below hb (by have := H.out.2.2; simp; omega))
    have hlo : hi ≤ w.heap.size := H.out.2.2
    clear hb
    go_wp2_with fail
    refine bodyPost_ret (v := .tuple #[.agg #[.int .i64 wide, .int .i64 high, .slice a zs.length cap], .bool true]) (by simp [results, Try.results76, go_sem, r0, r1, r2]) rfl ⟨a, cap, by rw [Hvals.out], ?_, ?_⟩
    · exact belowSetBox Hb.out (Nat.le_refl _) _ _ _
    · show FRow _ lo _ (.slice a (valsT T).length cap) (valsT T)
      rw [← Hvals.out]
      exact H1.out.setBox (.inr hlo) _ _ _

set_option maxHeartbeats 1000000 in
theorem l02Give_any (wide high : Int) (a : Option Addr) (cap : Nat) (zs : List Nat) (T : List (Option Nat)) (lo hi : Nat) (w : World) (hs : sidesB wide high = true) (hn : (zs.length : Int) = wide * high) (ht : Told T zs)
    (h : FRow w lo hi (.slice a zs.length cap) zs) :
    Calls Try.prog 71 #[.agg #[.int .i64 wide, .int .i64 high, .slice a zs.length cap]] w (RetFrom lo (giveH wide high T).wide (giveH wide high T).high (giveH wide high T).zs (giveH wide high T).ok w) := by
  have hv := give_valid hs hn ht
  have hl : zs.length ≤ 1048576 := by have := mul_bound hs; omega
  have H := Lib.hid h
  have hlo : hi ≤ w.heap.size := h.2.2
  unfold giveH
  clear h hs
  cases ho : okT T
  · have Hv := Lib.hid (hv.trans ho)
    clear hv ho hn ht
    go_enter Try.func71, Try.ntmps71
    go_wp2_with fail
    refine ((Hv.out ▸ l02Is_any _ wide high a cap zs _ (by simp [go_sem]) (by simp [go_sem]) (by simp [go_sem]) (by exact ((H.out.alloc _).alloc _).row) hl : Calls _ _ _ _ (fun e w' => e = .returned (.bool false) ∧ ∃ n, w' = World.drewN _ n))).mono ?_
    rintro e w' ⟨rfl, n, rfl⟩
    go_wp2_with fail
    refine bodyPost_ret (v := .tuple #[.agg #[.int .i64 0, .int .i64 0, .slice none 0 0], .bool false]) (by simp [results, Try.results71, go_sem]) rfl ⟨none, 0, rfl, ?_, FRow.nil _ _⟩
    exact belowSetBox (below_drewN (below2 _ _ _) _) (by omega) _ _ _
  · have Hv := Lib.hid (hv.trans ho)
    have Hvals := Lib.hid (ht.vals ho)
    clear hv ho hn ht
    go_enter Try.func71, Try.ntmps71
    go_wp2_with fail
    refine ((Hv.out ▸ l02Is_any _ wide high a cap zs _ (by simp [go_sem]) (by simp [go_sem]) (by simp [go_sem]) (by exact ((H.out.alloc _).alloc _).row) hl : Calls _ _ _ _ (fun e w' => e = .returned (.bool true) ∧ ∃ n, w' = World.drewN _ n))).mono ?_
    rintro e w' ⟨rfl, n, rfl⟩
    go_wp2_with fail
    refine bodyPost_ret (v := .tuple #[.agg #[.int .i64 wide, .int .i64 high, .slice a zs.length cap], .bool true]) (by simp [results, Try.results71, go_sem]) rfl ⟨a, cap, by rw [Hvals.out], ?_, ?_⟩
    · exact belowSetBox (below_drewN (below2 _ _ _) _) (by omega) _ _ _
    · show FRow _ lo _ (.slice a (valsT T).length cap) (valsT T)
      rw [← Hvals.out]
      exact (((H.out.alloc _).alloc _).drewN n).setBox (.inr (by omega)) _ _ _
end Go.Proofs.Ytljehplkdofhpac
