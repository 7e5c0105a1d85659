/- The hill whose heights a function value tells. -/
import Derived.Test.YtljehplkdofhpacGive
import Derived.Shelf.Abstract
namespace Go.Proofs.Ytljehplkdofhpac
open Go.RowKit Go.Shelf
set_option maxRecDepth 100000

/-- A function value that tells heights: called at cell k in a world that is ready for it, it tells V k, leaves all from B on alone, and leaves a world that is ready for the next. -/
structure Tells (g : FuncId) (lb : Array Value) (n B : Nat) (V : Nat → Option Nat) (I : Nat → World → Prop) : Prop where
  call : ∀ (k : Nat) (W : World), k < n → I k W → Calls Try.prog g (#[.int .i64 (k : Int)] ++ lb) W fun e W' => ∃ r, e = .returned (.float .f32 r) ∧ Rp .f32 (V k) r ∧ r < 4294967296 ∧ I (k + 1) W' ∧ Kept 0 B W W'
  keep : ∀ (k : Nat) (W W' : World), I k W → Below B W W' → I k W'

/-- The loop's relation. -/
def Half (n B : Nat) (V : Nat → Option Nat) (I : Nat → World → Prop) (k : Nat) (wr : World) : Prop :=
  ∃ rs, Told ((List.range k).map V) rs ∧ (∀ r ∈ rs, r < 4294967296) ∧ FRow wr (B + 1) (B + 2) (.slice (some ⟨B + 1, 0, none⟩) n n) (rs ++ List.replicate (n - k) 0) ∧ I k wr ∧ BoxW wr B 0 0 (.slice none 0 0)

theorem Half.length {V : Nat → Option Nat} {k : Nat} {rs : List Nat} (ht : Told ((List.range k).map V) rs) : rs.length = k := by have := ht.1; simpa using this

set_option maxHeartbeats 2000000 in
theorem hillOf_any (g : FuncId) (lb : Array Value) (eg : ∀ args w, (callFunc g args).run Try.prog w = .ok (.enter g args) w) (wide high : Int) (n : Nat) (V : Nat → Option Nat) (I : Nat → World → Prop) (w : World)
    (hs : sidesB wide high = true) (hn : wide * high = (n : Int)) (ht : Tells g lb n w.heap.size V I) (h0 : I 0 w) :
    Calls Try.prog 98 #[.int .i64 wide, .int .i64 high, .func (.func g) #[] lb] w fun e w' =>
      ∃ a cap, e = .returned (.tuple #[.agg #[.int .i64 (giveH wide high ((List.range n).map V)).wide, .int .i64 (giveH wide high ((List.range n).map V)).high, .slice a (giveH wide high ((List.range n).map V)).zs.length cap], .bool (giveH wide high ((List.range n).map V)).ok])
        ∧ I n w' ∧ FRow w' w.heap.size w'.heap.size (.slice a (giveH wide high ((List.range n).map V)).zs.length cap) (giveH wide high ((List.range n).map V)).zs := by
  obtain ⟨i0, hi, hz0, hz1, hz2⟩ := info_parts info_f32
  have hb := mul_bound hs
  have hn1 : n ≤ 256 := by omega
  have hmulw : IntKind.i64.wrap (wide * high) = (n : Int) := by rw [hn]; exact IntWalk.i64_in _ (by omega)
  generalize hR : giveH wide high ((List.range n).map V) = R
  have HR := Lib.hid hR
  have Hs := Lib.hid hs
  have Hn := Lib.hid hn
  have Ht := Lib.hid ht
  have H0 := Lib.hid h0
  clear hR hs ht h0 hb
  go_enter Try.func98, Try.ntmps98
  go_wp2_with (first | (at_make; refine wpList_make_full _ rfl _ _ 22 rfl (w.heap.size + 1) 26 i0 (.float .f32 0) 1 Try.underlying22 hi hz0 hz1 _ _ _ _ n rfl rfl rfl rfl (by rw [hz2]; omega) (by unfold maxLen; omega) (by simp) ?_))
  intro w1 hown hgrow
  have hown' : w1.ownsRow (w.heap.size + 1) 26 1 (.slice (some ⟨w.heap.size + 1, 0, none⟩) n n) n ((List.replicate n 0).map (Value.float .f32)) := by
    rw [List.map_replicate, ← toList_madeCells_one]; exact hown
  have hb1 : Below w.heap.size w w1 := (below1 _ _).grown hgrow (by simp) (fun k h => by cases h)
  have hs1 : w.heap.size + 2 ≤ w1.heap.size := by
    have := (hown.lt (w.heap.size + 1) rfl).2
    omega
  have hstart : Half n w.heap.size V I 0 w1 := ⟨[], Told.nil, fun r hr => by (cases hr), ⟨by simpa using hown', fun k hk => by (simp [Value.ownBlock] at hk; omega), hs1⟩, Ht.out.keep 0 w w1 H0.out hb1, (BoxW.new w 0 0 (.slice none 0 0) 28).grown hgrow (by simp)⟩
  have Hstart := Lib.hid hstart
  have hs' : w.heap.size ≤ w1.heap.size := by omega
  clear hown hown' hgrow hmulw hb1 hstart
  go_wp2_with fail
  go_loopw [16] (fun i wr => ∃ k : Nat, k ≤ n ∧ i = .int .i64 k ∧ Half n w.heap.size V I k wr) (fun i _ => n - (intOf i).toNat)
  case atStart => exact ⟨0, Nat.zero_le _, rfl, Hstart.out⟩
  case round =>
    obtain ⟨k, hk, rfl, rs, htold, hlt32, hrow, hI, hbox⟩ := hrel
    clear Hstart
    by_cases hlt : k < n
    · have cS := Ht.out.call k wr hlt hI
      have hlen := Half.length htold
      have hll : (rs ++ List.replicate (n - k) 0).length = n := by simp; omega
      have Htold := Lib.hid htold
      have Hlt := Lib.hid hlt32
      have Hrow := Lib.hid hrow
      have Hbox := Lib.hid hbox
      have Hlen := Lib.hid hlen
      have Hll := Lib.hid hll
      have hk0 : (0 : Int) ≤ (k : Int) := by omega
      have hk1 : (k : Int) < (n : Int) := by omega
      have HcS := Lib.hid cS
      clear htold hlt32 hrow hbox hlen hll hI cS
      go_wp2_with fail
      refine HcS.out.mono ?_
      rintro e W1 ⟨r, rfl, hr, hr32, hI1, hkept⟩
      have hrow1 := Hrow.out.kept hkept (.inr (by omega))
      obtain ⟨hcell, hfz⟩ := hrow1.at k (by rw [Hll.out]; exact hlt) Hll.out.symm
      have hst := FRow.store (by rw [Hll.out]; exact hrow1) k r
      have hset : (rs ++ List.replicate (n - k) 0).set k r = (rs ++ [r]) ++ List.replicate (n - (k + 1)) 0 := by
        rw [List.set_append_right _ _ (by rw [Hlen.out]; exact Nat.le_refl _), Hlen.out, Nat.sub_self, show n - k = (n - (k + 1)) + 1 by omega, List.replicate_succ, List.set_cons_zero]
        simp
      rw [hset] at hst
      have hlen2 : ((rs ++ [r]) ++ List.replicate (n - (k + 1)) 0).length = n := by simp [Hlen.out]; omega
      rw [hlen2] at hst
      have Hst := Lib.hid hst
      have hnext : Half n w.heap.size V I (k + 1) (W1.setCell ⟨w.heap.size + 1, k, none⟩ (.float .f32 r)) :=
        ⟨rs ++ [r], by rw [List.range_succ, List.map_append]; exact Htold.out.snoc hr, fun z hz => by (rcases List.mem_append.1 hz with h | h; exact Hlt.out z h; (rw [List.mem_singleton.1 h]; exact hr32)), Hst.out.1, Ht.out.keep _ _ _ hI1 ((Below.refl _ _).setCell (by simp) _), (Hbox.out.kept hkept (.inr (Nat.le_refl _))).kept Hst.out.2 (.inl (Nat.lt_succ_self _))⟩
      have Hnext := Lib.hid hnext
      clear hst hset hlen2 hnext hrow1 hkept hI1 hr hr32
      generalize (rs ++ List.replicate (n - k) 0).getD k 0 = old at *
      go_wp2_with fail
      go_roundw
      case rel => exact ⟨k + 1, by omega, by go_num, Hnext.out⟩
      case measure => simp [intOf]; omega
    · obtain rfl : k = n := by omega
      rw [Nat.sub_self, List.replicate_zero, List.append_nil] at hrow
      have hlen := Half.length htold
      have Htold := Lib.hid htold
      have Hlt := Lib.hid hlt32
      have Hrow := Lib.hid hrow
      have Hlen := Lib.hid hlen
      have HI := Lib.hid hI
      obtain ⟨⟨r0, r1, r2, hr3⟩, rf⟩ := hbox
      have Hbox : Hid (BoxW wr w.heap.size 0 0 (.slice none 0 0)) := ⟨⟨r0, r1, r2, hr3⟩, rf⟩
      clear htold hlt32 hrow hlen hI hlt r0 r1 r2 rf
      go_wp2_with fail
      have hmade := madeHill_any wide high (some ⟨w.heap.size + 1, 0, none⟩) k rs ((List.range k).map V) (w.heap.size + 1) (w.heap.size + 2) wr Hs.out (by rw [Hlen.out, Hn.out]) Htold.out Hlt.out (by rw [Hlen.out]; exact Hrow.out)
      rw [Hlen.out, HR.out] at hmade
      refine hmade.mono ?_
      rintro e W2 ⟨a, cap, rfl, hb2, hrow2⟩
      obtain ⟨⟨r0, r1, r2, _⟩, rf⟩ := Hbox.out.below hb2 hr3
      have Hb2 := Lib.hid hb2
      have Hrow2 := Lib.hid hrow2
      clear hb2 hrow2 hmade
      go_wp2_with fail
      refine bodyPost_ret (v := .tuple #[.agg #[.int .i64 R.wide, .int .i64 R.high, .slice a R.zs.length cap], .bool R.ok]) (by simp [results, Try.results98, go_sem, r0, r1, r2]) rfl ⟨a, cap, rfl, ?_, ?_⟩
      · exact Ht.out.keep _ _ _ HI.out (belowSetBox (Hb2.out.mono (Nat.le_of_lt hr3)) (Nat.le_refl _) _ _ _)
      · exact (Hrow2.out.setBox (.inl (Nat.lt_succ_self _)) _ _ _).mono (Nat.le_succ _) (Nat.le_refl _) (Nat.le_refl _)
end Go.Proofs.Ytljehplkdofhpac
