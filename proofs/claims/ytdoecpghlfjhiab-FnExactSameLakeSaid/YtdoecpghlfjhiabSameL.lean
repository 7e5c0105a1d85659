/- Whether lists of numbers are the same: the program and its model. -/
import Derived.Test.YtdoecpghlfjhiabSame
import Derived.Test.YtdoecpghlfjhiabBitOps
import Derived.Test.YtdoecpghlfjhiabFk
import Derived.Test.YtdoecpghlfjhiabRowF
import Derived.Shelf.Abstract
namespace Go.Proofs.Ytdoecpghlfjhiab
open Go.RowKit Go.Shelf
set_option maxRecDepth 100000

theorem same_is (x y : Nat) (hx : x < 4294967296) (hy : y < 4294967296) (b : Bool) (hb : (bitsI x == bitsI y) = b) (w : World) (F : FuncId) (hF : F = 91 ∨ F = 98) :
    Calls Try.prog F #[.float .f32 x, .float .f32 y] w fun e w' => e = .returned (.bool b) ∧ w = w' := by
  subst hb
  rcases hF with rfl | rfl
  · go_enter Try.func91, Try.ntmps91
    go_wp2_with fail
    refine (bits_no x _ hx _ (.inl rfl)).mono ?_; rintro e w' ⟨rfl, rfl⟩
    go_wp2_with fail
    refine (bits_no y _ hy _ (.inl rfl)).mono ?_; rintro e w' ⟨rfl, rfl⟩
    go_wp2_with fail
    go_ret
    exact ⟨rfl, rfl⟩
  · go_enter Try.func98, Try.ntmps98
    go_wp2_with fail
    refine (bits_no x _ hx _ (.inr rfl)).mono ?_; rintro e w' ⟨rfl, rfl⟩
    go_wp2_with fail
    refine (bits_no y _ hy _ (.inr rfl)).mono ?_; rintro e w' ⟨rfl, rfl⟩
    go_wp2_with fail
    go_ret
    exact ⟨rfl, rfl⟩

theorem same_q (x y : Nat) (hx : x < 4294967296) (hy : y < 4294967296) (b : Bool) (hb : (bitsI x == bitsI y) = b) (w : World) :
    Calls Try.prog 91 #[.float .f32 x, .float .f32 y] w fun e w' => e = .returned (.bool b) ∧ w' = w :=
  (same_is x y hx hy b hb w _ (.inl rfl)).mono fun _ _ ⟨h1, h2⟩ => ⟨h1, h2.symm⟩

def sameAt (zs ys : List Nat) (k : Nat) : Bool := bitsI (zs.getD k 0) == bitsI (ys.getD k 0)
def sameTo (zs ys : List Nat) (k : Nat) : Bool := (List.range k).all (sameAt zs ys)
def sameL (zs ys : List Nat) : Bool := decide (zs.length = ys.length) && sameTo zs ys zs.length
theorem sameTo_succ {zs ys : List Nat} {k : Nat} (h : sameTo zs ys k = true) (hk : sameAt zs ys k = true) : sameTo zs ys (k + 1) = true := by
  unfold sameTo at *
  rw [List.range_succ, List.all_append, h]
  simp [hk]
theorem sameTo_not {zs ys : List Nat} {k n : Nat} (hk : k < n) (h : sameAt zs ys k = false) : sameTo zs ys n = false := by
  unfold sameTo
  rw [List.all_eq_false]
  exact ⟨k, List.mem_range.2 hk, by simp [h]⟩
theorem getD_lt {zs : List Nat} (hz : ∀ z ∈ zs, z < 4294967296) (k : Nat) : zs.getD k 0 < 4294967296 := by
  rw [List.getD_eq_getElem?_getD]
  rcases Nat.lt_or_ge k zs.length with h | h
  · rw [List.getElem?_eq_getElem h]; exact hz _ (List.getElem_mem h)
  · rw [List.getElem?_eq_none h]; decide

set_option maxHeartbeats 2000000 in
theorem equalFunc_any (a a' : Option Addr) (cap cap' : Nat) (zs ys : List Nat) (w : World) (h : RowF .f32 w a zs) (h' : RowF .f32 w a' ys) (hl : zs.length ≤ 1048576) (_hl' : ys.length ≤ 1048576) (hz : ∀ z ∈ zs, z < 4294967296) (hy : ∀ z ∈ ys, z < 4294967296) :
    Calls Try.prog 97 #[.slice a zs.length cap, .slice a' ys.length cap', .func (.func 98) #[] #[]] w fun e w' => e = .returned (.bool (sameL zs ys)) ∧ w = w' := by
  have Hc := Lib.hid h.cells
  have Hc' := Lib.hid h'.cells
  have Hz := Lib.hid (getD_lt hz)
  have Hy := Lib.hid (getD_lt hy)
  clear h h' hz hy
  unfold sameL
  by_cases he : zs.length = ys.length
  · rw [decide_eq_true he, Bool.true_and]
    obtain ⟨len, hlen⟩ : ∃ len, zs.length = len := ⟨_, rfl⟩
    have hlen' : ys.length = len := by rw [← he]; exact hlen
    rw [hlen] at hl ⊢
    rw [hlen']
    have Hlen := Lib.hid hlen
    have Hlen' := Lib.hid hlen'
    clear hlen hlen' he
    go_enter Try.func97, Try.ntmps97
    go_wp2_with fail
    go_loop [17] (fun i => ∃ k : Nat, k ≤ len ∧ i = .int .i64 k ∧ sameTo zs ys k = true) (fun i => len - (intOf i).toNat)
    case atStart => exact ⟨0, Nat.zero_le _, rfl, rfl⟩
    case round =>
      obtain ⟨k, hk, rfl, hall⟩ := hrel
      have Hall := Lib.hid hall
      clear hall
      by_cases hlt : k < len
      · obtain ⟨b, off, rfl, h1⟩ := Hc.out k (by rw [Hlen.out]; exact hlt)
        obtain ⟨b', off', rfl, h2⟩ := Hc'.out k (by rw [Hlen'.out]; exact hlt)
        have hk0 : (0 : Int) ≤ (k : Int) := by omega
        have hk1 : (k : Int) < (len : Int) := by omega
        cases hs : sameAt zs ys k
        · have Hno := Lib.hid (sameTo_not hlt hs)
          have HS := Lib.hid (same_is _ _ (Hz.out k) (Hy.out k) false hs · 98 (.inr rfl))
          clear hs
          generalize zs.getD k 0 = z at *
          generalize ys.getD k 0 = y at *
          go_wp2_with fail
          refine (HS.out _).mono ?_
          rintro e w' ⟨rfl, rfl⟩
          go_wp2_with fail
          go_ret
          exact ⟨by rw [Hno.out]; rfl, rfl⟩
        · have Hyes := Lib.hid (sameTo_succ Hall.out hs)
          have HS := Lib.hid (same_is _ _ (Hz.out k) (Hy.out k) true hs · 98 (.inr rfl))
          clear hs
          generalize zs.getD k 0 = z at *
          generalize ys.getD k 0 = y at *
          go_wp2_with fail
          refine (HS.out _).mono ?_
          rintro e w' ⟨rfl, rfl⟩
          go_wp2_with fail
          go_round
          case rel => exact ⟨k + 1, by omega, by go_num, Hyes.out⟩
          case measure => simp [intOf]; omega
      · obtain rfl : k = len := by omega
        go_wp2_with fail
        go_ret
        exact ⟨by rw [Hall.out]; rfl, rfl⟩
  · rw [decide_eq_false he, Bool.false_and]
    have hne : ((zs.length : Int) != (ys.length : Int)) = true := by rw [bne_iff_ne]; omega
    go_enter Try.func97, Try.ntmps97
    go_wp2_with fail
    go_ret
    exact ⟨rfl, rfl⟩

set_option maxHeartbeats 2000000 in
theorem l01SameAll_any (a a' : Option Addr) (cap cap' : Nat) (zs ys : List Nat) (w : World) (h : RowF .f32 w a zs) (h' : RowF .f32 w a' ys) (hl : zs.length ≤ 1048576) (_hl' : ys.length ≤ 1048576) (hz : ∀ z ∈ zs, z < 4294967296) (hy : ∀ z ∈ ys, z < 4294967296) :
    Calls Try.prog 96 #[.slice a zs.length cap, .slice a' ys.length cap'] w fun e w' => e = .returned (.bool (sameL zs ys)) ∧ ∃ n, w' = w.drewN n := by
  have Hc := Lib.hid h.cells
  have Hc' := Lib.hid h'.cells
  have Hz := Lib.hid (getD_lt hz)
  have Hy := Lib.hid (getD_lt hy)
  clear h h' hz hy
  unfold sameL
  by_cases he : zs.length = ys.length
  · rw [decide_eq_true he, Bool.true_and]
    obtain ⟨len, hlen⟩ : ∃ len, zs.length = len := ⟨_, rfl⟩
    have hlen' : ys.length = len := by rw [← he]; exact hlen
    rw [hlen] at hl ⊢
    rw [hlen']
    have Hlen := Lib.hid hlen
    have Hlen' := Lib.hid hlen'
    clear hlen hlen' he
    go_enter Try.func96, Try.ntmps96
    go_wp2_with fail
    go_loopw [5] (fun i wr => ∃ k n : Nat, k ≤ len ∧ i = .int .i64 k ∧ sameTo zs ys k = true ∧ wr = w.drewN n) (fun i _ => len - (intOf i).toNat)
    case atStart => exact ⟨0, 0, Nat.zero_le _, rfl, rfl, rfl⟩
    case round =>
      obtain ⟨k, n, hk, rfl, hall, hwr⟩ := hrel
      have Hall := Lib.hid hall
      have Hwr := Lib.hid hwr
      clear hall hwr
      by_cases hlt : k < len
      · obtain ⟨b, off, rfl, h1⟩ := Hc.out k (by rw [Hlen.out]; exact hlt)
        obtain ⟨b', off', rfl, h2⟩ := Hc'.out k (by rw [Hlen'.out]; exact hlt)
        have h3 : wr.cell? ⟨b, off + k, none⟩ = some (.float .f32 (zs.getD k 0)) := by rw [Hwr.out]; exact h1
        have h4 : wr.cell? ⟨b', off' + k, none⟩ = some (.float .f32 (ys.getD k 0)) := by rw [Hwr.out]; exact h2
        clear h1 h2
        have hk0 : (0 : Int) ≤ (k : Int) := by omega
        have hk1 : (k : Int) < (len : Int) := by omega
        cases hs : sameAt zs ys k
        · have Hno := Lib.hid (sameTo_not hlt hs)
          have HS := Lib.hid (same_q _ _ (Hz.out k) (Hy.out k) false hs)
          clear hs
          generalize zs.getD k 0 = z at *
          generalize ys.getD k 0 = y at *
          go_wp2_with fail
          go_quiet ((go_at_call 91; exact Calls.quiet_of_same (HS.out _)))
          go_wp2_with fail
          go_ret
          exact ⟨by rw [Hno.out]; rfl, _, by rw [Hwr.out, World.drewN_drewN]⟩
        · have Hyes := Lib.hid (sameTo_succ Hall.out hs)
          have HS := Lib.hid (same_q _ _ (Hz.out k) (Hy.out k) true hs)
          clear hs
          generalize zs.getD k 0 = z at *
          generalize ys.getD k 0 = y at *
          go_wp2_with fail
          go_quiet ((go_at_call 91; exact Calls.quiet_of_same (HS.out _)))
          go_wp2_with fail
          go_roundw
          case rel => exact ⟨k + 1, _, by omega, by go_num, Hyes.out, by rw [Hwr.out, World.drewN_drewN]⟩
          case measure => simp [intOf]; omega
      · obtain rfl : k = len := by omega
        go_wp2_with fail
        go_ret
        exact ⟨by rw [Hall.out]; rfl, _, Hwr.out⟩
  · rw [decide_eq_false he, Bool.false_and]
    have hne : ((zs.length : Int) != (ys.length : Int)) = true := by rw [bne_iff_ne]; omega
    go_enter Try.func96, Try.ntmps96
    go_wp2_with fail
    go_ret
    exact ⟨rfl, 0, rfl⟩
end Go.Proofs.Ytdoecpghlfjhiab
