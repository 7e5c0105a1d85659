/- Whether hills are the same: the program and its model. -/
import Derived.Test.YtfdcfalkidcdnacIs
import Derived.Shelf.Abstract
namespace Go.Proofs.Ytfdcfalkidcdnac
open Go.RowKit Go.Shelf
set_option maxRecDepth 100000

theorem same_is (x y : Nat) (hx : x < 4294967296) (hy : y < 4294967296) (b : Bool) (hb : (bitsI x == bitsI y) = b) (w : World) (F : FuncId) (hF : F = 125 ∨ F = 92) :
    Calls Try.prog F #[.float .f32 x, .float .f32 y] w fun e w' => e = .returned (.bool b) ∧ w = w' := by
  subst hb
  rcases hF with rfl | rfl
  · go_enter Try.func125, Try.ntmps125
    go_wp2_with fail
    refine (bits_no x _ hx _ (.inl rfl)).mono ?_; rintro e w' ⟨rfl, rfl⟩
    go_wp2_with fail
    refine (bits_no y _ hy _ (.inl rfl)).mono ?_; rintro e w' ⟨rfl, rfl⟩
    go_wp2_with fail
    go_ret
    exact ⟨rfl, rfl⟩
  · go_enter Try.func92, Try.ntmps92
    go_wp2_with fail
    refine (bits_no x _ hx _ (.inr rfl)).mono ?_; rintro e w' ⟨rfl, rfl⟩
    go_wp2_with fail
    refine (bits_no y _ hy _ (.inr rfl)).mono ?_; rintro e w' ⟨rfl, rfl⟩
    go_wp2_with fail
    go_ret
    exact ⟨rfl, rfl⟩

theorem same_q (x y : Nat) (hx : x < 4294967296) (hy : y < 4294967296) (b : Bool) (hb : (bitsI x == bitsI y) = b) (w : World) :
    Calls Try.prog 125 #[.float .f32 x, .float .f32 y] w fun e w' => e = .returned (.bool b) ∧ w' = w :=
  (same_is x y hx hy b hb w _ (.inl rfl)).mono fun _ _ ⟨h1, h2⟩ => ⟨h1, h2.symm⟩

def sameAt (zs ys : List Nat) (k : Nat) : Bool := bitsI (zs.getD k 0) == bitsI (ys.getD k 0)
def sameTo (zs ys : List Nat) (k : Nat) : Bool := (List.range k).all (sameAt zs ys)
def sameL (zs ys : List Nat) : Bool := decide (zs.length = ys.length) && sameTo zs ys zs.length
theorem sameTo_succ {zs ys : List Nat} {k : Nat} (h : sameTo zs ys k = true) (hk : sameAt zs ys k = true) : sameTo zs ys (k + 1) = true := by
  unfold sameTo at *
  rw [List.range_succ, List.all_append, h]
  simp [hk]
theorem sameTo_not {zs ys : List Nat} {k n : Nat} (hk : k < n) (h : sameAt zs ys k = false) : sameTo zs ys n = false := by
  unfold sameTo
  rw [List.all_eq_false]
  exact ⟨k, List.mem_range.2 hk, by simp [h]⟩
theorem getD_lt {zs : List Nat} (hz : ∀ z ∈ zs, z < 4294967296) (k : Nat) : zs.getD k 0 < 4294967296 := by
  rw [List.getD_eq_getElem?_getD]
  rcases Nat.lt_or_ge k zs.length with h | h
  · rw [List.getElem?_eq_getElem h]; exact hz _ (List.getElem_mem h)
  · rw [List.getElem?_eq_none h]; decide

set_option maxHeartbeats 2000000 in
theorem equalFunc_any (a a' : Option Addr) (cap cap' : Nat) (zs ys : List Nat) (w : World) (h : RowF .f32 w a zs) (h' : RowF .f32 w a' ys) (hl : zs.length ≤ 1048576) (_hl' : ys.length ≤ 1048576) (hz : ∀ z ∈ zs, z < 4294967296) (hy : ∀ z ∈ ys, z < 4294967296) :
    Calls Try.prog 91 #[.slice a zs.length cap, .slice a' ys.length cap', .func (.func 92) #[] #[]] w fun e w' => e = .returned (.bool (sameL zs ys)) ∧ w = w' := by
  have Hc := Lib.hid h.cells
  have Hc' := Lib.hid h'.cells
  have Hz := Lib.hid (getD_lt hz)
  have Hy := Lib.hid (getD_lt hy)
  clear h h' hz hy
  unfold sameL
  by_cases he : zs.length = ys.length
  · rw [decide_eq_true he, Bool.true_and]
    obtain ⟨len, hlen⟩ : ∃ len, zs.length = len := ⟨_, rfl⟩
    have hlen' : ys.length = len := by rw [← he]; exact hlen
    rw [hlen] at hl ⊢
    rw [hlen']
    have Hlen := Lib.hid hlen
    have Hlen' := Lib.hid hlen'
    clear hlen hlen' he
    go_enter Try.func91, Try.ntmps91
    go_wp2_with fail
    go_loop [17] (fun i => ∃ k : Nat, k ≤ len ∧ i = .int .i64 k ∧ sameTo zs ys k = true) (fun i => len - (intOf i).toNat)
    case atStart => exact ⟨0, Nat.zero_le _, rfl, rfl⟩
    case round =>
      obtain ⟨k, hk, rfl, hall⟩ := hrel
      have Hall := Lib.hid hall
      clear hall
      by_cases hlt : k < len
      · obtain ⟨b, off, rfl, h1⟩ := Hc.out k (by rw [Hlen.out]; exact hlt)
        obtain ⟨b', off', rfl, h2⟩ := Hc'.out k (by rw [Hlen'.out]; exact hlt)
        have hk0 : (0 : Int) ≤ (k : Int) := by omega
        have hk1 : (k : Int) < (len : Int) := by omega
        cases hs : sameAt zs ys k
        · have Hno := Lib.hid (sameTo_not hlt hs)
          have HS := Lib.hid (same_is _ _ (Hz.out k) (Hy.out k) false hs · 92 (.inr rfl))
          clear hs
          generalize zs.getD k 0 = z at *
          generalize ys.getD k 0 = y at *
          go_wp2_with fail
          refine (HS.out _).mono ?_
          rintro e w' ⟨rfl, rfl⟩
          go_wp2_with fail
          go_ret
          exact ⟨by rw [Hno.out]; rfl, rfl⟩
        · have Hyes := Lib.hid (sameTo_succ Hall.out hs)
          have HS := Lib.hid (same_is _ _ (Hz.out k) (Hy.out k) true hs · 92 (.inr rfl))
          clear hs
          generalize zs.getD k 0 = z at *
          generalize ys.getD k 0 = y at *
          go_wp2_with fail
          refine (HS.out _).mono ?_
          rintro e w' ⟨rfl, rfl⟩
          go_wp2_with fail
          go_round
          case rel => exact ⟨k + 1, by omega, by go_num, Hyes.out⟩
          case measure => simp [intOf]; omega
      · obtain rfl : k = len := by omega
        go_wp2_with fail
        go_ret
        exact ⟨by rw [Hall.out]; rfl, rfl⟩
  · rw [decide_eq_false he, Bool.false_and]
    have hne : ((zs.length : Int) != (ys.length : Int)) = true := by rw [bne_iff_ne]; omega
    go_enter Try.func91, Try.ntmps91
    go_wp2_with fail
    go_ret
    exact ⟨rfl, rfl⟩

set_option maxHeartbeats 2000000 in
theorem l01SameAll_any (a a' : Option Addr) (cap cap' : Nat) (zs ys : List Nat) (w : World) (h : RowF .f32 w a zs) (h' : RowF .f32 w a' ys) (hl : zs.length ≤ 1048576) (_hl' : ys.length ≤ 1048576) (hz : ∀ z ∈ zs, z < 4294967296) (hy : ∀ z ∈ ys, z < 4294967296) :
    Calls Try.prog 116 #[.slice a zs.length cap, .slice a' ys.length cap'] w fun e w' => e = .returned (.bool (sameL zs ys)) ∧ ∃ n, w' = w.drewN n := by
  have Hc := Lib.hid h.cells
  have Hc' := Lib.hid h'.cells
  have Hz := Lib.hid (getD_lt hz)
  have Hy := Lib.hid (getD_lt hy)
  clear h h' hz hy
  unfold sameL
  by_cases he : zs.length = ys.length
  · rw [decide_eq_true he, Bool.true_and]
    obtain ⟨len, hlen⟩ : ∃ len, zs.length = len := ⟨_, rfl⟩
    have hlen' : ys.length = len := by rw [← he]; exact hlen
    rw [hlen] at hl ⊢
    rw [hlen']
    have Hlen := Lib.hid hlen
    have Hlen' := Lib.hid hlen'
    clear hlen hlen' he
    go_enter Try.func116, Try.ntmps116
    go_wp2_with fail
    go_loopw [5] (fun i wr => ∃ k n : Nat, k ≤ len ∧ i = .int .i64 k ∧ sameTo zs ys k = true ∧ wr = w.drewN n) (fun i _ => len - (intOf i).toNat)
    case atStart => exact ⟨0, 0, Nat.zero_le _, rfl, rfl, rfl⟩
    case round =>
      obtain ⟨k, n, hk, rfl, hall, hwr⟩ := hrel
      have Hall := Lib.hid hall
      have Hwr := Lib.hid hwr
      clear hall hwr
      by_cases hlt : k < len
      · obtain ⟨b, off, rfl, h1⟩ := Hc.out k (by rw [Hlen.out]; exact hlt)
        obtain ⟨b', off', rfl, h2⟩ := Hc'.out k (by rw [Hlen'.out]; exact hlt)
        have h3 : wr.cell? ⟨b, off + k, none⟩ = some (.float .f32 (zs.getD k 0)) := by rw [Hwr.out]; exact h1
        have h4 : wr.cell? ⟨b', off' + k, none⟩ = some (.float .f32 (ys.getD k 0)) := by rw [Hwr.out]; exact h2
        clear h1 h2
        have hk0 : (0 : Int) ≤ (k : Int) := by omega
        have hk1 : (k : Int) < (len : Int) := by omega
        cases hs : sameAt zs ys k
        · have Hno := Lib.hid (sameTo_not hlt hs)
          have HS := Lib.hid (same_q _ _ (Hz.out k) (Hy.out k) false hs)
          clear hs
          generalize zs.getD k 0 = z at *
          generalize ys.getD k 0 = y at *
          go_wp2_with fail
          go_quiet ((go_at_call 125; exact Calls.quiet_of_same (HS.out _)))
          go_wp2_with fail
          go_ret
          exact ⟨by rw [Hno.out]; rfl, _, by rw [Hwr.out, World.drewN_drewN]⟩
        · have Hyes := Lib.hid (sameTo_succ Hall.out hs)
          have HS := Lib.hid (same_q _ _ (Hz.out k) (Hy.out k) true hs)
          clear hs
          generalize zs.getD k 0 = z at *
          generalize ys.getD k 0 = y at *
          go_wp2_with fail
          go_quiet ((go_at_call 125; exact Calls.quiet_of_same (HS.out _)))
          go_wp2_with fail
          go_roundw
          case rel => exact ⟨k + 1, _, by omega, by go_num, Hyes.out, by rw [Hwr.out, World.drewN_drewN]⟩
          case measure => simp [intOf]; omega
      · obtain rfl : k = len := by omega
        go_wp2_with fail
        go_ret
        exact ⟨by rw [Hall.out]; rfl, _, Hwr.out⟩
  · rw [decide_eq_false he, Bool.false_and]
    have hne : ((zs.length : Int) != (ys.length : Int)) = true := by rw [bne_iff_ne]; omega
    go_enter Try.func116, Try.ntmps116
    go_wp2_with fail
    go_ret
    exact ⟨rfl, 0, rfl⟩

def resSameHill (wa ha : Int) (zs : List Nat) (wb hb : Int) (ys : List Nat) : Bool := decide (wa = wb) && (decide (ha = hb) && sameL zs ys)

set_option maxHeartbeats 2000000 in
theorem sameHill_impl (wa ha : Int) (a : Option Addr) (cap : Nat) (zs : List Nat) (wb hb : Int) (a' : Option Addr) (cap' : Nat) (ys : List Nat) (w : World) (h : RowF .f32 w a zs) (hl : zs.length ≤ 1048576) (hz : ∀ z ∈ zs, z < 4294967296) (h' : RowF .f32 w a' ys) (hl' : ys.length ≤ 1048576) (hy : ∀ z ∈ ys, z < 4294967296) :
    Calls Try.prog 44 #[.agg #[.int .i64 wa, .int .i64 ha, .slice a zs.length cap], .agg #[.int .i64 wb, .int .i64 hb, .slice a' ys.length cap']] w (Says (resSameHill wa ha zs wb hb ys) w) := by
  have H := Lib.hid h
  have H' := Lib.hid h'
  have Hz := Lib.hid hz
  have Hy := Lib.hid hy
  unfold resSameHill
  clear h h' hz hy
  by_cases h1 : wa = wb
  · have e1 : (wa == wb) = true := by simpa using h1
    rw [decide_eq_true h1]
    have H1 := Lib.hid h1
    clear h1
    by_cases h2 : ha = hb
    · have e2 : (ha == hb) = true := by simpa using h2
      rw [decide_eq_true h2]
      have H2 := Lib.hid h2
      clear h2
      go_enter Try.func44, Try.ntmps44
      go_wp2_with fail
      refine (equalFunc_any a a' cap cap' zs ys _ (H.out.below (below2 _ _ _) (Nat.le_refl _)) (H'.out.below (below2 _ _ _) (Nat.le_refl _)) hl hl' Hz.out Hy.out).mono ?_
      rintro e w1 ⟨rfl, rfl⟩
      go_wp2_with fail
      go_ret
      exact ⟨by rw [Bool.true_and, Bool.true_and]; rfl, below2 _ _ _⟩
    · have e2 : (ha == hb) = false := by simpa using h2
      rw [decide_eq_false h2]
      have H2 := Lib.hid h2
      clear h2
      go_enter Try.func44, Try.ntmps44
      go_wp2_with fail
      go_ret
      exact ⟨rfl, below2 _ _ _⟩
  · have e1 : (wa == wb) = false := by simpa using h1
    rw [decide_eq_false h1]
    have H1 := Lib.hid h1
    clear h1
    go_enter Try.func44, Try.ntmps44
    go_wp2_with fail
    go_ret
    exact ⟨rfl, below2 _ _ _⟩

set_option maxHeartbeats 2000000 in
theorem l02Same_any (b b' : Nat) (wa ha : Int) (a : Option Addr) (cap : Nat) (zs : List Nat) (wb hb : Int) (a' : Option Addr) (cap' : Nat) (ys : List Nat) (w : World) (k0 : w.cell? ⟨b, 0, none⟩ = some (.int .i64 wa)) (k1 : w.cell? ⟨b, 1, none⟩ = some (.int .i64 ha)) (k2 : w.cell? ⟨b, 2, none⟩ = some (.slice a zs.length cap))
    (m0 : w.cell? ⟨b', 0, none⟩ = some (.int .i64 wb)) (m1 : w.cell? ⟨b', 1, none⟩ = some (.int .i64 hb)) (m2 : w.cell? ⟨b', 2, none⟩ = some (.slice a' ys.length cap')) (h : RowF .f32 w a zs) (hl : zs.length ≤ 1048576) (hz : ∀ z ∈ zs, z < 4294967296) (h' : RowF .f32 w a' ys) (hl' : ys.length ≤ 1048576) (hy : ∀ z ∈ ys, z < 4294967296) :
    Calls Try.prog 90 #[.pointer (some ⟨b, 0, none⟩), .pointer (some ⟨b', 0, none⟩)] w fun e w' => e = .returned (.bool (resSameHill wa ha zs wb hb ys)) ∧ ∃ n, w' = w.drewN n := by
  have H := Lib.hid h
  have H' := Lib.hid h'
  have Hz := Lib.hid hz
  have Hy := Lib.hid hy
  unfold resSameHill
  clear h h' hz hy
  by_cases h1 : wa = wb
  · have e1 : (wa == wb) = true := by simpa using h1
    rw [decide_eq_true h1]
    have H1 := Lib.hid h1
    clear h1
    by_cases h2 : ha = hb
    · have e2 : (ha == hb) = true := by simpa using h2
      rw [decide_eq_true h2, Bool.true_and, Bool.true_and]
      have H2 := Lib.hid h2
      clear h2
      go_enter Try.func90, Try.ntmps90
      go_wp2_with fail
      go_quiet ((go_at_call 116; exact Calls.quiet_of (l01SameAll_any a a' cap cap' zs ys _ (H.out.drewN _) (H'.out.drewN _) hl hl' Hz.out Hy.out)))
      go_wp2_with fail
      go_ret
      exact ⟨rfl, _, rfl⟩
    · have e2 : (ha == hb) = false := by simpa using h2
      rw [decide_eq_false h2]
      have H2 := Lib.hid h2
      clear h2
      go_enter Try.func90, Try.ntmps90
      go_wp2_with fail
      go_quiet (fail)
      go_wp2_with fail
      go_ret
      exact ⟨rfl, _, rfl⟩
  · have e1 : (wa == wb) = false := by simpa using h1
    rw [decide_eq_false h1]
    have H1 := Lib.hid h1
    clear h1
    go_enter Try.func90, Try.ntmps90
    go_wp2_with fail
    go_quiet (fail)
    go_wp2_with fail
    go_ret
    exact ⟨rfl, _, rfl⟩

set_option maxHeartbeats 2000000 in
theorem sameHill_spec (wa ha : Int) (a : Option Addr) (cap : Nat) (zs : List Nat) (wb hb : Int) (a' : Option Addr) (cap' : Nat) (ys : List Nat) (w : World) (h : RowF .f32 w a zs) (hl : zs.length ≤ 1048576) (hz : ∀ z ∈ zs, z < 4294967296) (h' : RowF .f32 w a' ys) (hl' : ys.length ≤ 1048576) (hy : ∀ z ∈ ys, z < 4294967296) :
    Calls Try.prog 43 #[.agg #[.int .i64 wa, .int .i64 ha, .slice a zs.length cap], .agg #[.int .i64 wb, .int .i64 hb, .slice a' ys.length cap']] w (Says (resSameHill wa ha zs wb hb ys) w) := by
  have H := Lib.hid h
  have H' := Lib.hid h'
  have Hz := Lib.hid hz
  have Hy := Lib.hid hy
  clear h h' hz hy
  go_enter Try.func43, Try.ntmps43
  go_wp2_with fail
  refine (l02Same_any _ _ wa ha a cap zs wb hb a' cap' ys _ (by simp [go_sem]) (by simp [go_sem]) (by simp [go_sem]) (by simp [go_sem]) (by simp [go_sem]) (by simp [go_sem]) (H.out.below (below2 _ _ _) (Nat.le_refl _)) hl Hz.out (H'.out.below (below2 _ _ _) (Nat.le_refl _)) hl' Hy.out).mono ?_
  rintro e w' ⟨rfl, n, rfl⟩
  go_wp2_with fail
  go_ret
  exact ⟨rfl, below_drewN (below2 _ _ _) _⟩
end Go.Proofs.Ytfdcfalkidcdnac
