/- Complex numbers that are finite; rises along rows and columns: the program. -/
import Derived.Test.YtdpnkpgfepckdaaTiltB
import Derived.Test.YtdpnkpgfepckdaaTiltC
import Derived.Deep.Cut
import Derived.Laws.Cover3
namespace Go.Proofs.Ytdpnkpgfepckdaa
open Go.RowKit
set_option linter.unusedVariables false
set_option linter.unusedSimpArgs false
set_option maxRecDepth 100000
attribute [local irreducible] wpV wpList Code.wp

theorem icfin_any {X Y : Option Nat} {r1 r2 : Nat} (w : World) (h1 : Is32 X r1) (h2 : Is32 Y r2) : Calls Try.prog 59 #[.complex .f32 r1 r2] w (SayS (fin32o X && fin32o Y) w) := by
  have H1 := Lib.hid h1
  have H2 := Lib.hid h2
  clear h1 h2
  go_enter Try.func59, Try.ntmps59
  go_wp2_with fail
  refine (isFin_o _ H1.out).mono ?_
  rintro e w1 ⟨b1, hb1, rfl, rfl⟩
  have HB1 := Lib.hid hb1
  clear hb1
  cases b1
  · go_wp2_with fail
    go_ret
    exact ⟨false, by rw [HB1.out, Bool.false_and], rfl, rfl⟩
  go_wp2_with fail
  refine (isFin_o _ H2.out).mono ?_
  rintro e w2 ⟨b2, hb2, rfl, rfl⟩
  have HB2 := Lib.hid hb2
  clear hb2
  cases b2
  · go_wp2_with fail
    go_ret
    exact ⟨false, by rw [HB1.out, HB2.out]; rfl, rfl, rfl⟩
  · go_wp2_with fail
    go_ret
    exact ⟨true, by rw [HB1.out, HB2.out]; rfl, rfl, rfl⟩

theorem rowX {wn y x : Nat} {zs : List Nat} (hx : x < wn) : riseL (rowL wn zs y) x wn = tiltX wn zs x y := by
  unfold riseL tiltX
  rw [rowL_get (hiN_lt hx), rowL_get (show x - 1 < wn by omega)]
theorem colY {wn hn y x : Nat} {zs : List Nat} (hy : y < hn) : riseL (colL wn hn zs x) y hn = tiltY wn hn zs x y := by
  unfold riseL tiltY
  rw [colL_get (hiN_lt hy), colL_get (show y - 1 < hn by omega)]
end Go.Proofs.Ytdpnkpgfepckdaa
