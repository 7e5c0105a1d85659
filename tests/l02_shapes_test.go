package tests

import (
	"math"
	"slices"
	"testing"

	"loop.example/g01302/impl"
)

func TestValidHills(t *testing.T) {
	for _, h := range append(sampleHills(1), hill(1, 1, minusZero), hill(2, 1, greatest, -greatest), hill(1, 2, tiniest, -tiniest)) {
		wantThat(t, impl.ValidHill(h), true, "ValidHill", hillText(h))
	}
	for _, h := range invalidHills() {
		wantThat(t, impl.ValidHill(h), false, "ValidHill", hillText(h))
	}
	wantThat(t, impl.MaxSide, 16, "MaxSide")
}

func TestSameHills(t *testing.T) {
	list := append(invalidHills(), hill(1, 1, 0), hill(1, 1, minusZero), hill(2, 3, 1, 2, 3, 4, 5, 6), hill(3, 2, 1, 2, 3, 4, 5, 6), hill(2, 3, 1, 2, 3, 4, 5, 7), hill(2, 3, 0, 2, 3, 4, 5, 6), hill(2, 3, 1, 2, 3, 4, 5), hill(6, 1, 1, 2, 3, 4, 5, 6), hill(2, 4, 1, 2, 3, 4, 5, 6))
	for _, a := range list {
		for _, b := range list {
			wantThat(t, impl.SameHill(a, b), hillText(a) == hillText(b), "SameHill", hillText(a), hillText(b))
		}
	}
	wantThat(t, impl.SameHill(hill(1, 1, notANumber), hill(1, 1, number(0xff800001))), true, "SameHill of not-a-numbers")
	wantThat(t, impl.SameHill(impl.Hill{Wide: 1}, impl.Hill{Wide: 1, Heights: []float32{}}), true, "SameHill of no heights")
}

// wantMade compares a hill that was made, or that was not, with the heights that
// it has if they are all finite.
func wantMade(t *testing.T, got impl.Hill, ok bool, want impl.Hill, what string, args ...any) {
	t.Helper()
	if !allFinite(want.Heights) {
		want = noHill
	}
	wantResults(t, all(got, ok), all(want, want.Wide > 0), what, args...)
}

func TestSlopeHill(t *testing.T) {
	for _, c := range []struct {
		base, east, south float32
		want              impl.Hill
	}{
		{1, 2, 10, hill(3, 2, 1, 3, 5, 11, 13, 15)}, {0, 0, 0, evenHill(3, 2, 0)}, {-1, 0, 0, evenHill(1, 1, -1)}, {5, -1, 0, hill(4, 1, 5, 4, 3, 2)}, {5, 0, -2, hill(1, 3, 5, 3, 1)},
		{1e8, 1, -1e8, hill(2, 2, 1e8, 1e8, 0, 0)}, {0, 16777216, 1, hill(2, 2, 0, 16777216, 1, 16777216)}, // from left to right
		{minusZero, -1, minusZero, hill(2, 1, minusZero, -1)}, {minusZero, minusZero, 1, hill(1, 2, 0, 1)},
		{tiniest, tiniest, -tiniest, hill(2, 2, tiniest, number(2), 0, tiniest)}, {greatest, 0, 0, evenHill(16, 16, greatest)},
		{greatest, greatest, 0, evenHill(1, 1, greatest)}, {greatest, 0, greatest, evenHill(1, 1, greatest)}, {-greatest, greatest, 0, hill(2, 1, -greatest, 0)},
		{greatest, greatest, 0, hill(2, 1, infinity, infinity)}, {greatest, 0, greatest, hill(1, 2, infinity, infinity)}, {0, greatest, 0, hill(3, 1, 0, greatest, infinity)},
		{0, greatest, -greatest, hill(3, 3, notANumber)}, {-greatest, greatest, 0, hill(3, 1, notANumber)}, // 2 east is infinite, before it is added
	} {
		got, ok := impl.SlopeHill(c.want.Wide, c.want.High, c.base, c.east, c.south)
		wantMade(t, got, ok, c.want, "SlopeHill", c.base, c.east, c.south)
	}
	d := drawer(11)
	for _, side := range sides {
		base, east, south := d.moderate(), d.moderate(), d.moderate()
		want := evenHill(side[0], side[1], 0)
		for i := range want.Heights {
			x, y := float32(i%int(side[0])), float32(i/int(side[0]))
			want.Heights[i] = plus(plus(base, times(east, x)), times(south, y))
		}
		got, ok := impl.SlopeHill(side[0], side[1], base, east, south)
		wantMade(t, got, ok, want, "SlopeHill", base, east, south)
	}
}

func TestConeHill(t *testing.T) {
	r2, r5 := root(2), root(5)
	for _, c := range []struct {
		top, fall float32
		want      impl.Hill
	}{
		{2, 1, hill(3, 3, less(2, r2), 1, less(2, r2), 1, 2, 1, less(2, r2), 1, less(2, r2))}, {7, 3, hill(1, 1, 7)}, {7, 2, hill(2, 1, 6, 6)}, {7, 2, hill(1, 4, 4, 6, 6, 4)},
		{0, -1, hill(2, 2, root(0.5), root(0.5), root(0.5), root(0.5))}, {1, 0, evenHill(16, 16, 1)}, {minusZero, 0, hill(1, 1, minusZero)}, {minusZero, minusZero, hill(1, 1, 0)},
		{0, 2, hill(3, 5, -times(2, r5), -4, -times(2, r5), -times(2, r2), -2, -times(2, r2), -2, 0, -2, -times(2, r2), -2, -times(2, r2), -times(2, r5), -4, -times(2, r5))},
		{greatest, greatest, hill(1, 1, greatest)}, {greatest, greatest, hill(3, 1, 0, greatest, 0)}, {greatest, greatest, hill(5, 1, infinity)}, {-greatest, greatest, hill(3, 1, minusInf)},
	} {
		got, ok := impl.ConeHill(c.want.Wide, c.want.High, c.top, c.fall)
		wantMade(t, got, ok, c.want, "ConeHill", c.top, c.fall)
	}
	d := drawer(12)
	for _, side := range sides {
		top, fall := d.moderate(), d.moderate()
		want := evenHill(side[0], side[1], 0)
		for i := range want.Heights {
			x := float32(i%int(side[0])) - float32(side[0]-1)/2
			y := float32(i/int(side[0])) - float32(side[1]-1)/2
			want.Heights[i] = less(top, times(fall, root(plus(times(x, x), times(y, y)))))
		}
		got, ok := impl.ConeHill(side[0], side[1], top, fall)
		wantMade(t, got, ok, want, "ConeHill", top, fall)
	}
}

func TestHillsOfWrongSidesAreNotMade(t *testing.T) {
	for _, side := range [][2]int64{{0, 0}, {0, 1}, {1, 0}, {-1, 1}, {1, -1}, {-1, -1}, {17, 1}, {1, 17}, {17, 17}, {1 << 32, 1 << 32}, {1 << 40, 1}, {1, 1 << 62}, {math.MaxInt64, math.MaxInt64}, {math.MinInt64, 1}, {math.MinInt64, math.MinInt64}} {
		wantResults(t, all(impl.SlopeHill(side[0], side[1], 1, 0, 0)), all(noHill, false), "SlopeHill", side)
		wantResults(t, all(impl.ConeHill(side[0], side[1], 1, 0)), all(noHill, false), "ConeHill", side)
	}
}

func TestRoughHill(t *testing.T) {
	for _, c := range []struct {
		seed, next int64
		drawn      float32
	}{
		// 12345 is less than 65536, so 0 is drawn, less 16384.
		{0, 12345, -1}, {1, 1103527590, 454 / 16384.}, {2147483647, 1043980748, -455 / 16384.}, {1103527590, 377401575, -10626 / 16384.}, {12345, 1406932606, 5084 / 16384.},
	} {
		wantResults(t, all(impl.RoughHill(hill(1, 1, 3), 1, c.seed)), all(hill(1, 1, plus(3, c.drawn)), c.next, true), "RoughHill", c.seed)
		wantResults(t, all(impl.RoughHill(hill(1, 1, 3), -0.1, c.seed)), all(hill(1, 1, plus(3, times(-0.1, c.drawn))), c.next, true), "RoughHill", c.seed)
	}
	for n, h := range sampleHills(13) {
		seed, size := int64(n)*7919, 3+float32(n)/7
		next, want := seed, hill(h.Wide, h.High, slices.Clone(h.Heights)...)
		for i := range want.Heights {
			next = (1103515245*next + 12345) % 2147483648
			want.Heights[i] = plus(want.Heights[i], times(size, over(float32(next/65536)-16384, 16384)))
		}
		wantResults(t, all(impl.RoughHill(h, size, seed)), all(want, next, true), "RoughHill", hillText(h), size, seed)
	}
	for _, seed := range []int64{-1, 2147483648, 2147483649, 1 << 40, math.MinInt64, math.MaxInt64} {
		wantResults(t, all(impl.RoughHill(hill(1, 1, 3), 1, seed)), all(noHill, 0, false), "RoughHill", seed)
	}
	wantResults(t, all(impl.RoughHill(hill(1, 1, -greatest), greatest, 0)), all(noHill, 0, false), "RoughHill that is not finite")
	wantResults(t, all(impl.RoughHill(hill(1, 1, greatest), greatest, 0)), all(hill(1, 1, 0), 12345, true), "RoughHill that is just finite")
}

func TestAddAndScaleHills(t *testing.T) {
	a := hill(3, 1, 1, minusZero, 0)
	wantResults(t, all(impl.AddHills(a, hill(3, 1, 0.5, minusZero, minusZero))), all(hill(3, 1, 1.5, minusZero, 0), true), "AddHills")
	wantResults(t, all(impl.ScaleHill(a, -2)), all(hill(3, 1, -2, 0, minusZero), true), "ScaleHill")
	wantResults(t, all(impl.ScaleHill(hill(1, 2, tiniest, -tiniest), 0.5)), all(hill(1, 2, 0, minusZero), true), "ScaleHill of subnormal heights")
	list := sampleHills(14)
	for n, h := range list {
		for _, other := range list[:n+1] {
			sum := hill(h.Wide, h.High, slices.Clone(h.Heights)...)
			if h.Wide != other.Wide || h.High != other.High {
				wantResults(t, all(impl.AddHills(h, other)), all(noHill, false), "AddHills of other sides")
				continue
			}
			for i, x := range other.Heights {
				sum.Heights[i] = plus(sum.Heights[i], x)
			}
			got, ok := impl.AddHills(h, other)
			wantMade(t, got, ok, sum, "AddHills", hillText(h), hillText(other))
		}
		scaled := hill(h.Wide, h.High, slices.Clone(h.Heights)...)
		for i, x := range h.Heights {
			scaled.Heights[i] = times(x, -1.1)
		}
		got, ok := impl.ScaleHill(h, -1.1)
		wantMade(t, got, ok, scaled, "ScaleHill", hillText(h))
	}
	wantResults(t, all(impl.AddHills(hill(2, 1, 1, 2), hill(1, 2, 1, 2))), all(noHill, false), "AddHills of exchanged sides")
	wantResults(t, all(impl.AddHills(hill(1, 1, greatest), hill(1, 1, greatest))), all(noHill, false), "AddHills that is not finite")
	wantResults(t, all(impl.ScaleHill(hill(2, 1, 0, greatest), 1.5)), all(noHill, false), "ScaleHill that is not finite")
	for _, h := range invalidHills() {
		wantResults(t, all(impl.AddHills(h, h)), all(noHill, false), "AddHills", hillText(h))
		wantResults(t, all(impl.AddHills(hill(2, 2, 1, 1, 1, 1), h)), all(noHill, false), "AddHills", hillText(h))
	}
}

func TestTurnHill(t *testing.T) {
	wantResults(t, all(impl.TurnHill(hill(3, 2, 1, 2, 3, 4, 5, 6))), all(hill(2, 3, 4, 1, 5, 2, 6, 3), true), "TurnHill")
	wantResults(t, all(impl.TurnHill(hill(3, 1, 1, minusZero, 3))), all(hill(1, 3, 1, minusZero, 3), true), "TurnHill of a row")
	wantResults(t, all(impl.TurnHill(hill(1, 3, 1, 2, 3))), all(hill(3, 1, 3, 2, 1), true), "TurnHill of a column")
	wantResults(t, all(impl.TurnHill(hill(1, 1, minusZero))), all(hill(1, 1, minusZero), true), "TurnHill of a cell")
	for _, h := range sampleHills(15) {
		turned, ok := impl.TurnHill(h)
		wantThat(t, ok && turned.Wide == h.High && turned.High == h.Wide, true, "TurnHill", hillText(h))
		for i := range turned.Heights {
			x, y := i%int(turned.Wide), i/int(turned.Wide)
			wantNumber(t, turned.Heights[i], h.Heights[(int(h.High)-1-x)*int(h.Wide)+y], "TurnHill", hillText(h), i)
		}
		for range 3 {
			turned, _ = impl.TurnHill(turned)
		}
		wantResults(t, all(turned), all(h), "TurnHill four times", hillText(h))
	}
}

func TestSmoothHill(t *testing.T) {
	for _, c := range [][2]impl.Hill{
		{hill(1, 1, 5), hill(1, 1, 5)}, {hill(1, 1, minusZero), hill(1, 1, 0)}, {evenHill(3, 3, minusZero), evenHill(3, 3, 0)}, {evenHill(16, 16, 1), evenHill(16, 16, 1)},
		{hill(3, 1, 1, 2, 6), hill(3, 1, 1.5, 3, 4)}, {hill(1, 3, 1, 2, 6), hill(1, 3, 1.5, 3, 4)}, {hill(2, 2, 0, 1, 2, 5), evenHill(2, 2, 2)},
		{hill(3, 1, 1e8, 1, -1e8), hill(3, 1, over(1e8, 2), 0, over(-1e8, 2))},                                   // 1 + 1e8 - 1e8, in the order of the neighbours
		{hill(1, 3, 16777216, 1, 1), hill(1, 3, 8388608, over(16777216, 3), 1)},                                  // its own first: 1 + 16777216 + 1
		{hill(2, 1, tiniest, 0), hill(2, 1, 0, 0)}, {hill(2, 1, number(3), 0), hill(2, 1, number(2), number(2))}, // half of it, to even
		{hill(2, 1, greatest, 0), hill(2, 1, greatest/2, greatest/2)}, {hill(2, 1, greatest, greatest), hill(2, 1, infinity)}, {hill(3, 1, greatest, greatest, -greatest), hill(3, 1, infinity)},
	} {
		got, ok := impl.SmoothHill(c[0])
		wantMade(t, got, ok, c[1], "SmoothHill", hillText(c[0]))
	}
	for _, h := range sampleHills(16) {
		want := hill(h.Wide, h.High, slices.Clone(h.Heights)...)
		for i := range want.Heights {
			cells, _ := besideOracle(h, i)
			sum := plus(0, h.Heights[i])
			for _, k := range cells {
				sum = plus(sum, h.Heights[k])
			}
			want.Heights[i] = over(sum, float32(len(cells)+1))
		}
		got, ok := impl.SmoothHill(h)
		wantMade(t, got, ok, want, "SmoothHill", hillText(h))
	}
}

func TestDigHill(t *testing.T) {
	h := hill(2, 2, 1, minusZero, 0, 4)
	for _, c := range []struct {
		list  []int64
		depth float32
		want  impl.Hill
	}{
		{nil, 3, h}, {ints(), 3, h}, {ints(1), 3, hill(2, 2, 1, -3, 0, 4)}, {ints(0, 3), -2, hill(2, 2, 3, minusZero, 0, 6)}, {ints(0, 1, 2, 3), 0, h}, {ints(1, 2), minusZero, hill(2, 2, 1, 0, 0, 4)},
		{ints(0, 1, 2, 3), tiniest, hill(2, 2, 1, -tiniest, -tiniest, 4)}, {ints(2), -greatest, hill(2, 2, 1, minusZero, greatest, 4)}, {ints(0), 1, hill(2, 2, 0, minusZero, 0, 4)},
	} {
		wantResults(t, all(impl.DigHill(h, c.list, c.depth)), all(c.want, true), "DigHill", c.list, c.depth)
	}
	for _, list := range [][]int64{ints(-1), ints(4), ints(0, 4), ints(-1, 0), ints(1, 0), ints(2, 2), ints(0, 1, 1), ints(0, 2, 1), ints(3, 2, 1, 0), ints(math.MinInt64), ints(math.MaxInt64), ints(0, math.MaxInt64), ints(0, 1, 2, 3, 4), ints(0, 0, 0, 0, 0)} {
		wantResults(t, all(impl.DigHill(h, list, 1)), all(noHill, false), "DigHill", list)
	}
	wantResults(t, all(impl.DigHill(hill(2, 1, -greatest, 0), ints(0), greatest)), all(noHill, false), "DigHill that is not finite")
	wantResults(t, all(impl.DigHill(hill(2, 1, -greatest, 0), ints(1), greatest)), all(hill(2, 1, -greatest, -greatest), true), "DigHill that is just finite")
	whole := evenHill(16, 16, 1)
	list := make([]int64, 256)
	for i := range list {
		list[i] = int64(i)
	}
	wantResults(t, all(impl.DigHill(whole, list, 3)), all(evenHill(16, 16, -2), true), "DigHill of all cells")
}

func TestNumbersMustBeFinite(t *testing.T) {
	h := hill(2, 1, 1, 2)
	for _, x := range []float32{infinity, minusInf, notANumber, number(0xff800001)} {
		wantResults(t, all(impl.SlopeHill(1, 1, x, 0, 0)), all(noHill, false), "SlopeHill", x)
		wantResults(t, all(impl.SlopeHill(1, 1, 0, x, 0)), all(noHill, false), "SlopeHill", x)
		wantResults(t, all(impl.SlopeHill(1, 1, 0, 0, x)), all(noHill, false), "SlopeHill", x)
		wantResults(t, all(impl.ConeHill(1, 1, x, 0)), all(noHill, false), "ConeHill", x)
		wantResults(t, all(impl.ConeHill(1, 1, 0, x)), all(noHill, false), "ConeHill", x)
		wantResults(t, all(impl.RoughHill(h, x, 0)), all(noHill, 0, false), "RoughHill", x)
		wantResults(t, all(impl.ScaleHill(h, x)), all(noHill, false), "ScaleHill", x)
		wantResults(t, all(impl.DigHill(h, nil, x)), all(noHill, false), "DigHill", x)
		wantResults(t, all(impl.RainThrough(h, ints(-1, -1), floats(1, x))), all(floats(), false), "RainThrough", x)
		wantResults(t, all(impl.ShadeOf(h, x, 1)), all(floats(), false), "ShadeOf", x)
		wantResults(t, all(impl.ShadeOf(h, 0, x)), all(floats(), false), "ShadeOf", x)
		wantResults(t, all(impl.SeesOver(h, 0, 1, x)), all(false, false), "SeesOver", x)
	}
}
