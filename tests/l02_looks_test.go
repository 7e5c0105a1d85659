package tests

import (
	"math"
	"testing"

	"loop.example/g01302/impl"
)

func TestTiltAtByHand(t *testing.T) {
	slope := hill(3, 3, 0, 1, 5, 10, 20, 40, 100, 300, 500)
	for i, want := range []complex64{complex(1, 10), complex(2.5, 19), complex(4, 35), complex(10, 50), complex(15, 149.5), complex(20, 247.5), complex(200, 90), complex(200, 280), complex(200, 460)} {
		wantResults(t, all(impl.TiltAt(slope, int64(i))), all(want, true), "TiltAt", i)
	}
	m := minusZero
	for _, c := range []struct {
		h    impl.Hill
		i    int64
		want complex64
	}{
		{hill(1, 1, 9), 0, 0}, {hill(1, 1, m), 0, 0}, {hill(4, 1, 1, 2, 4, 8), 0, 1}, {hill(4, 1, 1, 2, 4, 8), 1, 1.5}, {hill(4, 1, 1, 2, 4, 8), 2, 3}, {hill(4, 1, 1, 2, 4, 8), 3, 4},
		{hill(1, 4, 1, 2, 4, 8), 0, complex(0, 1)}, {hill(1, 4, 1, 2, 4, 8), 1, complex(0, 1.5)}, {hill(1, 4, 1, 2, 4, 8), 2, complex(0, 3)}, {hill(1, 4, 1, 2, 4, 8), 3, complex(0, 4)},
		{hill(2, 2, 1, 0, -1, 7), 0, complex(-1, -2)}, {hill(2, 2, 1, 0, -1, 7), 1, complex(-1, 7)}, {hill(2, 2, 1, 0, -1, 7), 2, complex(8, -2)}, {hill(2, 2, 1, 0, -1, 7), 3, complex(8, 7)},
		// +0 less +0 is +0, but -0 less +0 is -0.
		{hill(2, 2, 0, 0, 0, 0), 0, 0}, {hill(2, 2, m, m, m, m), 0, 0}, {hill(2, 2, m, 0, 0, 0), 0, 0}, {hill(2, 2, 0, m, m, 0), 0, complex(m, m)}, {hill(3, 1, 0, 5, m), 1, complex(m, 0)},
		{hill(3, 1, 0, 5, tiniest), 1, 0}, {hill(3, 1, tiniest, 5, 0), 1, complex(m, 0)}, {hill(3, 1, -tiniest, 5, number(2)), 1, complex(number(2), 0)}, {hill(1, 3, 0, 5, number(3)), 1, complex(0, number(2))}, {hill(2, 1, tiniest, 0), 1, complex(-tiniest, 0)},
		{hill(2, 1, 0, greatest), 0, complex(greatest, 0)}, {hill(3, 1, -greatest, 0, 0), 1, complex(greatest/2, 0)}, {hill(3, 1, 16777216, 0, -1), 1, complex(-8388608, 0)},
	} {
		wantResults(t, all(impl.TiltAt(c.h, c.i)), all(c.want, true), "TiltAt", hillText(c.h), c.i)
	}
	// The difference is not finite, though half of it is.
	for _, h := range []impl.Hill{hill(3, 1, greatest, 0, -greatest), hill(1, 3, greatest, 0, -greatest), hill(1, 3, -greatest, 0, greatest)} {
		wantResults(t, all(impl.TiltAt(h, 1)), all(complex64(0), false), "TiltAt", hillText(h))
		wantResults(t, all(impl.ShadeOf(h, 0, 1)), all(floats(), false), "ShadeOf", hillText(h))
	}
	for _, i := range []int64{-1, 9, 10, 1 << 32, math.MinInt64, math.MaxInt64} {
		wantResults(t, all(impl.TiltAt(slope, i)), all(complex64(0), false), "TiltAt", i)
	}
}

func TestTiltsOfAllKinds(t *testing.T) {
	for _, h := range append(sampleHills(41), steepHills()...) {
		for i := range h.Heights {
			tilt, ok := tiltOracle(h, i)
			wantResults(t, all(impl.TiltAt(h, int64(i))), all(tilt, ok), "TiltAt", hillText(h), i)
		}
	}
}

func TestShadeOfByHand(t *testing.T) {
	half := root(2)
	for _, c := range []struct {
		h           impl.Hill
		turn, steep float32
		want        []float32
	}{
		{hill(1, 1, 5), 0, 0, floats(0)}, {hill(1, 1, 5), 0, 3, floats(over(3, root(10)))}, {evenHill(3, 2, minusZero), 0.4, 1, evenHill(3, 2, over(1, half)).Heights},
		// Ground that rises to the east turns away from a sun in the east.
		{hill(2, 1, 0, 1), 0.5, 1, floats(over(2, times(half, half)), over(2, times(half, half)))}, {hill(2, 1, 0, 1), 0, 1, floats(0, 0)}, {hill(2, 1, 0, 1), 0, 0.5, floats(0, 0)}, {hill(2, 1, 1, 0), 0, 0, floats(over(1, half), over(1, half))},
		{hill(2, 1, 0, 3), 0, 4, floats(over(1, times(root(10), root(17))), over(1, times(root(10), root(17))))}, {hill(1, 2, 0, 3), 0.25, 4, floats(over(1, times(root(10), root(17))), over(1, times(root(10), root(17))))},
		{hill(1, 2, 0, 3), 0.75, 4, floats(over(7, times(root(10), root(17))), over(7, times(root(10), root(17))))}, {hill(2, 1, 0, -3), 1, -2, floats(over(1, times(root(10), root(5))), over(1, times(root(10), root(5))))},
		// What is not greater than 0 is +0: less than 0, -0, and no number.
		{hill(1, 1, 5), 0, minusZero, floats(0)}, {hill(1, 1, 5), 0, -1, floats(0)}, {hill(1, 1, 5), 0, -tiniest, floats(0)}, {hill(2, 1, 5, 5), 0.25, minusZero, floats(0, 0)}, {hill(2, 1, 0, greatest), 0, -greatest, floats(0, 0)},
		{hill(2, 1, 0, -greatest), 0, greatest, floats(0, 0)}, {hill(2, 1, greatest, -1e38), 0.5, -1, nil},
		// Squares that are not finite lead to +0.
		{hill(1, 1, 5), 0, 1e20, floats(0)}, {hill(1, 1, 5), 0, 1e19, floats(over(1e19, root(times(1e19, 1e19))))}, {hill(2, 1, 1e20, 0), 0, 1, floats(0, 0)}, {hill(2, 1, 0, -1e20), 0, 1, floats(0, 0)},
		{hill(1, 1, 5), 0, tiniest, floats(tiniest)}, {hill(2, 1, tiniest, 0), 0, 0, floats(tiniest, tiniest)},
		// A great turn is none.
		{hill(2, 1, 3, 0), greatest, 0, floats(over(3, root(10)), over(3, root(10)))}, {hill(2, 1, 0, 3), -0.5, 0, floats(over(3, root(10)), over(3, root(10)))},
	} {
		wantResults(t, all(impl.ShadeOf(c.h, c.turn, c.steep)), all(c.want, c.want != nil), "ShadeOf", hillText(c.h), c.turn, c.steep)
	}
}

func TestShadesOfAllKinds(t *testing.T) {
	d := drawer(42)
	for _, h := range append(sampleHills(43), steepHills()...) {
		turn, steep := d.moderate()/100, d.moderate()/50
		shades, ok := shadeOracle(h, turn, steep)
		wantResults(t, all(impl.ShadeOf(h, turn, steep)), all(shades, ok), "ShadeOf", hillText(h), turn, steep)
		for _, shade := range shades {
			wantThat(t, shade >= 0 && shade < 1.0001, true, "a shade is not brighter than straight light", shade)
		}
	}
}

func TestSeesOverByHand(t *testing.T) {
	bump := hill(5, 1, 0, 1, 2, 3, 4)
	column := hill(1, 5, 0, 1, 2, 3, 4)
	wall := hill(3, 3, 0, 0, 0, 0, 9, 0, 0, 0, 0)
	for _, c := range []struct {
		h    impl.Hill
		i, k int64
		eye  float32
		sees bool
	}{
		// On an even slope, the line just touches all cells.
		{bump, 0, 4, 0, true}, {bump, 4, 0, 0, true}, {column, 0, 4, 0, true}, {column, 4, 0, 0, true}, {bump, 0, 4, -tiniest, true}, {bump, 0, 4, -0.001, false}, {bump, 4, 0, -0.001, false}, {column, 0, 4, -0.001, false}, {bump, 1, 3, -0.001, false}, {bump, 1, 3, 0, true},
		// Neighbours are always seen.
		{bump, 0, 1, -100, true}, {bump, 1, 0, -100, true}, {column, 3, 4, -100, true}, {column, 4, 3, -100, true}, {wall, 4, 5, -100, true}, {wall, 1, 4, -100, true}, {hill(2, 1, greatest, -greatest), 0, 1, 0, true}, {hill(1, 2, -greatest, greatest), 0, 1, 0, true},
		{wall, 3, 5, 0, false}, {wall, 5, 3, 0, false}, {wall, 1, 7, 0, false}, {wall, 7, 1, 0, false}, {wall, 3, 5, 18, true}, {wall, 3, 5, 17.9, false}, {wall, 7, 1, 18, true}, {wall, 7, 1, 17.9, false}, {wall, 0, 2, 0, true}, {wall, 6, 8, 0, true}, {wall, 0, 6, 0, true}, {wall, 2, 8, 0, true},
		// One cell of several hides another one, and the cells at both ends do not.
		{hill(5, 1, 0, 0, 0, 1, 0), 0, 4, 3, false}, {hill(5, 1, 0, 0, 0, 1, 0), 0, 4, 4, true}, {hill(5, 1, 0, 0, 0, 1, 0), 4, 0, 3, true}, {hill(5, 1, 0, 0, 0, 1, 0), 4, 0, 1.3, false}, {hill(5, 1, 0, 1, 0, 0, 0), 0, 4, 1.3, false}, {hill(5, 1, 0, 1, 0, 0, 0), 0, 4, 4. / 3, true},
		{hill(4, 1, 7, 0, 0, 7), 0, 3, 0, true}, {hill(4, 1, 7, 0, 0, 7), 0, 2, 0, true}, {hill(4, 1, 7, 7, 0, 0), 3, 0, 0, false}, {hill(3, 1, minusZero, 0, minusZero), 0, 2, 0, true}, {hill(3, 1, 0, minusZero, 0), 0, 2, minusZero, true},
		// Half of the tiniest number is 0.
		{hill(3, 1, 0, tiniest, 0), 0, 2, 0, false}, {hill(3, 1, 0, tiniest, 0), 0, 2, tiniest, true}, {hill(3, 1, 0, number(2), 0), 0, 2, tiniest, false}, {hill(3, 1, 0, tiniest, number(3)), 0, 2, 0, true},
		{hill(3, 1, greatest, greatest, greatest), 0, 2, 0, true}, {hill(3, 1, greatest, greatest, greatest), 0, 2, -1e36, false},
	} {
		wantResults(t, all(impl.SeesOver(c.h, c.i, c.k, c.eye)), all(c.sees, true), "SeesOver", hillText(c.h), c.i, c.k, c.eye)
	}
}

func TestSeesOverFails(t *testing.T) {
	wall := hill(3, 3, 0, 0, 0, 0, 9, 0, 0, 0, 0)
	for _, c := range []struct {
		h    impl.Hill
		i, k int64
		eye  float32
	}{
		{wall, 0, 0, 0}, {wall, 4, 4, 1}, {hill(1, 1, 1), 0, 0, 0}, // the same cell
		{wall, 0, 4, 0}, {wall, 4, 0, 0}, {wall, 0, 8, 0}, {wall, 2, 3, 0}, {wall, 3, 2, 0}, {wall, 1, 5, 0}, {wall, 8, 1, 0}, {evenHill(2, 3, 1), 1, 2, 0}, // in no line
		{wall, -1, 0, 0}, {wall, 0, -1, 0}, {wall, 9, 0, 0}, {wall, 0, 9, 0}, {wall, 6, 9, 0}, {wall, -3, 0, 0}, {wall, 0, -3, 0}, {wall, math.MinInt64, 0, 0}, {wall, 0, math.MaxInt64, 0}, {wall, 1 << 32, 1, 0},
		{hill(2, 1, greatest, 0), 0, 1, greatest}, {hill(2, 1, -greatest, 0), 0, 1, -greatest}, {hill(3, 1, greatest, 0, greatest), 0, 2, 1e32}, // e is not finite
		{hill(3, 1, greatest, 0, -greatest), 0, 2, 0}, {hill(3, 1, -greatest, 0, greatest), 2, 0, 0}, {hill(1, 3, -1, greatest, greatest), 0, 2, -greatest}, {hill(3, 1, -greatest, greatest, greatest), 0, 2, 0}, // a line is not finite
	} {
		wantResults(t, all(impl.SeesOver(c.h, c.i, c.k, c.eye)), all(false, false), "SeesOver", hillText(c.h), c.i, c.k, c.eye)
	}
}

func TestSeesOverOfAllKinds(t *testing.T) {
	d := drawer(44)
	for _, h := range append(sampleHills(45), steepHills()...) {
		for range 40 {
			i, k := d.next()%uint64(len(h.Heights)), d.next()%uint64(len(h.Heights))
			if d.next()%2 == 0 { // in the same row
				k = i - i%uint64(h.Wide) + k%uint64(h.Wide)
			} else if d.next()%4 != 0 { // in the same column
				k = k - k%uint64(h.Wide) + i%uint64(h.Wide)
			}
			eye := []float32{0, 1, -1, d.moderate(), tiniest, greatest}[d.next()%6]
			sees, ok := seesOracle(h, int(i), int(k), eye)
			wantResults(t, all(impl.SeesOver(h, int64(i), int64(k), eye)), all(sees, ok), "SeesOver", hillText(h), i, k, eye)
		}
	}
}

// On a slope that is rounded, what is seen is told by the rounded line.
func TestSeesOverRoundedLines(t *testing.T) {
	d := drawer(46)
	for range 400 {
		base, east := d.moderate()/3, d.moderate()/7
		h, ok := impl.SlopeHill(16, 1, base, east, 0)
		wantThat(t, ok, true, "SlopeHill", base, east)
		for k := range int64(16) {
			sees, ok := seesOracle(h, 0, int(k), 0)
			wantResults(t, all(impl.SeesOver(h, 0, k, 0)), all(sees, ok), "SeesOver", base, east, k)
			sees, ok = seesOracle(h, int(k), 0, 0)
			wantResults(t, all(impl.SeesOver(h, k, 0, 0)), all(sees, ok), "SeesOver", base, east, k)
		}
	}
}
