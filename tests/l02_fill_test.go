package tests

import (
	"math"
	"slices"
	"testing"

	"loop.example/g01302/impl"
)

func TestFillHillsByHand(t *testing.T) {
	m := minusZero
	for _, c := range []struct {
		h    impl.Hill
		want []float32
	}{
		{hill(1, 1, -5), floats(-5)}, {hill(3, 1, 3, 1, 3), floats(3, 1, 3)}, {hill(1, 4, 3, 1, 0, 3), floats(3, 1, 0, 3)}, {hill(2, 3, 3, 1, 0, 3, 5, m), floats(3, 1, 0, 3, 5, m)}, // all at the edge
		{hill(3, 3, 1, 1, 1, 1, -1, 1, 1, 1, 1), floats(1, 1, 1, 1, 1, 1, 1, 1, 1)}, {hill(3, 3, 1, 2, 3, 4, 0, 5, 6, 7, 8), floats(1, 2, 3, 4, 1, 5, 6, 7, 8)}, // over a corner
		{hill(3, 3, 1, 2, 3, 4, 1, 5, 6, 7, 8), floats(1, 2, 3, 4, 1, 5, 6, 7, 8)}, {hill(3, 3, 1, 2, 3, 4, 9, 5, 6, 7, 8), floats(1, 2, 3, 4, 9, 5, 6, 7, 8)},
		// Two hollows, of which one runs over into the other one.
		{hill(5, 3, 9, 9, 9, 9, 9, 9, 1, 5, 2, 7, 9, 9, 9, 9, 9), floats(9, 9, 9, 9, 9, 9, 7, 7, 7, 7, 9, 9, 9, 9, 9)},
		{hill(5, 3, 9, 9, 9, 9, 9, 3, 1, 5, 2, 7, 9, 9, 9, 9, 9), floats(9, 9, 9, 9, 9, 3, 3, 5, 5, 7, 9, 9, 9, 9, 9)},
		// What becomes higher and zero is +0, and what becomes no higher keeps its sign.
		{hill(3, 3, m, m, m, m, -1, m, m, m, m), floats(m, m, m, m, 0, m, m, m, m)}, {hill(3, 3, 0, 0, 0, 0, -1, 0, 0, 0, 0), floats(0, 0, 0, 0, 0, 0, 0, 0, 0)},
		{hill(3, 3, 0, 0, 0, 0, m, 0, 0, 0, 0), floats(0, 0, 0, 0, m, 0, 0, 0, 0)}, {hill(3, 3, m, m, m, m, 0, m, m, m, m), floats(m, m, m, m, 0, m, m, m, m)},
		{hill(4, 3, m, m, m, m, m, -1, -tiniest, m, 0, 0, 0, 0), floats(m, m, m, m, m, 0, 0, m, 0, 0, 0, 0)}, {hill(5, 3, m, m, m, m, m, m, -1, m, -2, m, m, m, m, m, m), floats(m, m, m, m, m, m, 0, m, 0, m, m, m, m, m, m)},
		{hill(3, 3, tiniest, tiniest, tiniest, tiniest, -tiniest, tiniest, number(2), tiniest, tiniest), floats(tiniest, tiniest, tiniest, tiniest, tiniest, tiniest, number(2), tiniest, tiniest)},
		{hill(3, 3, greatest, greatest, greatest, greatest, -greatest, greatest, greatest, greatest, greatest), evenHill(3, 3, greatest).Heights},
	} {
		wantResults(t, all(impl.FillHill(c.h)), all(hill(c.h.Wide, c.h.High, c.want...), true), "FillHill", hillText(c.h))
	}
}

func TestFilledHillsOfAllKinds(t *testing.T) {
	for _, h := range append(sampleHills(21), sampleHills(22)...) {
		filled := hill(h.Wide, h.High, fillOracle(h)...)
		wantResults(t, all(impl.FillHill(h)), all(filled, true), "FillHill", hillText(h))
		sum, ok := hollowOracle(h)
		wantResults(t, all(impl.HollowOf(h)), all(sum, ok), "HollowOf", hillText(h))
		// What is filled has no hollows, and is not filled again.
		wantResults(t, all(impl.FillHill(filled)), all(filled, true), "FillHill of a filled hill", hillText(h))
		wantResults(t, all(impl.HollowOf(filled)), all(float32(0), true), "HollowOf a filled hill", hillText(h))
	}
}

func TestFillHillAlongAValley(t *testing.T) {
	h := spiralHill()
	h.Heights[72] = 2 // the mouth of the valley
	filled, ok := impl.FillHill(h)
	wantThat(t, ok && !slices.Contains(filled.Heights, 1) && filled.Heights[41] == 2, true, "FillHill of a valley that leads around")
	wantResults(t, all(impl.HollowOf(h)), all(float32(28), true), "HollowOf this valley")
}

func TestHollowOf(t *testing.T) {
	for _, c := range []struct {
		h    impl.Hill
		want float32
		ok   bool
	}{
		{hill(1, 1, minusZero), 0, true}, {evenHill(16, 16, -3), 0, true}, {hill(3, 1, 3, 1, 3), 0, true}, {hill(3, 3, 1, 1, 1, 1, -1, 1, 1, 1, 1), 2, true},
		// The first sum is rounded to 16777216 twice, the second one not.
		{hill(5, 3, 1, 1, 1, 1, 1, 1, -16777215, 0, 0, 1, 1, 1, 1, 1, 1), 16777216, true}, {hill(5, 3, 1, 1, 1, 1, 1, 1, 0, 0, -16777215, 1, 1, 1, 1, 1, 1), 16777218, true},
		{hill(3, 3, tiniest, tiniest, tiniest, tiniest, -tiniest, tiniest, tiniest, tiniest, tiniest), number(2), true},
		{hill(3, 3, 0, 0, 0, 0, -greatest, 0, 0, 0, 0), greatest, true}, {hill(4, 3, 0, 0, 0, 0, 0, -greatest, -greatest, 0, 0, 0, 0, 0), 0, false}, {hill(3, 3, greatest, greatest, greatest, greatest, -greatest, greatest, greatest, greatest, greatest), 0, false},
	} {
		wantResults(t, all(impl.HollowOf(c.h)), all(c.want, c.ok), "HollowOf", hillText(c.h))
	}
}

func TestFallAtByHand(t *testing.T) {
	d := number(0x3fb504f3)
	for _, c := range []struct {
		h    impl.Hill
		i    int64
		to   int64
		fall float32
	}{
		{hill(1, 1, 7), 0, -1, 0}, {evenHill(3, 3, 1), 4, -1, 0}, {hill(3, 1, 2, 1, 2), 1, -1, 0}, {hill(3, 1, 1, 2, 1), 1, 2, 1}, {hill(1, 3, 1, 2, 1), 1, 0, 1},
		{hill(3, 3, 0, 0, 0, 0, 1, 0, 0, 0, 0), 4, 1, 1}, {hill(3, 3, 0, 1, 0, 1, 1, 0, 0, 0, 0), 4, 5, 1}, {hill(3, 3, 0, 1, 0, 1, 1, 1, 0, 0, 0), 4, 7, 1}, {hill(3, 3, 0, 1, 0, 0, 1, 1, 0, 1, 0), 4, 3, 1},
		// The order begins in the north and goes on by the east.
		{hill(3, 3, 0, 1, 0, 1, 1, 1, 0, 1, 0), 4, 2, over(1, d)}, {hill(3, 3, 0, 1, 1, 1, 1, 1, 0, 1, 0), 4, 8, over(1, d)}, {hill(3, 3, 0, 1, 1, 1, 1, 1, 0, 1, 1), 4, 6, over(1, d)}, {hill(3, 3, 0, 1, 1, 1, 1, 1, 1, 1, 1), 4, 0, over(1, d)},
		{hill(2, 2, 3, 2, 1.6, 1.5), 0, 2, less(3, 1.6)}, {hill(2, 2, 3, 2, 2, 1.5), 0, 3, over(1.5, d)}, {hill(2, 2, 3, 2, 2, number(0x3fcafb0d)), 0, 1, 1}, {hill(2, 2, 3, 2, 2, number(0x3fcafb0c)), 0, 3, number(0x3f800001)},
		{hill(2, 1, 0, minusZero), 0, -1, 0}, {hill(2, 1, minusZero, 0), 0, -1, 0}, {hill(2, 1, tiniest, minusZero), 0, 1, tiniest}, {hill(2, 2, tiniest, tiniest, tiniest, 0), 0, 3, tiniest}, {hill(2, 2, tiniest, 0, tiniest, -tiniest), 0, 1, tiniest},
		{hill(2, 1, greatest, 0), 0, 1, greatest}, {hill(2, 1, -greatest, greatest), 0, -1, 0}, {hill(2, 1, 16777216, -1), 0, 1, 16777216},
	} {
		wantResults(t, all(impl.FallAt(c.h, c.i)), all(c.to, c.fall, true), "FallAt", hillText(c.h), c.i)
	}
	steep := hill(3, 1, greatest, -greatest, greatest)
	wantResults(t, all(impl.FallAt(steep, 0)), all(0, float32(0), false), "FallAt that is not finite")
	wantResults(t, all(impl.FallAt(steep, 1)), all(-1, float32(0), true), "FallAt below what is not finite")
	corner := hill(2, 2, greatest, greatest, greatest, -greatest)
	wantResults(t, all(impl.FallAt(corner, 0)), all(0, float32(0), false), "FallAt whose difference is not finite")
	for _, h := range []impl.Hill{hill(1, 1, 1), hill(3, 2, 1, 2, 3, 4, 5, 6), evenHill(16, 16, 1)} {
		for _, i := range []int64{-1, h.Wide * h.High, h.Wide*h.High + 1, math.MinInt64, math.MaxInt64, 1 << 32} {
			wantResults(t, all(impl.FallAt(h, i)), all(0, float32(0), false), "FallAt", hillText(h), i)
		}
	}
}

func TestFallsOfAllKinds(t *testing.T) {
	for _, h := range append(sampleHills(23), steepHills()...) {
		for i := range h.Heights {
			to, fall, ok := fallOracle(h, i)
			wantResults(t, all(impl.FallAt(h, int64(i))), all(to, fall, ok), "FallAt", hillText(h), i)
		}
		ways, ok := downOracle(h)
		wantResults(t, all(impl.WaysDown(h)), all(ways, ok), "WaysDown", hillText(h))
		ways, ok = runOracle(h)
		wantResults(t, all(impl.RunWays(h)), all(ways, ok), "RunWays", hillText(h))
	}
}

// steepHills have great heights of both signs, whose differences need not be
// finite.
func steepHills() []impl.Hill {
	d := drawer(24)
	var list []impl.Hill
	for range 60 {
		list = append(list, drawnHill(&d, sides[d.next()%12], func(d *drawer) float32 {
			return []float32{greatest, 1, 2, greatest / 2, -greatest}[d.next()%40/9]
		}))
	}
	return append(list, hill(3, 3, 1, 1, 1, 1, -greatest, 1, 1, 1, 1), hill(3, 3, greatest, greatest, greatest, greatest, -greatest, greatest, greatest, greatest, greatest))
}

func TestRunWaysByHand(t *testing.T) {
	for _, c := range []struct {
		h    impl.Hill
		want []int64
	}{
		{hill(1, 1, 7), ints(-1)}, {hill(4, 1, 3, 1, 1, 2), ints(1, -1, -1, 2)}, {hill(1, 4, 3, 1, 1, 2), ints(1, -1, -1, 2)}, {evenHill(2, 3, minusZero), ints(-1, -1, -1, -1, -1, -1)},
		{hill(3, 3, 1, 1, 1, 1, -1, 1, 1, 1, 1), ints(-1, -1, -1, -1, 1, -1, -1, -1, -1)},
		// On flat ground, the first neighbour with the least steps.
		{evenHill(5, 5, 0), ints(-1, -1, -1, -1, -1, -1, 1, 2, 3, -1, -1, 15, 7, 9, -1, -1, 22, 23, 14, -1, -1, -1, -1, -1, -1)},
		// A cell that falls is left as well as one at the edge.
		{hill(5, 5, 9, 9, 9, 9, 9, 9, 5, 5, 5, 9, 9, 5, 5, 5, 9, 9, 5, 5, 5, 4, 9, 9, 9, 9, 9), ints(6, 6, 7, 8, 8, 6, 7, 13, 13, 8, 11, 7, 13, 19, 19, 16, 12, 13, 19, -1, 16, 16, 17, 18, 19)},
		{hill(3, 3, 0, minusZero, 0, minusZero, 0, minusZero, 0, 0, 0), ints(-1, -1, -1, -1, 1, -1, -1, -1, -1)},
		{hill(3, 3, 2, 2, 2, 2, 0, 2, 2, 2, 1), ints(4, 4, 4, 4, 8, 8, 4, 4, -1)},
	} {
		wantResults(t, all(impl.RunWays(c.h)), all(c.want, true), "RunWays", hillText(c.h))
	}
}

func TestWaysDownByHand(t *testing.T) {
	for _, c := range []struct {
		h    impl.Hill
		want []int64
	}{
		{hill(1, 1, 7), ints(-1)}, {hill(3, 1, 3, 1, 2), ints(1, -1, 1)}, {hill(1, 3, 3, 1, 2), ints(1, -1, 1)}, {evenHill(2, 2, 4), ints(-1, -1, -1, -1)},
		{hill(3, 3, 1, 1, 1, 1, -1, 1, 1, 1, 1), ints(4, 4, 4, 4, -1, 4, 4, 4, 4)}, {hill(2, 2, 0, minusZero, tiniest, 0), ints(-1, -1, 0, -1)},
	} {
		wantResults(t, all(impl.WaysDown(c.h)), all(c.want, true), "WaysDown", hillText(c.h))
	}
	whole, _ := impl.WaysDown(evenHill(16, 16, 1))
	wantThat(t, len(whole) == 256 && !slices.ContainsFunc(whole, func(way int64) bool { return way != -1 }), true, "WaysDown of a flat hill")
	wantResults(t, all(impl.WaysDown(hill(3, 1, 1, greatest, -greatest))), all(ints(), false), "WaysDown that is not finite")
	wantResults(t, all(impl.RunWays(hill(3, 1, 1, greatest, -greatest))), all(ints(), false), "RunWays that is not finite")
	deep := hill(3, 3, greatest, greatest, greatest, greatest, -greatest, greatest, greatest, greatest, greatest)
	wantResults(t, all(impl.WaysDown(deep)), all(ints(), false), "WaysDown into a hollow that is too deep")
	wantResults(t, all(impl.RunWays(deep)), all(ints(-1, -1, -1, -1, 1, -1, -1, -1, -1), true), "RunWays over this hollow")
}

// All water runs out: each path ends at the edge, never goes up on the filled
// hill, and its end has no fall.
func TestAllWaterRunsOut(t *testing.T) {
	for _, h := range append(sampleHills(25), sampleHills(26)...) {
		filled, _ := impl.FillHill(h)
		ways, ok := impl.RunWays(h)
		wantThat(t, ok && impl.AreWays(h, ways) && impl.AreWays(filled, ways), true, "AreWays of RunWays", hillText(h))
		for i := range ways {
			path, _ := impl.PathFrom(h, ways, int64(i))
			end := int(path[len(path)-1])
			wantThat(t, edgeOracle(h, end), true, "the end of a path of RunWays is at the edge", hillText(h), i)
			for n := 1; n < len(path); n++ {
				wantThat(t, filled.Heights[path[n]] <= filled.Heights[path[n-1]], true, "a path of RunWays goes down", hillText(h), i)
			}
		}
	}
}
