package tests

import (
	"math"
	"slices"
	"testing"

	"loop.example/g01302/impl"
)

func TestAreWays(t *testing.T) {
	row, square := hill(3, 1, 1, 2, 3), evenHill(3, 3, 1)
	for _, c := range []struct {
		h    impl.Hill
		ways []int64
		want bool
	}{
		{hill(1, 1, 5), ints(-1), true}, {hill(1, 1, 5), ints(0), false}, {hill(1, 1, 5), ints(1), false}, {hill(1, 1, 5), ints(-2), false}, {hill(1, 1, 5), nil, false}, {hill(1, 1, 5), ints(-1, -1), false},
		// Ways can go up.
		{row, ints(1, 2, -1), true}, {row, ints(-1, 0, 1), true}, {row, ints(1, -1, 1), true}, {row, ints(-1, -1, -1), true},
		{row, ints(2, -1, -1), false}, {row, ints(-1, -1, 0), false}, {row, ints(0, -1, -1), false}, {row, ints(-1, 1, -1), false}, {row, ints(-1, -1, 2), false}, // no neighbours
		{row, ints(-1, -1, 3), false}, {row, ints(-1, -1, -2), false}, {row, ints(math.MinInt64, -1, -1), false}, {row, ints(-1, math.MaxInt64, -1), false}, {row, ints(1<<32+1, -1, -1), false},
		{row, ints(1, 0, -1), false}, {row, ints(-1, 2, 1), false}, {row, ints(1, 2, 1), false}, // around
		{row, ints(-1, -1), false}, {row, ints(-1, -1, -1, -1), false}, {row, ints(), false}, {row, nil, false},
		{square, ints(1, 2, 5, 0, -1, 8, 3, 6, 7), false}, {square, ints(1, 2, 5, -1, -1, 8, 3, 6, 7), true}, {square, ints(1, 2, 5, 0, 0, 8, 3, 6, 7), false}, {square, ints(1, 4, -1, 0, 3, -1, -1, -1, -1), false},
		{square, ints(4, 4, 4, 4, -1, 4, 4, 4, 4), true}, {square, ints(4, 4, 4, 4, 8, 4, 4, 4, 4), false}, {square, ints(4, 4, 4, 4, 8, 4, 4, 4, -1), true},
		{square, ints(2, -1, -1, -1, -1, -1, -1, -1, -1), false}, {square, ints(-1, -1, 3, -1, -1, -1, -1, -1, -1), false}, {square, ints(-1, -1, -1, 2, -1, -1, -1, -1, -1), false}, {square, ints(5, -1, -1, -1, -1, -1, -1, -1, -1), false}, // around a side
		{square, ints(-1, -1, -1, -1, -1, 6, -1, -1, -1), false}, {square, ints(-1, -1, -1, -1, -1, -1, 0, -1, -1), false}, {square, ints(-1, 7, -1, -1, -1, -1, -1, -1, -1), false},
		{hill(3, 1, 1, 2, infinity), ints(-1, -1, -1), false}, {hill(3, 0), nil, false}, {noHill, nil, false}, {noHill, ints(-1), false}, {hill(17, 1, make([]float32, 17)...), ints(-1, -1, -1, -1, -1, -1, -1, -1, -1, -1, -1, -1, -1, -1, -1, -1, -1), false},
	} {
		wantThat(t, impl.AreWays(c.h, c.ways), c.want, "AreWays", hillText(c.h), c.ways)
	}
	d := drawer(31)
	for _, h := range sampleHills(32) {
		ways := drawnWays(&d, h, 5)
		wantThat(t, impl.AreWays(h, ways), true, "AreWays", hillText(h), ways)
		for range 8 {
			// One other number can lead around, or to no neighbour, or nowhere.
			other := slices.Clone(ways)
			other[d.next()%uint64(len(other))] = int64(d.next()%uint64(len(other)+2)) - 1
			wantThat(t, impl.AreWays(h, other), areWaysOracle(h, other), "AreWays", hillText(h), other)
		}
	}
}

func TestEveryCellCanLeadToItsNeighbours(t *testing.T) {
	for _, side := range sides {
		h := evenHill(side[0], side[1], 1)
		ways := make([]int64, len(h.Heights))
		for i := range ways {
			ways[i] = -1
		}
		for i := range ways {
			cells, _ := besideOracle(h, i)
			for k := range ways {
				ways[i] = int64(k)
				wantThat(t, impl.AreWays(h, ways), slices.Contains(cells, k), "AreWays with one way", side, i, k)
			}
			ways[i] = -1
		}
	}
}

func TestWaysByHand(t *testing.T) {
	// All cells lead down the middle to the cell 11, but 9 leads nowhere:
	//   0 > 1 > 2
	//   3 > 4 < .   2 leads to 4, and 5 to 8
	//   6 > 7   8   4 leads to 7, and 7 and 8 to 10
	//   9  10 > 11
	h := evenHill(3, 4, 1)
	ways := ints(1, 2, 4, 4, 7, 8, 7, 10, 10, -1, 11, -1)
	rain := floats(1, 2, 4, 8, 16, 32, 64, 128, 256, 512, 1024, 2048)
	path, ok := impl.PathFrom(h, ways, 0)
	wantResults(t, all(path, ok), all(ints(0, 1, 2, 4, 7, 10, 11), true), "PathFrom")
	wantResults(t, all(impl.PathFrom(h, ways, 9)), all(ints(9), true), "PathFrom an end")
	wantResults(t, all(impl.CatchmentsOf(h, ways)), all(ints(1, 2, 3, 1, 5, 1, 1, 7, 2, 1, 10, 11), true), "CatchmentsOf")
	wantResults(t, all(impl.RainThrough(h, ways, rain)), all(floats(1, 3, 7, 8, 31, 32, 64, 223, 288, 512, 1535, 3583), true), "RainThrough")
	wantResults(t, all(impl.BasinsOf(h, ways)), all(ints(0, 0, 0, 0, 0, 0, 0, 0, 0, 1, 0, 0), 2, true), "BasinsOf")
	wantResults(t, all(impl.OrdersOf(h, ways)), all(ints(1, 1, 1, 1, 2, 1, 1, 2, 1, 1, 2, 2), true), "OrdersOf")
	wantResults(t, all(impl.LongestPath(h, ways)), all(ints(0, 1, 2, 4, 7, 10, 11), true), "LongestPath")
	wantResults(t, all(impl.RidgesOf(h, ways)), all(ints(6, 7, 9, 10), true), "RidgesOf")
}

func TestOneCell(t *testing.T) {
	h, ways := hill(1, 1, 3), ints(-1)
	wantResults(t, all(impl.PathFrom(h, ways, 0)), all(ints(0), true), "PathFrom")
	wantResults(t, all(impl.CatchmentsOf(h, ways)), all(ints(1), true), "CatchmentsOf")
	wantResults(t, all(impl.RainThrough(h, ways, floats(minusZero))), all(floats(minusZero), true), "RainThrough")
	wantResults(t, all(impl.BasinsOf(h, ways)), all(ints(0), 1, true), "BasinsOf")
	wantResults(t, all(impl.OrdersOf(h, ways)), all(ints(1), true), "OrdersOf")
	wantResults(t, all(impl.LongestPath(h, ways)), all(ints(0), true), "LongestPath")
	wantResults(t, all(impl.RidgesOf(h, ways)), all(ints(), true), "RidgesOf")
}

func TestPathFromOtherCells(t *testing.T) {
	h, ways := evenHill(3, 2, 1), ints(-1, 0, 1, 0, 1, 2)
	for _, i := range []int64{-1, 6, 7, 1 << 32, math.MinInt64, math.MaxInt64} {
		wantResults(t, all(impl.PathFrom(h, ways, i)), all(ints(), false), "PathFrom", i)
	}
	wantResults(t, all(impl.PathFrom(h, ways, 5)), all(ints(5, 2, 1, 0), true), "PathFrom the last cell")
}

func TestRainThrough(t *testing.T) {
	row, square := evenHill(4, 1, 1), evenHill(3, 3, 1)
	m, b := minusZero, float32(16777216)
	inwards := ints(4, 4, 4, 4, -1, 4, 4, 4, 4)
	for _, c := range []struct {
		h    impl.Hill
		ways []int64
		rain []float32
		want []float32
	}{
		{row, ints(-1, -1, -1, -1), floats(1, m, 0, -2), floats(1, m, 0, -2)}, {row, ints(1, 2, 3, -1), floats(1, 1, 1, 1), floats(1, 2, 3, 4)}, {row, ints(1, 2, 3, -1), floats(m, m, 0, m), floats(m, m, 0, 0)},
		{row, ints(1, 2, 3, -1), floats(tiniest, tiniest, -tiniest, 0), floats(tiniest, number(2), tiniest, tiniest)},
		// The own rain first, and then that of 0, 1, 2 and so on.
		{square, inwards, floats(1, 0, 0, 0, b, 0, 0, 0, -b), floats(1, 0, 0, 0, 0, 0, 0, 0, -b)}, {square, inwards, floats(-b, 0, 0, 0, b, 0, 0, 0, 1), floats(-b, 0, 0, 0, 1, 0, 0, 0, 1)},
		{square, inwards, floats(1, 1, b, 0, 0, -b, 0, 0, 0), floats(1, 1, b, 0, 2, -b, 0, 0, 0)}, {square, inwards, floats(b, 1, 0, 1, 0, 0, 0, -b, 0), floats(b, 1, 0, 1, 0, 0, 0, -b, 0)}, {square, inwards, floats(0, 0, 0, b, 1, 0, 0, 0, -b), floats(0, 0, 0, b, 0, 0, 0, 0, -b)},
		// A cell that is reached late, but has a lesser index, comes first.
		{square, ints(1, 4, -1, -1, 5, -1, -1, -1, 5), floats(-b, 0, 0, 0, 0, b, 0, 0, 1), floats(-b, -b, 0, 0, -b, 1, 0, 0, 1)},
		{row, ints(1, -1, 1, -1), floats(greatest, 0, -greatest, greatest), floats(greatest, 0, -greatest, greatest)}, {row, ints(1, -1, -1, -1), floats(greatest, greatest, 0, 0), nil}, {row, ints(-1, 0, 1, -1), floats(-1, -greatest, -greatest, 0), nil},
		{row, ints(1, -1, 1, -1), floats(greatest, greatest, -greatest, 0), nil}, // on the way to it
		{row, ints(1, 2, 3, -1), floats(1, 1, 1), nil}, {row, ints(1, 2, 3, -1), floats(1, 1, 1, 1, 1), nil}, {row, ints(1, 2, 3, -1), nil, nil}, {row, ints(1, 2, 1, -1), floats(1, 1, 1, 1), nil},
		{row, ints(1, 2, 3, -1), floats(1, 1, notANumber, 1), nil}, {row, ints(1, 2, 3, -1), floats(infinity, 1, 1, 1), nil}, {row, ints(1, 2, 3, -1), floats(1, 1, 1, minusInf), nil},
	} {
		wantResults(t, all(impl.RainThrough(c.h, c.ways, c.rain)), all(c.want, c.want != nil), "RainThrough", c.ways, c.rain)
	}
}

func TestOrdersOf(t *testing.T) {
	star, row := evenHill(3, 3, 1), evenHill(7, 1, 1)
	for _, c := range []struct {
		h          impl.Hill
		ways, want []int64
	}{
		{row, ints(-1, -1, -1, -1, -1, -1, -1), ints(1, 1, 1, 1, 1, 1, 1)}, {row, ints(1, 2, 3, 4, 5, 6, -1), ints(1, 1, 1, 1, 1, 1, 1)}, {row, ints(1, 2, 3, -1, 3, 4, 5), ints(1, 1, 1, 2, 1, 1, 1)},
		{star, ints(4, 4, 4, 4, -1, 4, 4, 4, 4), ints(1, 1, 1, 1, 2, 1, 1, 1, 1)},  // many of one order
		{star, ints(1, 4, 1, 4, -1, 4, 3, -1, 5), ints(1, 2, 1, 1, 2, 1, 1, 1, 1)}, // 2 and lesser ones
		{star, ints(1, 4, 1, 4, -1, -1, 7, 4, 7), ints(1, 2, 1, 1, 3, 1, 1, 2, 1)}, // 2, 1 and 2
		{star, ints(3, 4, 4, 4, -1, 4, 3, 4, 4), ints(1, 1, 1, 2, 2, 1, 1, 1, 1)},  // 2 behind others
		{star, ints(1, 2, 5, 6, 7, 4, -1, 6, 7), ints(1, 1, 1, 1, 1, 1, 2, 2, 1)},  // 1 and 2
		{star, ints(-1, 0, 1, 0, 0, 1, 3, 3, 4), ints(3, 2, 1, 2, 1, 1, 1, 1, 1)},  // 2, 2 and 1
		{star, ints(-1, 0, 1, 0, 0, 1, 3, 3, 5), ints(3, 2, 1, 2, 1, 1, 1, 1, 1)},  // one of them longer
		{star, ints(-1, 4, 4, 4, 0, 4, 4, 4, 4), ints(2, 1, 1, 1, 2, 1, 1, 1, 1)},  // goes on
	} {
		wantResults(t, all(impl.OrdersOf(c.h, c.ways)), all(c.want, true), "OrdersOf", c.ways)
	}
}

func TestLongestPath(t *testing.T) {
	row := evenHill(5, 1, 1)
	for _, c := range [][2][]int64{
		{ints(-1, -1, -1, -1, -1), ints(0)}, {ints(-1, 0, 3, 4, -1), ints(2, 3, 4)}, {ints(1, -1, -1, 4, -1), ints(0, 1)}, {ints(-1, 0, -1, -1, 3), ints(1, 0)}, {ints(1, 2, -1, 2, 3), ints(0, 1, 2)}, {ints(-1, 2, -1, 2, 3), ints(4, 3, 2)}, {ints(1, 2, 3, 4, -1), ints(0, 1, 2, 3, 4)},
	} {
		wantResults(t, all(impl.LongestPath(row, c[0])), all(c[1], true), "LongestPath", c[0])
	}
}

func TestBasinsAndRidges(t *testing.T) {
	row, square := evenHill(5, 1, 1), evenHill(3, 3, 1)
	for _, c := range []struct {
		h      impl.Hill
		ways   []int64
		basins []int64
		count  int64
		ridges []int64
	}{
		{row, ints(-1, -1, -1, -1, -1), ints(0, 1, 2, 3, 4), 5, ints(0, 1, 2, 3, 4)}, {row, ints(1, 2, 3, 4, -1), ints(0, 0, 0, 0, 0), 1, ints()}, {row, ints(1, -1, -1, 2, 3), ints(0, 0, 1, 1, 1), 2, ints(1, 2)},
		{row, ints(-1, 0, 1, -1, 3), ints(0, 0, 0, 1, 1), 2, ints(2, 3)}, {row, ints(1, -1, 3, 4, -1), ints(0, 0, 1, 1, 1), 2, ints(1, 2)},
		{square, ints(4, 4, 4, 4, 8, 4, 4, 4, -1), ints(0, 0, 0, 0, 0, 0, 0, 0, 0), 1, ints()}, {square, ints(4, 4, 4, 4, -1, 4, 4, 4, -1), ints(0, 0, 0, 0, 0, 0, 0, 0, 1), 2, ints(4, 5, 7, 8)}, // beside a corner
		{square, ints(-1, 0, -1, 0, 8, 2, -1, 6, -1), ints(0, 0, 1, 0, 2, 1, 3, 3, 2), 4, ints(0, 1, 2, 3, 4, 5, 6, 7, 8)}, {square, ints(8, 8, 8, 8, 8, 8, 8, 8, -1), nil, 0, nil},
	} {
		ok := c.basins != nil
		wantResults(t, all(impl.BasinsOf(c.h, c.ways)), all(c.basins, c.count, ok), "BasinsOf", c.ways)
		wantResults(t, all(impl.RidgesOf(c.h, c.ways)), all(c.ridges, ok), "RidgesOf", c.ways)
	}
}

func TestWaysOfAllKinds(t *testing.T) {
	d := drawer(33)
	for n, h := range sampleHills(34) {
		ways := drawnWays(&d, h, uint64(1+n%9))
		rain := make([]float32, len(ways))
		for i := range rain {
			rain[i] = heightsFrom[d.next()%uint64(len(heightsFrom))](&d)
		}
		basins, count := basinsOracle(ways)
		through, ok := rainOracle(ways, rain)
		what := hillText(h)
		wantResults(t, all(impl.CatchmentsOf(h, ways)), all(catchmentsOracle(ways), true), "CatchmentsOf", what, ways)
		wantResults(t, all(impl.RainThrough(h, ways, rain)), all(through, ok), "RainThrough", what, ways, rain)
		wantResults(t, all(impl.BasinsOf(h, ways)), all(basins, count, true), "BasinsOf", what, ways)
		wantResults(t, all(impl.OrdersOf(h, ways)), all(ordersOracle(ways), true), "OrdersOf", what, ways)
		wantResults(t, all(impl.LongestPath(h, ways)), all(longestOracle(ways), true), "LongestPath", what, ways)
		wantResults(t, all(impl.RidgesOf(h, ways)), all(ridgesOracle(h, ways), true), "RidgesOf", what, ways)
		for i := range ways {
			wantResults(t, all(impl.PathFrom(h, ways, int64(i))), all(walk(ways, i), true), "PathFrom", what, ways, i)
		}
	}
}

// Rain is kept: what comes through all cells that lead nowhere is all rain,
// nearly, and exactly for small integers.
func TestRainIsKept(t *testing.T) {
	d := drawer(35)
	for n, h := range sampleHills(36) {
		ways, ok := impl.RunWays(h)
		wantThat(t, ok, true, "RunWays", hillText(h))
		rain := make([]float32, len(ways))
		var fallen, come float64
		for i := range rain {
			rain[i] = float32(d.next() % 1000)
			if n%2 == 1 {
				rain[i] /= 7
			}
			fallen += float64(rain[i])
		}
		through, ok := impl.RainThrough(h, ways, rain)
		wantThat(t, ok, true, "RainThrough", hillText(h))
		for i, way := range ways {
			if way == -1 {
				come += float64(through[i])
			}
		}
		wantThat(t, math.Abs(come-fallen) <= fallen*1e-5*float64(n%2), true, "what comes through", fallen, come, hillText(h))
	}
}
