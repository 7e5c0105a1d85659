package tests

import (
	"math"
	"slices"
	"testing"

	"loop.example/g01302/impl"
)

func TestSplitExactByHand(t *testing.T) {
	const most = impl.MaxUnits
	for _, c := range []struct {
		amount        int64
		weights, want []int64
	}{
		{7, ints(1, 1, 1), ints(3, 2, 2)}, {8, ints(1, 1, 1), ints(3, 3, 2)}, {9, ints(1, 1, 1), ints(3, 3, 3)}, {0, ints(1, 2, 3), ints(0, 0, 0)}, {5, ints(3), ints(5)}, {most, ints(most), ints(most)}, {0, ints(most), ints(0)}, {most, ints(1), ints(most)},
		{10, ints(3, 0, 1), ints(8, 0, 2)}, {5, ints(0, 0, 2, 0), ints(0, 0, 5, 0)}, {1, ints(0, 1, 0, 1), ints(0, 1, 0, 0)}, {3, ints(0, 1, 0, 1), ints(0, 2, 0, 1)},
		// the greatest remainders come first, not the greatest weights
		{1, ints(1, 2), ints(0, 1)}, {2, ints(1, 2), ints(1, 1)}, {4, ints(1, 2), ints(1, 3)}, {5, ints(1, 2), ints(2, 3)}, {10, ints(1, 2, 3, 4, 5), ints(1, 1, 2, 3, 3)}, {3, ints(1, 5), ints(1, 2)}, {10, ints(5, 5, 5), ints(4, 3, 3)}, {11, ints(5, 5, 5), ints(4, 4, 3)}, {2, ints(1, 3, 1, 3), ints(0, 1, 0, 1)}, {3, ints(1, 3, 1, 3), ints(1, 1, 0, 1)}, {4, ints(3, 1, 3, 1), ints(2, 1, 1, 0)}, {7, ints(2, 2, 3), ints(2, 2, 3)}, {6, ints(2, 2, 3), ints(2, 2, 2)}, {5, ints(2, 2, 3), ints(2, 1, 2)},
		// the greatest ones
		{most, ints(most, most), ints(most/2, most/2)}, {most, ints(most, most, most), ints(333333334, 333333333, 333333333)}, {most - 1, ints(most, most), ints(most/2, most/2-1)}, {most, ints(most, 1), ints(most-1, 1)}, {most, ints(1, most), ints(1, most-1)}, {most, ints(most, most-1), ints(500000000, 500000000)}, {most - 1, ints(most-1, most), ints(499999999, 500000000)}, {1, ints(most, most-1), ints(1, 0)}, {1, ints(most-1, most), ints(0, 1)},
	} {
		wantResults(t, all(impl.SplitExact(c.amount, c.weights)), all(c.want, true), "SplitExact", c.amount, c.weights)
		wantResults(t, all(splitOracle(c.amount, c.weights)), all(c.want, true), "the oracle", c.amount, c.weights)
	}
	failed := all(noInts, false)
	for _, x := range notUnits() {
		wantResults(t, all(impl.SplitExact(x, ints(1, 2))), failed, "SplitExact", x)
		for _, weights := range days(ints(x), ints(x, 1), ints(1, x), ints(x, x), ints(0, x, 5), append(make([]int64, impl.MaxDays-1), x)) {
			wantResults(t, all(impl.SplitExact(5, weights)), failed, "SplitExact", weights)
			wantResults(t, all(impl.SplitExact(0, weights)), failed, "SplitExact of nothing", weights)
		}
	}
	for _, weights := range days(nil, ints(), ints(0), ints(0, 0), make([]int64, impl.MaxDays), alike(impl.MaxDays+1, int64(1)), alike(2*impl.MaxDays, int64(1)), append(ints(5, -5), 0), ints(-1, 2), ints(math.MaxInt64, math.MaxInt64, 3), ints(math.MinInt64, math.MinInt64, 1)) {
		wantResults(t, all(impl.SplitExact(7, weights)), failed, "SplitExact", weights)
		wantResults(t, all(impl.SplitExact(0, weights)), failed, "SplitExact of nothing", weights)
	}
}

func TestSplitExactAtItsLimits(t *testing.T) {
	for _, weight := range ints(1, 2, impl.MaxUnits-1, impl.MaxUnits) {
		for _, amount := range ints(0, 1, 63, 64, 65, impl.MaxUnits-1, impl.MaxUnits) {
			want := make([]int64, impl.MaxDays)
			for i := range want {
				want[i] = amount / impl.MaxDays
				if int64(i) < amount%impl.MaxDays {
					want[i]++
				}
			}
			wantResults(t, all(impl.SplitExact(amount, alike(impl.MaxDays, weight))), all(want, true), "SplitExact by equal weights", amount, weight)
			wantResults(t, all(impl.SplitExact(amount, ints(weight))), all(ints(amount), true), "SplitExact by one weight", amount, weight)
			last := append(make([]int64, impl.MaxDays-1), weight)
			wantResults(t, all(impl.SplitExact(amount, last)), all(append(make([]int64, impl.MaxDays-1), amount), true), "SplitExact by the last weight", amount, weight)
		}
	}
}

// Shares make the whole, each one is next to what it would be with places
// behind the point, and who has more, or comes first, gets no less.
func TestSharesOfAllKinds(t *testing.T) {
	d := drawer(630)
	for n := range 4000 {
		kinds := 1 + n%unitKinds
		amount, weights := d.units(kinds), d.unitList(1+int(d.next()%impl.MaxDays), kinds)
		if n%3 == 0 {
			amount, weights = int64(d.next()%40), d.unitList(1+int(d.next()%9), 1)
		}
		want, ok := splitOracle(amount, weights)
		shares, fine := impl.SplitExact(amount, weights)
		wantResults(t, all(shares, fine), all(want, ok), "SplitExact", amount, weights)
		if !ok {
			continue
		}
		wantThat(t, sum(shares), amount, "SplitExact makes the whole", amount, weights)
		for i, share := range shares {
			exact, rest := portion(amount, weights[i], sum(weights))
			wantThat(t, share == exact || rest > 0 && share == exact+1, true, "SplitExact is near", amount, weights, i)
			for k := range i {
				wantThat(t, weights[k] < weights[i] || shares[k] >= share, true, "SplitExact gives no less for more", amount, weights, k, i)
				wantThat(t, weights[k] > weights[i] || weights[k] == weights[i] || shares[k] <= share, true, "SplitExact gives no less for more", amount, weights, k, i)
			}
		}
	}
}

func TestByRightsByHand(t *testing.T) {
	const most = impl.MaxUnits
	for _, c := range []struct {
		amount             int64
		wants, ranks, want []int64
	}{
		{7, ints(4, 4, 4), ints(1, 0, 1), ints(2, 4, 1)}, {99, ints(4, 4), ints(1, 0), ints(4, 4)}, {0, ints(4, 4), ints(1, 0), ints(0, 0)}, {5, ints(9), ints(64), ints(5)}, {5, ints(9), ints(0), ints(5)}, {9, ints(9), ints(64), ints(9)}, {10, ints(9), ints(7), ints(9)},
		// just enough for a rank, one less, and one more
		{6, ints(3, 2, 4, 5), ints(0, 1, 0, 1), ints(3, 0, 3, 0)}, {7, ints(3, 2, 4, 5), ints(0, 1, 0, 1), ints(3, 0, 4, 0)}, {8, ints(3, 2, 4, 5), ints(0, 1, 0, 1), ints(3, 0, 4, 1)}, {13, ints(3, 2, 4, 5), ints(0, 1, 0, 1), ints(3, 2, 4, 4)}, {14, ints(3, 2, 4, 5), ints(0, 1, 0, 1), ints(3, 2, 4, 5)}, {15, ints(3, 2, 4, 5), ints(0, 1, 0, 1), ints(3, 2, 4, 5)},
		// ranks whose wants are all 0
		{5, ints(0, 3, 0), ints(0, 5, 9), ints(0, 3, 0)}, {5, ints(0), ints(0), ints(0)}, {0, ints(0, 0), ints(0, 64), ints(0, 0)}, {5, ints(9, 0, 9), ints(2, 1, 0), ints(0, 0, 5)}, {5, ints(0, 0, 2), ints(1, 1, 1), ints(0, 0, 2)}, {1, ints(0, 2, 0, 2), ints(3, 3, 3, 3), ints(0, 1, 0, 0)},
		// the least ranks come first, wherever they are, and the first ones of equal remainders
		{10, ints(4, 4, 4, 4), ints(64, 0, 1, 63), ints(0, 4, 4, 2)}, {7, ints(5, 1, 5), ints(0, 64, 0), ints(4, 0, 3)}, {8, ints(1, 5, 5, 5), ints(0, 2, 1, 2), ints(1, 1, 5, 1)}, {7, ints(2, 3, 3, 3), ints(0, 1, 1, 1), ints(2, 2, 2, 1)}, {3, ints(1, 1, 1, 1, 1), ints(2, 2, 2, 2, 2), ints(1, 1, 1, 0, 0)}, {4, ints(1, 2, 3), ints(0, 0, 0), ints(1, 1, 2)},
		{most, ints(most, most), ints(0, 1), ints(most, 0)}, {most, ints(most, most), ints(1, 0), ints(0, most)}, {most, ints(most, most), ints(5, 5), ints(most/2, most/2)}, {most, ints(1, most, most), ints(0, 1, 1), ints(1, most/2, most/2-1)}, {most, ints(most-1, most, most), ints(0, 1, 1), ints(most-1, 1, 0)},
	} {
		wantResults(t, all(impl.ByRights(c.amount, c.wants, c.ranks)), all(c.want, true), "ByRights", c.amount, c.wants, c.ranks)
		wantResults(t, all(rightsOracle(c.amount, c.wants, c.ranks)), all(c.want, true), "the oracle", c.amount, c.wants, c.ranks)
	}
	failed := all(noInts, false)
	for _, x := range append(notUnits(), impl.MaxDays+1, -2, impl.MaxDays+2) {
		for _, ranks := range days(ints(x, 0), ints(0, x), ints(x, x)) {
			wantResults(t, all(impl.ByRights(5, ints(1, 2), ranks)), failed, "ByRights with the ranks", ranks)
			wantResults(t, all(impl.ByRights(0, ints(0, 0), ranks)), failed, "ByRights of nothing with the ranks", ranks)
		}
	}
	for _, x := range notUnits() {
		wantResults(t, all(impl.ByRights(x, ints(1, 2), ints(0, 1))), failed, "ByRights", x)
		for _, wants := range days(ints(x, 0), ints(0, x), ints(x, x), ints(x, 5)) {
			for _, amount := range ints(0, 5, most) {
				wantResults(t, all(impl.ByRights(amount, wants, ints(1, 0))), failed, "ByRights", amount, wants)
			}
		}
	}
	for _, c := range [][2][]int64{{nil, nil}, {ints(1), nil}, {nil, ints(1)}, {ints(1, 2), ints(1)}, {ints(1), ints(1, 2)}, {ints(1, 2, 3), ints(0, 0)}, {make([]int64, 65), make([]int64, 65)}, {make([]int64, 64), make([]int64, 65)}, {make([]int64, 65), make([]int64, 64)}, {make([]int64, 64), make([]int64, 63)}, {alike(128, int64(1)), make([]int64, 128)}} {
		for _, amount := range ints(0, 5, most) {
			wantResults(t, all(impl.ByRights(amount, c[0], c[1])), failed, "ByRights of counts", amount, len(c[0]), len(c[1]))
		}
	}
}

func TestByRightsAtItsLimits(t *testing.T) {
	ranks, wants := noInts, alike(impl.MaxDays, int64(3))
	for i := range int64(impl.MaxDays) {
		ranks = append(ranks, impl.MaxDays-i) // from MaxDays down to 1
	}
	for amount := int64(0); amount <= 3*impl.MaxDays+1; amount++ {
		want := make([]int64, impl.MaxDays)
		left := amount
		for i := impl.MaxDays - 1; i >= 0; i-- {
			want[i] = min(left, 3)
			left -= want[i]
		}
		wantResults(t, all(impl.ByRights(amount, wants, ranks)), all(want, true), "ByRights of MaxDays ranks", amount)
	}
	even := make([]int64, impl.MaxDays)
	wantResults(t, all(impl.ByRights(100, wants, even)), all(splitOracle(100, wants)), "ByRights of one rank")
	wantResults(t, all(impl.ByRights(impl.MaxUnits, alike(impl.MaxDays, int64(impl.MaxUnits)), even)), all(alike(impl.MaxDays, int64(impl.MaxUnits/impl.MaxDays)), true), "ByRights of the greatest wants")
}

// All is given, or all wants are met; and no rank gets anything before all
// ranks before it have what they want.
func TestRightsOfAllKinds(t *testing.T) {
	d := drawer(631)
	for n := range 3000 {
		kinds, count := 1+n%unitKinds, 1+int(d.next()%impl.MaxDays)
		if n%2 == 0 {
			count = 1 + int(d.next()%6)
		}
		amount, wants, ranks := d.units(kinds), d.unitList(count, kinds), make([]int64, count)
		for i := range ranks {
			ranks[i] = int64(d.next() % 4)
			if n%3 == 0 {
				ranks[i] = int64(d.next() % (impl.MaxDays + 1))
			}
		}
		if d.next()%2 == 0 {
			amount = d.upTo(min(sum(wants), impl.MaxUnits))
		}
		shares, ok := impl.ByRights(amount, wants, ranks)
		wantResults(t, all(shares, ok), all(rightsOracle(amount, wants, ranks)), "ByRights", amount, wants, ranks)
		wantThat(t, ok && sum(shares) == min(amount, sum(wants)), true, "ByRights makes the whole", amount, wants, ranks)
		for i := range shares {
			wantThat(t, shares[i] >= 0 && shares[i] <= wants[i], true, "ByRights gives no more than is wanted", amount, wants, ranks, i)
			for k := range shares {
				wantThat(t, ranks[k] >= ranks[i] || shares[k] == wants[k] || shares[i] == 0, true, "ByRights goes by ranks", amount, wants, ranks, k, i)
			}
		}
	}
}

func TestHalfWayByHand(t *testing.T) {
	const most = impl.MaxUnits
	for _, c := range []struct {
		dates [][]int64
		want  []int64
	}{
		{days(ints(1, 0), ints(1, 5), ints(2, 0)), ints(1, 1)}, {days(ints(0)), ints(0)}, {days(ints(5)), ints(0)}, {days(ints(0, 0, 0), ints(0, 0, 0)), ints(0, 0, 0)},
		// sums that are even and odd
		{days(ints(2, 1, 3), ints(2, 2, 2)), ints(0, 1, 0)}, {days(ints(1), ints(1), ints(1)), ints(1)}, {days(ints(1), ints(1), ints(1), ints(1)), ints(1)}, {days(ints(1), ints(1), ints(1), ints(1), ints(1)), ints(2)}, {days(ints(3), ints(0), ints(0), ints(4)), ints(3)}, {days(ints(4), ints(0), ints(0), ints(4)), ints(0)}, {days(ints(4), ints(0), ints(0), ints(5)), ints(3)}, {days(ints(0), ints(0), ints(1)), ints(2)}, {days(ints(0), ints(1), ints(0), ints(1)), ints(1)}, {days(ints(2), ints(1), ints(4)), ints(2)}, {days(ints(3), ints(1), ints(3)), ints(1)}, {days(ints(1), ints(0), ints(0)), ints(0)},
		{days(ints(most), ints(most)), ints(0)}, {days(ints(most-1), ints(most)), ints(1)}, {days(ints(most), ints(most-1)), ints(0)}, {evenDays(impl.MaxDays, impl.MaxNodes, most), alike(impl.MaxNodes, int64(31))}, {evenDays(impl.MaxDays-1, impl.MaxNodes, most), alike(impl.MaxNodes, int64(31))}, {evenDays(impl.MaxDays, 1, 0), ints(0)}, {append(evenDays(impl.MaxDays-1, 2, 0), ints(1, most)), ints(63, 63)}, {append(evenDays(impl.MaxDays-1, 1, 1), ints(64)), ints(63)}, {append(evenDays(impl.MaxDays-1, 1, 1), ints(63)), ints(62)},
	} {
		wantResults(t, all(impl.HalfWay(c.dates)), all(c.want, true), "HalfWay", c.dates)
		wantResults(t, all(halfOracle(c.dates)), all(c.want, true), "the oracle", c.dates)
	}
	failed := all(noInts, false)
	for _, dates := range [][][]int64{
		nil, {}, days(nil), days(nil, nil), days(ints()), days(alike(impl.MaxNodes+1, int64(1))), evenDays(3, impl.MaxNodes+1, 0), evenDays(impl.MaxDays+1, 1, 1), evenDays(impl.MaxDays+1, impl.MaxNodes, 0), evenDays(2*impl.MaxDays, 2, 1),
		days(ints(1), nil), days(nil, ints(1)), days(ints(1), ints(1, 2)), days(ints(1, 2), ints(1)), days(ints(1, 2), ints(1, 2), ints(1, 2, 3)), days(ints(0, 0), ints(0, 0), ints(0)), append(evenDays(impl.MaxDays-1, 2, 1), ints(1)), days(alike(impl.MaxNodes, int64(1)), alike(impl.MaxNodes+1, int64(1))),
	} {
		wantResults(t, all(impl.HalfWay(dates)), failed, "HalfWay", dates)
	}
	for _, x := range notUnits() {
		for _, dates := range [][][]int64{days(ints(x)), days(ints(1, x)), days(ints(x, 1), ints(1, 1)), days(ints(1, 1), ints(1, x)), append(evenDays(impl.MaxDays-1, 1, 1), ints(x))} {
			wantResults(t, all(impl.HalfWay(dates)), failed, "HalfWay", dates)
		}
	}
}

func TestHalvesOfAllKinds(t *testing.T) {
	d := drawer(632)
	for n := range 2000 {
		dates := d.days(int(d.next()%12), d.nodeCount(), 1+n%unitKinds)
		if n%9 == 0 && len(dates) > 0 {
			dates[len(dates)-1] = d.unitList(d.nodeCount(), 1)
		}
		wantResults(t, all(impl.HalfWay(dates)), all(halfOracle(dates)), "HalfWay", dates)
	}
	for _, nodes := range []int{1, 2, impl.MaxNodes} {
		for _, count := range []int{1, 2, impl.MaxDays - 1, impl.MaxDays} {
			dates := d.days(count, nodes, unitKinds)
			halves, ok := impl.HalfWay(dates)
			wantResults(t, all(halves, ok), all(halfOracle(dates)), "HalfWay", dates)
			wantThat(t, ok && len(halves) == nodes && slices.Max(halves) < int64(count), true, "HalfWay", nodes, count)
		}
	}
}
