package tests

import (
	"math"
	"slices"
	"testing"

	"loop.example/g01302/impl"
)

// floodsAre compares what FitFloods tells with the oracle.
func floodsAre(t *testing.T, list []float32) bool {
	t.Helper()
	place, scale, ok := fitFloodsOracle(list)
	wantResults(t, all(impl.FitFloods(list)), all(place, scale, ok), "FitFloods", list)
	return ok
}

func TestFitFloodsByHand(t *testing.T) {
	scale, euler := number(scaleBits), number(eulerBits)
	for _, c := range []struct {
		list         []float32
		place, scale float32
	}{
		{floats(2, 2), 2, 0}, {floats(2, 2, 2), 2, 0}, {floats(0, minusZero), 0, 0}, {floats(minusZero, minusZero), 0, 0}, {evenList(impl.MaxGauge, 7), 7, 0}, {floats(tiniest, tiniest), tiniest, 0},
		{floats(1, 2, 3), less(2, times(euler, scale)), scale}, {floats(3, 1, 2), less(2, times(euler, scale)), scale}, {floats(6, 2, 4), less(4, times(euler, times(scale, 2))), times(scale, 2)}, {floats(0, 0, 0, 4), less(1, times(euler, times(scale, 2))), times(scale, 2)},
		// two numbers: the squares are divided by 1
		{floats(0, 2), less(1, times(euler, times(scale, root(2)))), times(scale, root(2))}, {floats(2, 0), less(1, times(euler, times(scale, root(2)))), times(scale, root(2))},
		// all squares become 0, though the numbers are not equal
		{floats(1e-30, 3e-30), 2e-30, 0},
	} {
		wantResults(t, all(impl.FitFloods(c.list)), all(c.place, c.scale, true), "FitFloods", c.list)
		wantResults(t, all(fitFloodsOracle(c.list)), all(c.place, c.scale, true), "the oracle", c.list)
	}
	failed := all(float32(0), float32(0), false)
	for _, list := range append(wrongGauges(), floats(0), floats(5), floats(greatest), floats(minusZero)) {
		wantResults(t, all(impl.FitFloods(list)), failed, "FitFloods", list)
	}
	// squares and sums that become infinite
	for _, list := range rows(floats(0, greatest), floats(greatest, 0), floats(1e20, 3, 4e19), floats(0, 4e19, 4e19, 0), floats(greatest, greatest), evenList(impl.MaxGauge, greatest), evenList(impl.MaxGauge, 3e36)) {
		wantResults(t, all(impl.FitFloods(list)), failed, "FitFloods that is infinite", list)
		wantResults(t, all(fitFloodsOracle(list)), failed, "the oracle", list)
	}
	wantThat(t, floodsAre(t, floats(0, 2e19)) && floodsAre(t, evenList(impl.MaxGauge, 0x1p119)), true, "FitFloods of great numbers")
}

// The mean of equal numbers can be rounded, so that their scale is not 0.
func TestFitFloodsOfEqualNumbers(t *testing.T) {
	even, uneven := 0, 0
	for n := range 3000 {
		list := evenList(2+n%(impl.MaxGauge-1), 0.1+float32(n)/7)
		wantThat(t, floodsAre(t, list), true, "FitFloods of equal numbers", list)
		_, scale, _ := impl.FitFloods(list)
		if scale == 0 {
			even++
		} else {
			uneven++
			wantThat(t, scale <= 1e-5*list[0], true, "FitFloods of equal numbers", scale)
		}
	}
	wantThat(t, even > 300 && uneven > 300, true, "means that are not rounded, and others", even, uneven)
}

func TestFitFloodsOfAllKinds(t *testing.T) {
	told := 0
	for _, list := range sampleGauges(710, 3000) {
		if floodsAre(t, list) {
			told++
		}
	}
	wantThat(t, told > 1500, true, "floods that are told", told)
	for count := range impl.MaxGauge + 3 {
		wantThat(t, floodsAre(t, rising(count)), count >= 2 && count <= impl.MaxGauge, "FitFloods of so many", count)
	}
}

func TestFloodOfByHand(t *testing.T) {
	for _, c := range []struct{ place, scale, years, want float32 }{
		{3, 0, 2, 3}, {-3, 0, 100, -3}, {3, 0, above(1), 3}, {greatest, 0, 5, greatest},
		// the place keeps its sign less a zero with the other sign only
		{0, 0, 2, 0}, {minusZero, 0, 2, 0}, {minusZero, minusZero, 2, minusZero}, {0, minusZero, 2, 0}, {minusZero, 0, 1.25, minusZero}, {minusZero, minusZero, 1.25, 0}, {5, minusZero, 2, 5}, {-5, minusZero, 1.25, -5},
	} {
		wantResults(t, all(impl.FloodOf(c.place, c.scale, c.years)), all(c.want, true), "FloodOf", c)
		wantNumber(t, floodOracle(c.place, c.scale, c.years), c.want, "the oracle", c)
	}
	for _, c := range []struct{ place, scale, years, want float64 }{
		{0, 1, 2, 0.36651292}, {0, 1, 100, 4.6001492}, {10, 2, 10, 14.500735}, {-1, 0.5, 1.5819767, -1}, {0, 1, 1.0000001192092896, -2.76898}, {0, 1, 8388608, 15.9424}, {0, 1, 16777216, 16.6355}, {0, 1, 33554430, 16.6355},
	} {
		flood, ok := impl.FloodOf(float32(c.place), float32(c.scale), float32(c.years))
		wantThat(t, ok && isNear(float64(flood), c.want, 20), true, "FloodOf", c, flood)
	}
	failed := all(float32(0), false)
	// 1 divided by years is lost next to 1
	for _, years := range floats(0x1p25, 4e7, 1e10, 1e30, greatest) {
		for _, scale := range floats(1, tiniest, greatest, 0, minusZero) {
			wantResults(t, all(impl.FloodOf(3, scale, years)), failed, "FloodOf of very many years", scale, years)
		}
	}
	for _, years := range append(invalidNumbers(), 1, 0, minusZero, 0.5, under(1), tiniest) {
		for _, scale := range floats(0, 1) {
			wantResults(t, all(impl.FloodOf(3, scale, years)), failed, "FloodOf of so few years", scale, years)
		}
	}
	for _, x := range invalidNumbers() {
		wantResults(t, all(impl.FloodOf(3, x, 2)), failed, "FloodOf of a wrong scale", x)
	}
	for _, x := range notFinite() {
		wantResults(t, all(impl.FloodOf(x, 1, 2)), failed, "FloodOf of a wrong place", x)
		wantResults(t, all(impl.FloodOf(x, 0, 2)), failed, "FloodOf of a wrong place", x)
	}
	wantResults(t, all(impl.FloodOf(0, greatest, 100)), failed, "FloodOf that is infinite")
	wantResults(t, all(impl.FloodOf(-greatest, greatest, above(1))), failed, "FloodOf that is infinite")
}

func TestYearsOfByHand(t *testing.T) {
	for _, c := range []struct{ place, scale, flood, want float32 }{
		// far below the place, each year has such a flood
		{0, 1, -100, 1}, {0, tiniest, -1, 1}, {greatest, 1, -greatest, 1}, {0, 0.1, -1, 1}, {5, 1, -greatest, 1},
	} {
		wantResults(t, all(impl.YearsOf(c.place, c.scale, c.flood)), all(c.want, true), "YearsOf", c)
		wantNumber(t, yearsOracle(c.place, c.scale, c.flood), c.want, "the oracle", c)
	}
	for _, c := range []struct{ place, scale, flood, want float64 }{
		{0, 1, 0, 1.5819767}, {3, 5, 3, 1.5819767}, {0, 1, 0.36651292, 2}, {0, 2, 0.73302584, 2}, {-1, 2, -0.26697416, 2}, {0, 1, 4.6001492, 100}, {0, math.MaxFloat32, 1, 1.5819767}, {-1, 1, 0, 3.2489}, {0, 1, -1, 1.0707},
	} {
		years, ok := impl.YearsOf(float32(c.place), float32(c.scale), float32(c.flood))
		wantThat(t, ok && isNear(float64(years), c.want, 100), true, "YearsOf", c, years)
	}
	failed := all(float32(0), false)
	// what is divided by becomes 0
	for _, c := range [][3]float32{{0, 1, 20}, {0, 1, 1000}, {0, tiniest, 1}, {-greatest, 1, greatest}, {0, 1e-30, greatest}, {-greatest, greatest, greatest}, {-100, 1, 0}} {
		wantResults(t, all(impl.YearsOf(c[0], c[1], c[2])), failed, "YearsOf a flood that is too great", c)
		wantNumber(t, yearsOracle(c[0], c[1], c[2]), notANumber, "the oracle", c)
	}
	for _, x := range nonPositive() {
		wantResults(t, all(impl.YearsOf(1, x, 2)), failed, "YearsOf of a wrong scale", x)
		wantResults(t, all(impl.YearsOf(1, x, 1)), failed, "YearsOf of a wrong scale", x)
	}
	for _, x := range notFinite() {
		wantResults(t, all(impl.YearsOf(x, 1, 2)), failed, "YearsOf of a wrong place", x)
		wantResults(t, all(impl.YearsOf(1, 1, x)), failed, "YearsOf of a wrong flood", x)
	}
}

func TestFloodsAtAllBounds(t *testing.T) {
	edges := ratingEdges()
	for _, x := range edges {
		for _, y := range edges {
			for _, z := range floats(0, minusZero, 1, 2, -3, 1e30, tiniest) {
				for _, c := range [][3]float32{{x, y, z}, {x, z, y}, {z, x, y}} {
					wantTold(t, all(impl.FloodOf(c[0], c[1], c[2])), floodOracle(c[0], c[1], c[2]), "FloodOf", c)
					wantTold(t, all(impl.YearsOf(c[0], c[1], c[2])), yearsOracle(c[0], c[1], c[2]), "YearsOf", c)
				}
			}
		}
	}
	d := drawer(711)
	for n := range 20000 {
		kinds := 1 + n%amountKinds
		place, scale, flood := d.signed(kinds), d.amount(kinds), d.signed(kinds)
		wantTold(t, all(impl.FloodOf(place, scale, 1+abs(flood))), floodOracle(place, scale, 1+abs(flood)), "FloodOf", place, scale, flood)
		wantTold(t, all(impl.YearsOf(place, scale, flood)), yearsOracle(place, scale, flood), "YearsOf", place, scale, flood)
	}
}

// Years lead to floods, and floods back to years, nearly.
func TestYearsOfFloodsAreFoundAgain(t *testing.T) {
	d := drawer(712)
	for range 5000 {
		place, scale, years := d.between(-50, 50), d.between(1, 40), d.between(1.1, 200)
		flood := must(impl.FloodOf(place, scale, years))
		wantThat(t, isClose(must(impl.YearsOf(place, scale, flood)), years, 5e-3), true, "YearsOf FloodOf", place, scale, years, flood)
		if later := must(impl.FloodOf(place, scale, years*1.5)); later <= flood {
			t.Errorf("FloodOf %v years is %v, and no more than %v", years*1.5, later, flood)
		}
	}
}

func TestRankedYearsByHand(t *testing.T) {
	four := over(4, 3)
	for _, c := range []struct {
		list  []float32
		order []int64
		years []float32
	}{
		{floats(3, 1, 2), ints(0, 2, 1), floats(4, 2, four)}, {floats(5), ints(0), floats(2)}, {floats(minusZero), ints(0), floats(2)}, {floats(1, 2), ints(1, 0), floats(3, 1.5)}, {floats(2, 1), ints(0, 1), floats(3, 1.5)},
		// equal ones are in the order of their indices
		{floats(2, 2, 2), ints(0, 1, 2), floats(4, 2, four)}, {floats(1, 2, 1, 2), ints(1, 3, 0, 2), floats(5, 2.5, over(5, 3), 1.25)}, {floats(0, minusZero, 0), ints(0, 1, 2), floats(4, 2, four)}, {floats(minusZero, 0, minusZero), ints(0, 1, 2), floats(4, 2, four)}, {floats(minusZero, tiniest, 0), ints(1, 0, 2), floats(4, 2, four)}, {floats(greatest, 0, greatest), ints(0, 2, 1), floats(4, 2, four)},
	} {
		wantResults(t, all(impl.RankedYears(c.list)), all(c.order, c.years, true), "RankedYears", c.list)
		wantResults(t, all(rankedOracle(c.list)), all(c.order, c.years, true), "the oracle", c.list)
	}
	for _, list := range wrongGauges() {
		wantResults(t, all(impl.RankedYears(list)), all(noInts, noFloats, false), "RankedYears", list)
	}
	for count := range impl.MaxGauge + 1 {
		order, years, ok := impl.RankedYears(evenList(count, 3))
		wantThat(t, ok && len(order) == count && len(years) == count, count > 0, "RankedYears of so many", count)
		wantThat(t, slices.IsSorted(order), true, "RankedYears of equal ones", order)
	}
}

func TestFlowAtShareByHand(t *testing.T) {
	five := floats(10, 50, 20, 40, 30)
	for _, c := range []struct {
		list        []float32
		share, want float32
	}{
		{five, 0, 50}, {five, minusZero, 50}, {five, 1, 10}, {five, under(1), 20}, {five, 0.25, 40}, {five, under(0.25), 50}, {five, 0.5, 30}, {five, 0.75, 20}, {five, under(0.75), 30}, {five, above(0.75), 20}, {five, tiniest, 50},
		{floats(7), 0, 7}, {floats(7), minusZero, 7}, {floats(7), 1, 7}, {floats(7), 0.5, 7}, {floats(7), under(1), 7}, {floats(3, 1, 2), 0.5, 2}, {floats(1, 2), under(1), 2}, {floats(1, 2), 1, 1},
		// of equal ones, the first one comes first
		{floats(0, minusZero), 0, 0}, {floats(0, minusZero), 1, minusZero}, {floats(minusZero, 0), 0, minusZero}, {floats(minusZero, 0), 1, 0}, {floats(minusZero, 1, 0), 0.5, minusZero}, {floats(minusZero, 1, 0), 1, 0},
		// the product is rounded
		{rising(11), 0.1, 9}, {rising(11), under(0.1), 10}, {rising(11), 0.7, 3}, {rising(impl.MaxGauge), 1, 0}, {rising(impl.MaxGauge), under(1), 1}, {rising(impl.MaxGauge), 0, 127}, {rising(50), 0.6122449, 19},
	} {
		wantResults(t, all(impl.FlowAtShare(c.list, c.share)), all(c.want, true), "FlowAtShare", c.list, c.share)
		wantNumber(t, shareOracle(c.list, c.share), c.want, "the oracle", c.list, c.share)
	}
	failed := all(float32(0), false)
	for _, share := range append(invalidNumbers(), above(1), 2, greatest, -0.5) {
		for _, list := range rows(five, floats(7)) {
			wantResults(t, all(impl.FlowAtShare(list, share)), failed, "FlowAtShare", list, share)
		}
	}
	for _, list := range wrongGauges() {
		for _, share := range floats(0, 0.5, 1) {
			wantResults(t, all(impl.FlowAtShare(list, share)), failed, "FlowAtShare", list, share)
		}
	}
}

func TestRanksOfAllKinds(t *testing.T) {
	d := drawer(713)
	for _, list := range sampleGauges(714, 1500) {
		order, years, ok := rankedOracle(list)
		wantResults(t, all(impl.RankedYears(list)), all(order, years, ok), "RankedYears", list)
		last := float32(len(list) - 1)
		shares := append(edgeNumbers(), d.share(), d.share(), d.between(0, 1), d.between(0, 1))
		for range 6 {
			share := over(float32(d.next()%uint64(len(list))), max(last, 1))
			shares = append(shares, share, math.Nextafter32(share, 0), math.Nextafter32(share, 1))
		}
		for _, share := range shares {
			wantTold(t, all(impl.FlowAtShare(list, share)), shareOracle(list, share), "FlowAtShare", list, share)
		}
		if ok {
			wantResults(t, all(impl.FlowAtShare(list, 0)), all(list[order[0]], true), "FlowAtShare of 0", list)
			wantResults(t, all(impl.FlowAtShare(list, 1)), all(list[order[len(order)-1]], true), "FlowAtShare of 1", list)
		}
	}
}
