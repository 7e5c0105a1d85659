package tests

import (
	"math"
	"slices"
	"testing"

	"loop.example/g01302/impl"
)

func TestIsGauge(t *testing.T) {
	for count := range 2*impl.MaxGauge + 2 {
		wantThat(t, impl.IsGauge(evenList(count, 1)), count >= 1 && count <= impl.MaxGauge, "IsGauge of so many", count)
	}
	wantThat(t, impl.IsGauge(nil), false, "IsGauge of none")
	for _, x := range sampleNumbers(300) {
		for _, list := range rows(floats(x), floats(x, 1), floats(1, x), floats(1, x, 2), with(evenList(impl.MaxGauge, 1), impl.MaxGauge-1, x)) {
			wantThat(t, impl.IsGauge(list), gaugeOracle(list), "IsGauge", list)
		}
	}
	for _, list := range wrongGauges() {
		wantThat(t, impl.IsGauge(list), false, "IsGauge", list)
	}
	for _, list := range sampleGauges(700, 100) {
		wantThat(t, impl.IsGauge(list), true, "IsGauge", list)
	}
}

// fitIs compares what FitRating tells with the oracle.
func fitIs(t *testing.T, levels, flows []float32, zero float32) bool {
	t.Helper()
	size, power, ok := fitOracle(levels, flows, zero)
	wantResults(t, all(impl.FitRating(levels, flows, zero)), all(size, power, ok), "FitRating", levels, flows, zero)
	return ok
}

func TestFitRatingByHand(t *testing.T) {
	for _, c := range []struct {
		levels, flows     []float32
		zero, size, power float32
	}{
		{floats(1, 2), floats(1, 4), 0, 1, 2}, {floats(2, 1), floats(4, 1), 0, 1, 2}, {floats(1, 2, 4), floats(3, 6, 12), 0, 3, 1}, {floats(11, 12, 14), floats(3, 6, 12), 10, 3, 1}, {floats(-3, -2), floats(5, 5), -4, 5, 0}, {floats(1, 4), floats(2, 1), 0, 2, -0.5}, {floats(1, 2, 1), floats(0.5, 4, 2), minusZero, 1, 2},
		// what is farther off than others draws the line to it
		{floats(1, 2, 4), floats(1, 4, 4), 0, 1.2599211, 1},
		{floats(1e-30, 1e30), floats(1e30, 1e-30), 0, 1, -1},
	} {
		size, power, ok := impl.FitRating(c.levels, c.flows, c.zero)
		wantThat(t, ok && isNear(float64(size), float64(c.size), 10) && isNear(float64(power), float64(c.power), 10), true, "FitRating", c.levels, c.flows, c.zero, size, power)
		wantThat(t, fitIs(t, c.levels, c.flows, c.zero), true, "the oracle", c.levels)
	}
}

// Levels are above zero, and flows above 0.
func TestFitRatingNextToZero(t *testing.T) {
	failed := all(float32(0), float32(0), false)
	for _, zero := range floats(0, minusZero, 1, -1, 3.5, tiniest, -1e30, 1e30) {
		high, higher := math.Nextafter32(zero, infinity), plus(plus(zero, 1), times(abs(zero), 0.5))
		wantThat(t, fitIs(t, floats(high, higher), floats(1, 2), zero), true, "FitRating just above zero", zero)
		wantThat(t, fitIs(t, floats(higher, high, higher), floats(1, 2, 3), zero), true, "FitRating just above zero", zero)
		for _, level := range append(notFinite(), zero, math.Nextafter32(zero, minusInf)) {
			wantResults(t, all(impl.FitRating(floats(level, higher), floats(1, 2), zero)), failed, "FitRating", level, zero)
			wantResults(t, all(impl.FitRating(floats(high, higher, level), floats(1, 2, 3), zero)), failed, "FitRating", level, zero)
		}
	}
	for _, flow := range nonPositive() {
		wantResults(t, all(impl.FitRating(floats(1, 2), floats(flow, 2), 0)), failed, "FitRating", flow)
		wantResults(t, all(impl.FitRating(floats(1, 2, 3), floats(1, 2, flow), 0)), failed, "FitRating", flow)
		wantResults(t, all(impl.FitRating(floats(1, 2), floats(flow, flow), 0)), failed, "FitRating", flow)
	}
	for _, zero := range notFinite() {
		wantResults(t, all(impl.FitRating(floats(1, 2), floats(1, 4), zero)), failed, "FitRating", zero)
	}
	// no zero is above the other one
	wantResults(t, all(impl.FitRating(floats(0, 2), floats(1, 4), minusZero)), failed, "FitRating")
	wantResults(t, all(impl.FitRating(floats(minusZero, 2), floats(1, 4), 0)), failed, "FitRating")
	for _, flow := range floats(tiniest, number(0x007fffff), greatest) {
		wantThat(t, fitIs(t, floats(1, 2), floats(2, flow), 0), true, "FitRating", flow)
		fitIs(t, floats(1, 2), floats(flow, 2), 0)
	}
}

func TestFitRatingOfSoManyLevels(t *testing.T) {
	failed := all(float32(0), float32(0), false)
	up := func(count int) []float32 { return rising(count + 1)[1:] }
	for count := range impl.MaxGauge + 5 {
		ok := count >= 2 && count <= impl.MaxGauge
		wantThat(t, fitIs(t, up(count), up(count), 0), ok, "FitRating of so many", count)
		for _, more := range []int{1, 2, impl.MaxGauge} {
			wantResults(t, all(impl.FitRating(up(count), up(count+more), 0)), failed, "FitRating of more flows", count, more)
			wantResults(t, all(impl.FitRating(up(count+more), up(count), 0)), failed, "FitRating of more levels", count, more)
		}
	}
}

// Where e is 0, no line is nearest. It can be 0 only because it is rounded.
func TestFitRatingOfEqualLevels(t *testing.T) {
	failed := all(float32(0), float32(0), false)
	for _, level := range floats(1, 2, 4, 1024, 0.25) {
		for _, count := range []int{2, 4} {
			flows := rising(count + 1)[1:]
			wantResults(t, all(impl.FitRating(evenList(count, level), flows, 0)), failed, "FitRating of equal levels", level, count)
			wantResults(t, all(impl.FitRating(evenList(count, level), evenList(count, 3), 0)), failed, "FitRating of equal levels", level, count)
		}
	}
	wantResults(t, all(impl.FitRating(floats(1, 1), floats(1, 4), 0)), failed, "FitRating of equal levels")
	wantResults(t, all(impl.FitRating(floats(3, 3), floats(4, 4), 2)), failed, "FitRating of equal levels")
	rounded, others := 0, 0
	for n := range 4000 {
		low := float32(100 + n)
		levels := floats(low, low+float32(n%9+1)/64)
		if bits(impl.LogNumber(levels[0])) == bits(impl.LogNumber(levels[1])) {
			continue
		}
		if fitIs(t, levels, floats(1, 2), 0) {
			others++
		} else {
			rounded++
		}
	}
	wantThat(t, rounded > 500 && others > 500, true, "levels of which e is rounded to 0, and others", rounded, others)
	// Rounded sums of equal levels can leave an e that is not 0.
	some := 0
	for _, level := range rising(600)[2:] {
		if fitIs(t, evenList(3, level), floats(1, 2, 3), 0.5) {
			some++
		}
	}
	wantThat(t, some > 20, true, "equal levels of which e is not 0", some)
}

func TestFitRatingOfInfiniteSums(t *testing.T) {
	failed := all(float32(0), float32(0), false)
	wantResults(t, all(impl.FitRating(floats(greatest, 1), floats(1, 2), -greatest)), failed, "FitRating")
	wantResults(t, all(impl.FitRating(floats(1, 2, greatest), floats(1, 2, 3), -greatest)), failed, "FitRating")
	wantResults(t, all(impl.FitRating(floats(greatest, greatest), floats(1, 1), -greatest)), failed, "FitRating")
	fitIs(t, floats(greatest, 1), floats(1, 2), -1e31)
	// so steep that the size is infinite, or nothing
	wantResults(t, all(impl.FitRating(floats(100, 150), floats(1e30, 1), 0)), failed, "FitRating of an infinite size")
	size, _, ok := impl.FitRating(floats(100, 150), floats(1, 1e30), 0)
	wantThat(t, ok && bits(size) == 0, true, "FitRating of the size 0", size)
	wantThat(t, fitIs(t, floats(100, 150), floats(1e30, 1), 0) || !fitIs(t, floats(100, 150), floats(1, 1e30), 0), false, "the oracle")
}

func TestFitRatingOfAllKinds(t *testing.T) {
	d := drawer(701)
	told := 0
	for n := range 4000 {
		kinds := 1 + n%amountKinds
		count := max(d.gaugeCount(), 2)
		levels, flows, zero := d.row(count, kinds), make([]float32, count), d.signed(kinds)
		for i, x := range levels {
			flows[i] = d.length(kinds)
			if n%4 > 0 && !(x > zero) {
				levels[i] = plus(abs(x), plus(abs(zero), 1))
			}
		}
		if fitIs(t, levels, flows, zero) {
			told++
		}
	}
	wantThat(t, told > 2000, true, "ratings that are told", told)
}

func abs(x float32) float32 { return number(bits(x) & 0x7fffffff) }

// ratingEdges are sizes, powers and levels at bounds.
func ratingEdges() []float32 {
	return append(edgeNumbers(), 3, -3, 0.1, 100, -100, 1e-20, 1e20, 1e38, 1e-38, 88, 1e-45, 3e-45)
}

func TestRatingsByHand(t *testing.T) {
	for _, c := range []struct{ size, power, zero, level, flow float32 }{
		{3, 2, 1, 2, 3}, {3, 2, 1, 1, 0}, {3, 2, 1, 0.5, 0}, {3, 2, 1, under(1), 0}, {3, 2, minusZero, 0, 0}, {3, 2, 0, minusZero, 0}, {3, 2, -1, 0, 3}, {5, 1000, 0, 1, 5}, {5, tiniest, 0, 1, 5}, {greatest, 1, 7, 8, greatest}, {tiniest, 2, -5, -4, tiniest}, {greatest, greatest, -greatest, -greatest, 0}, {1, 1, greatest, -greatest, 0},
		// the power of what is less than 1 becomes 0, or 1
		{3, greatest, 0, 0.5, 0}, {3, tiniest, 0, 0.5, 3}, {3, tiniest, 0, greatest, 3}, {greatest, tiniest, 0, tiniest, greatest}, {tiniest, 1, 0, 0.25, 0},
	} {
		wantResults(t, all(impl.RatingFlow(c.size, c.power, c.zero, c.level)), all(c.flow, true), "RatingFlow", c)
		wantNumber(t, ratedOracle(c.size, c.power, c.zero, c.level), c.flow, "the oracle", c)
	}
	failed := all(float32(0), false)
	for _, c := range [][4]float32{{3, greatest, 0, 2}, {greatest, 1, 0, 3}, {1, 1, -greatest, greatest}, {1, tiniest, -greatest, greatest}, {tiniest, 200, 0, 2}, {1, 2, 0, 1e20}} {
		wantResults(t, all(impl.RatingFlow(c[0], c[1], c[2], c[3])), failed, "RatingFlow that is infinite", c)
	}
	for _, x := range nonPositive() {
		for _, level := range floats(2, 1, 0) {
			wantResults(t, all(impl.RatingFlow(x, 2, 1, level)), failed, "RatingFlow of a wrong size", x, level)
			wantResults(t, all(impl.RatingFlow(3, x, 1, level)), failed, "RatingFlow of a wrong power", x, level)
		}
		wantResults(t, all(impl.RatingLevel(x, 2, 1, 3)), failed, "RatingLevel of a wrong size", x)
		wantResults(t, all(impl.RatingLevel(3, x, 1, 3)), failed, "RatingLevel of a wrong power", x)
		wantResults(t, all(impl.RatingLevel(3, 2, 1, x)), failed, "RatingLevel of a wrong flow", x)
	}
	for _, x := range notFinite() {
		wantResults(t, all(impl.RatingFlow(3, 2, x, 2)), failed, "RatingFlow of a wrong zero", x)
		wantResults(t, all(impl.RatingFlow(3, 2, 1, x)), failed, "RatingFlow of a wrong level", x)
		wantResults(t, all(impl.RatingLevel(3, 2, x, 3)), failed, "RatingLevel of a wrong zero", x)
	}
}

func TestRatingLevelByHand(t *testing.T) {
	for _, c := range []struct{ size, power, zero, flow, level float32 }{
		{3, 2, 1, 3, 2}, {3, 2, -1, 3, 0}, {5, 1000, 0, 5, 1}, {5, tiniest, 6, 5, 7}, {tiniest, 3, 0.5, tiniest, 1.5}, {greatest, 3, 0.5, greatest, 1.5},
		// the flow divided by size becomes 0, and what it takes is nothing
		{greatest, 1, 4, tiniest, 4}, {greatest, greatest, -4, tiniest, -4}, {greatest, 1, minusZero, tiniest, 0}, {1e30, 2, 3, 1e-30, 3},
		// the quotient by the power becomes 0, or it takes nothing
		{1, greatest, 4, 2, 5}, {1, greatest, 4, tiniest, 5}, {1, tiniest, 4, 0.5, 4}, {4, 1e-3, minusZero, 1, 0},
	} {
		wantResults(t, all(impl.RatingLevel(c.size, c.power, c.zero, c.flow)), all(c.level, true), "RatingLevel", c)
		wantNumber(t, levelledOracle(c.size, c.power, c.zero, c.flow), c.level, "the oracle", c)
	}
	for _, c := range [][4]float32{{tiniest, 1, 0, greatest}, {1e-30, 2, 0, 1e30}, {0.25, greatest, 4, greatest}, {1, tiniest, 4, 2}, {1, 1e-3, 4, 2}, {1, 1, greatest, greatest}} {
		wantResults(t, all(impl.RatingLevel(c[0], c[1], c[2], c[3])), all(float32(0), false), "RatingLevel that is infinite", c)
	}
}

func TestRatingsAtAllBounds(t *testing.T) {
	edges := ratingEdges()
	for _, size := range edges {
		for _, power := range edges {
			for _, pair := range [][2]float32{{0, 2}, {1, 0.5}, {1, 1}, {0, 1}, {1, 1.5}, {-3, 1e-10}, {-greatest, greatest}, {tiniest, 2e-45}, {infinity, 1}, {0, infinity}} {
				wantTold(t, all(impl.RatingFlow(size, power, pair[0], pair[1])), ratedOracle(size, power, pair[0], pair[1]), "RatingFlow", size, power, pair)
				wantTold(t, all(impl.RatingLevel(size, power, pair[0], pair[1])), levelledOracle(size, power, pair[0], pair[1]), "RatingLevel", size, power, pair)
			}
			// two of four are at bounds
			zero, level := size, power
			wantTold(t, all(impl.RatingFlow(2, 1.5, zero, level)), ratedOracle(2, 1.5, zero, level), "RatingFlow", zero, level)
			wantTold(t, all(impl.RatingLevel(2, 1.5, zero, level)), levelledOracle(2, 1.5, zero, level), "RatingLevel", zero, level)
			wantTold(t, all(impl.RatingLevel(size, 1.5, 1, level)), levelledOracle(size, 1.5, 1, level), "RatingLevel", size, level)
			wantTold(t, all(impl.RatingLevel(2, power, zero, 3)), levelledOracle(2, power, zero, 3), "RatingLevel", power, zero)
		}
	}
}

func TestRatingsOfAllKinds(t *testing.T) {
	d := drawer(702)
	for n := range 20000 {
		kinds := 1 + n%amountKinds
		size, power, zero, level := d.orOdd(d.length(kinds)), d.orOdd(d.length(tame)), d.orOdd(d.signed(kinds)), d.orOdd(d.signed(kinds))
		wantTold(t, all(impl.RatingFlow(size, power, zero, level)), ratedOracle(size, power, zero, level), "RatingFlow", size, power, zero, level)
		wantTold(t, all(impl.RatingLevel(size, power, zero, level)), levelledOracle(size, power, zero, level), "RatingLevel", size, power, zero, level)
	}
}

func TestRatingMissByHand(t *testing.T) {
	for _, c := range []struct {
		levels, flows           []float32
		size, power, zero, want float32
	}{
		{floats(2), floats(1), 3, 2, 1, 2}, {floats(2), floats(5), 3, 2, 1, 2}, {floats(2), floats(-5), 3, 2, 1, 8}, {floats(2), floats(3), 3, 2, 1, 0}, {floats(1), floats(0), 3, 2, 1, 0}, {floats(0), floats(minusZero), 3, 2, 1, 0}, {floats(0, 1, 2), floats(1, -4, 4), 3, 2, 1, 4}, {floats(2, 1, 0), floats(4, -4, 1), 3, 2, 1, 4}, {floats(1, 2), floats(0, 0), 3, 2, 1, 3}, {floats(2, 1), floats(0, 0), 3, 2, 1, 3}, {floats(-5, -6, -7), floats(1, 3, 2), 3, 2, 1, 3}, {floats(0), floats(-greatest), 3, 2, 1, greatest}, {floats(0), floats(greatest), 3, 2, 1, greatest}, {floats(0), floats(-tiniest), 3, 2, 1, tiniest},
	} {
		wantResults(t, all(impl.RatingMiss(c.levels, c.flows, c.size, c.power, c.zero)), all(c.want, true), "RatingMiss", c)
		wantNumber(t, missOracle(c.levels, c.flows, c.size, c.power, c.zero), c.want, "the oracle", c)
	}
	failed := all(float32(0), false)
	for _, pair := range unequalPairs() {
		wantResults(t, all(impl.RatingMiss(pair[0], pair[1], 3, 2, 1)), failed, "RatingMiss", pair)
	}
	for _, count := range []int{1, 2, impl.MaxGauge} {
		wantResults(t, all(impl.RatingMiss(evenList(count, 2), evenList(count, 1), 3, 2, 1)), all(float32(2), true), "RatingMiss of so many", count)
	}
	for _, x := range nonPositive() {
		wantResults(t, all(impl.RatingMiss(floats(2), floats(1), x, 2, 1)), failed, "RatingMiss", x)
		wantResults(t, all(impl.RatingMiss(floats(2), floats(1), 3, x, 1)), failed, "RatingMiss", x)
		wantResults(t, all(impl.RatingMiss(floats(0), floats(1), 3, x, 1)), failed, "RatingMiss", x)
	}
	for _, x := range notFinite() {
		wantResults(t, all(impl.RatingMiss(floats(2), floats(1), 3, 2, x)), failed, "RatingMiss", x)
		for i := range 3 {
			wantResults(t, all(impl.RatingMiss(with(floats(1, 2, 3), i, x), floats(1, 2, 3), 3, 2, 1)), failed, "RatingMiss of a wrong level", x, i)
			wantResults(t, all(impl.RatingMiss(floats(1, 2, 3), with(floats(1, 2, 3), i, x), 3, 2, 1)), failed, "RatingMiss of a wrong flow", x, i)
		}
	}
	// one flow that fails, and a miss that is infinite
	for i := range 3 {
		wantResults(t, all(impl.RatingMiss(with(floats(1, 2, 3), i, 1e30), floats(1, 2, 3), 3, 2, 1)), failed, "RatingMiss where a flow fails", i)
		wantResults(t, all(impl.RatingMiss(evenList(3, 2), with(floats(1, 2, 3), i, -greatest), greatest, 2, 1)), failed, "RatingMiss that is infinite", i)
	}
}

func TestRatingMissOfAllKinds(t *testing.T) {
	d := drawer(703)
	for n := range 3000 {
		kinds := 1 + n%amountKinds
		count := d.gaugeCount()
		levels, flows := d.row(count, kinds), d.row(count, kinds)
		if n%5 == 0 {
			levels[d.next()%uint64(count)] = d.orOdd(1)
			flows[d.next()%uint64(count)] = d.orOdd(1)
		}
		size, power, zero := d.orOdd(d.length(kinds)), d.orOdd(d.length(2)), d.orOdd(d.signed(kinds))
		wantTold(t, all(impl.RatingMiss(levels, flows, size, power, zero)), missOracle(levels, flows, size, power, zero), "RatingMiss", levels, flows, size, power, zero)
	}
}

// Ratings are found again from what they tell, nearly.
func TestRatingsAreFoundAgain(t *testing.T) {
	d := drawer(704)
	for range 2000 {
		size, power, zero := d.between(0.1, 50), d.between(0.5, 3), d.between(-20, 20)
		levels := make([]float32, 2+d.next()%(impl.MaxGauge-1))
		for i := range levels {
			levels[i] = zero + d.between(0.1, 30)
		}
		levels[0], levels[len(levels)-1] = zero+d.between(0.1, 2), zero+d.between(10, 30)
		flows := make([]float32, len(levels))
		for i, level := range levels {
			flows[i] = must(impl.RatingFlow(size, power, zero, level))
			again := must(impl.RatingLevel(size, power, zero, flows[i]))
			wantThat(t, isClose(again-zero, level-zero, 1e-5) || isNear(float64(again), float64(level), 20), true, "RatingLevel of RatingFlow", size, power, zero, level, again)
			flow := must(impl.RatingFlow(size, power, zero, again))
			wantThat(t, isClose(flow, flows[i], 1e-3), true, "RatingFlow of RatingLevel", size, power, zero, flow, flows[i])
		}
		found, foundPower, ok := impl.FitRating(levels, flows, zero)
		wantThat(t, ok && isClose(found, size, 1e-3) && isClose(foundPower, power, 1e-3), true, "FitRating of RatingFlow", size, power, zero, found, foundPower)
		wantResults(t, all(impl.RatingMiss(levels, flows, size, power, zero)), all(float32(0), true), "RatingMiss of RatingFlow", size, power, zero)
		miss := must(impl.RatingMiss(levels, flows, found, foundPower, zero))
		wantThat(t, miss <= 1e-3*slices.Max(flows), true, "RatingMiss of FitRating", size, power, zero, miss)
	}
}
