package tests

import (
	"math"
	"slices"
	"testing"

	"loop.example/g01302/impl"
)

// wrongCanals have a number that is wrong, or too many or too few of them.
func wrongCanals() []impl.Canal {
	list := []impl.Canal{
		{}, canal(1, 1, 1, nil, nil), canalOf(), canal(1, 1, 1, floats(1), nil), canal(1, 1, 1, nil, floats(1)), canal(1, 1, 1, floats(1, 2), floats(1)), canal(1, 1, 1, floats(1), floats(1, 2)), canalOf(make([]float32, impl.MaxCanal+1)...), canal(1, 1, 1, make([]float32, impl.MaxCanal), make([]float32, impl.MaxCanal+1)), canal(1, 1, 1, make([]float32, impl.MaxCanal+1), make([]float32, impl.MaxCanal)), canalOf(make([]float32, 256+1)...),
	}
	one := floats(1)
	for _, x := range nonPositive() {
		list = append(list, canal(x, 1, 1, one, one), canal(1, x, 1, one, one))
	}
	for _, x := range invalidNumbers() {
		list = append(list, canal(1, 1, x, one, one))
	}
	for _, x := range notFinite() {
		for i := range 3 {
			list = append(list, canal(1, 1, 1, with(rising(3), i, x), rising(3)), canal(1, 1, 1, rising(3), with(rising(3), i, x)))
		}
		list = append(list, canal(1, 1, 1, floats(x), one), canal(1, 1, 1, one, floats(x)), canalOf(append(make([]float32, impl.MaxCanal-1), x)...))
	}
	return list
}

func TestValidCanals(t *testing.T) {
	for _, c := range []impl.Canal{
		canalOf(0), canalOf(minusZero), canalOf(1, -2), canalOf(make([]float32, impl.MaxCanal)...), canal(tiniest, tiniest, 0, floats(-greatest), floats(greatest)), canal(greatest, greatest, greatest, floats(greatest), floats(-greatest)), canal(1, 1, minusZero, floats(0), floats(minusZero)), canal(1, 1, tiniest, floats(-7), floats(tiniest)),
	} {
		wantThat(t, impl.ValidCanal(c), true, "ValidCanal", c)
	}
	for _, c := range wrongCanals() {
		wantThat(t, impl.ValidCanal(c), false, "ValidCanal", c)
	}
	for _, x := range sampleNumbers(300) {
		for _, c := range []impl.Canal{canal(x, 1, 1, floats(1), floats(1)), canal(1, x, 1, floats(1), floats(1)), canal(1, 1, x, floats(1), floats(1)), canal(1, 1, 1, floats(x), floats(1)), canal(1, 1, 1, floats(1), floats(x))} {
			wantThat(t, impl.ValidCanal(c), validCanalOracle(c), "ValidCanal", c)
		}
	}
}

func TestSameCanals(t *testing.T) {
	a := canal(1, minusZero, notANumber, floats(infinity, 2), floats(minusZero, notANumber, 5))
	wantThat(t, impl.SameCanal(a, canal(1, minusZero, number(0xff800001), floats(infinity, 2), floats(minusZero, number(0x7f800001), 5))), true, "SameCanal with other not-a-numbers")
	wantThat(t, impl.SameCanal(noCanal, canal(0, 0, 0, floats(), floats())), true, "SameCanal of nothing")
	for _, b := range []impl.Canal{
		{}, canal(2, a.Deep, a.Drag, a.Highs, a.Flows), canal(1, 0, a.Drag, a.Highs, a.Flows), canal(1, a.Deep, 1, a.Highs, a.Flows), canal(a.Deep, 1, a.Drag, a.Highs, a.Flows), canal(1, a.Drag, a.Deep, a.Highs, a.Flows), canal(1, a.Deep, a.Drag, a.Flows, a.Highs), canal(1, a.Deep, a.Drag, nil, a.Flows), canal(1, a.Deep, a.Drag, a.Highs, nil),
		canal(1, a.Deep, a.Drag, with(a.Highs, 0, minusInf), a.Flows), canal(1, a.Deep, a.Drag, with(a.Highs, 1, 3), a.Flows), canal(1, a.Deep, a.Drag, a.Highs, with(a.Flows, 0, 0)), canal(1, a.Deep, a.Drag, a.Highs, with(a.Flows, 1, 0)), canal(1, a.Deep, a.Drag, a.Highs, with(a.Flows, 2, -5)), canal(1, a.Deep, a.Drag, a.Highs[:1], a.Flows), canal(1, a.Deep, a.Drag, a.Highs, a.Flows[:2]), canal(1, a.Deep, a.Drag, append(slices.Clone(a.Highs), 0), a.Flows), canal(1, a.Deep, a.Drag, a.Highs, append(slices.Clone(a.Flows), 0)),
		canal(1, a.Deep, a.Drag, a.Highs[:1], floats(2, minusZero, notANumber, 5)), // the same numbers one after another, but in other lists
	} {
		wantThat(t, impl.SameCanal(a, b) || impl.SameCanal(b, a), false, "SameCanal", a, b)
		wantThat(t, impl.SameCanal(b, canal(b.Step, b.Deep, b.Drag, slices.Clone(b.Highs), slices.Clone(b.Flows))), true, "SameCanal", b)
	}
}

func TestStillCanal(t *testing.T) {
	for _, count := range ints(1, 2, 3, impl.MaxCanal-1, impl.MaxCanal) {
		for _, drag := range floats(0, minusZero, 0.5, tiniest, greatest) {
			want := canal(2, 3, drag, make([]float32, count), make([]float32, count))
			wantResults(t, all(impl.StillCanal(count, 2, 3, drag)), all(want, true), "StillCanal", count, drag)
		}
		wantResults(t, all(impl.StillCanal(count, tiniest, greatest, 1)), all(canal(tiniest, greatest, 1, make([]float32, count), make([]float32, count)), true), "StillCanal", count)
		for _, x := range nonPositive() {
			wantResults(t, all(impl.StillCanal(count, x, 1, 1)), all(noCanal, false), "StillCanal with the step", x)
			wantResults(t, all(impl.StillCanal(count, 1, x, 1)), all(noCanal, false), "StillCanal with the depth", x)
		}
		for _, x := range invalidNumbers() {
			wantResults(t, all(impl.StillCanal(count, 1, 1, x)), all(noCanal, false), "StillCanal with the drag", x)
		}
	}
	for _, count := range ints(0, -1, impl.MaxCanal+1, 256+1, 1<<32+1, math.MaxInt64, math.MinInt64) {
		wantResults(t, all(impl.StillCanal(count, 1, 1, 0)), all(noCanal, false), "StillCanal of the count", count)
	}
}

func TestStepCanalByHand(t *testing.T) {
	g := number(gravityBits)
	for _, c := range []struct {
		c             impl.Canal
		sea, tick     float32
		flows, levels []float32
	}{
		{canal(1, 1, 0, floats(0, 0), floats(0, 0)), 1, 1, floats(g, 0), floats(g, 0)}, {canal(1, 1, 0, floats(0), floats(0)), 1, 1, floats(g), floats(g)}, {canal(1, 1, 0, floats(1), floats(0)), 0, 1, floats(-g), floats(less(1, g))}, {canal(1, 1, 0, floats(0), floats(0)), -1, 1, floats(-g), floats(-g)},
		{canal(2, 1, 0, floats(0), floats(0)), 1, 1, floats(g / 2), floats(g / 4)}, {canal(1, 2, 0, floats(0), floats(0)), 1, 1, floats(2 * g), floats(2 * g)}, {canal(1, 1, 0, floats(0), floats(0)), 1, 0.5, floats(g / 2), floats(g / 4)}, {canal(1, 1, 1, floats(0), floats(0)), 1, 1, floats(g / 2), floats(g / 2)}, {canal(1, 1, 0.5, floats(0), floats(0)), 1, 2, floats(g), floats(2 * g)},
		// the water flows on, slower with drag, and stops at the closed end
		{canal(1, 1, 0, floats(0, 0), floats(1, 0)), 0, 1, floats(1, 0), floats(1, 0)}, {canal(1, 1, 1, floats(0, 0), floats(1, 4)), 0, 1, floats(0.5, 2), floats(-1.5, 2)}, {canal(1, 1, 3, floats(0, 0, 0), floats(4, 8, 2)), 0, 1, floats(1, 2, 0.5), floats(-1, 1.5, 0.5)}, {canal(4, 1, 0, floats(5, 5, 5), floats(4, 8, 2)), 5, 2, floats(4, 8, 2), floats(3, 8, 6)}, {canal(1, 1, 0, floats(0), floats(3)), 0, 1, floats(3), floats(3)},
		// each height pulls at the next cell, and the sea at the first one
		{canal(1, 1, 0, floats(2, 1), floats(0, 0)), 2, 1, floats(0, g), floats(less(2, g), plus(1, g))}, {canal(1, 1, 0, floats(2, 3), floats(0, 0)), 2, 1, floats(0, -g), floats(plus(2, g), less(3, g))}, {canal(1, 1, 0, floats(2, 2), floats(0, 0)), 3, 1, floats(g, 0), floats(plus(2, g), 2)},
		// at rest, with zeros of both signs
		{canalOf(0, 0), 0, 1, floats(0, 0), floats(0, 0)}, {canalOf(0, 0), minusZero, 1, floats(0, 0), floats(0, 0)}, {canal(1, 1, 0, floats(minusZero), floats(minusZero)), 0, 1, floats(0), floats(0)}, {canal(1, 1, 0, floats(0), floats(minusZero)), 0, 1, floats(minusZero), floats(0)}, {canal(1, 1, 0, floats(minusZero), floats(minusZero)), minusZero, 1, floats(minusZero), floats(minusZero)}, {canal(1, 1, minusZero, floats(7, 7, 7), floats(0, 0, 0)), 7, 1, floats(0, 0, 0), floats(7, 7, 7)}, {canal(1, 1, 0, floats(7), floats(minusZero)), 7, 1, floats(minusZero), floats(7)},
		// from left to right: the first product is nothing, and others are rounded
		{canal(1, greatest, 0, floats(0), floats(0)), 1, tiniest, floats(times(10*tiniest, greatest)), floats(0)}, {canal(1, tiniest, 0, floats(0), floats(0)), 1, 1e38, floats(times(times(times(1e38, g), tiniest), 1)), notFinite()[:1]}, {canal(1, 1, 0, floats(0), floats(0)), greatest, tiniest, floats(times(10*tiniest, greatest)), floats(0)}, {canal(greatest, 1, 0, floats(0), floats(0)), 1, 1, floats(times(g, over(1, greatest))), floats(0)},
		// the drag is infinite in a long tick, and stops everything
		{canal(1, 1, greatest, floats(0), floats(5)), 0, 2, floats(0), floats(0)}, {canal(1, 1, greatest, floats(3), floats(-5)), 3, 2, floats(minusZero), floats(3)}, {canal(1, 1, greatest, floats(0), floats(0)), 1, 1e38, notFinite()[:1], nil},
		// what pulls is infinite, but for nothing, which is no number
		{canal(1, greatest, 0, floats(0), floats(0)), 0, 1, notFinite()[:1], nil}, {canal(1, 1, 0, floats(0), floats(0)), 0, 1e38, notFinite()[:1], nil}, {canal(1, 1e38, 0, floats(0), floats(0)), 1, 1, notFinite()[:1], nil}, {canal(1, 1, 0, floats(greatest), floats(0)), -greatest, tiniest, notFinite()[:1], nil}, {canal(tiniest, 1, 0, floats(0), floats(0)), 1, 1, notFinite()[:1], nil},
		{canal(1, 1, 0, floats(greatest, greatest), floats(1, 0)), greatest, tiniest, floats(1, 0), floats(greatest, greatest)}, {canal(1, 1, 0, floats(greatest, greatest), floats(3e38, -3e38)), greatest, 1e-3, floats(3e38, -3e38), notFinite()[:1]}, {canal(1, 1, 0, floats(3e38), floats(3e38)), 3e38, 1, floats(3e38), notFinite()[:1]}, {canal(0.1, 1, 0, floats(0), floats(1e38)), 0, 1e-3, floats(1e38), notFinite()[:1]},
	} {
		next := canal(c.c.Step, c.c.Deep, c.c.Drag, c.levels, c.flows)
		ok := allFinite(c.levels) && allFinite(c.flows)
		if !ok {
			next = noCanal
		}
		wantResults(t, all(impl.StepCanal(c.c, c.sea, c.tick)), all(next, ok), "StepCanal", c.c, c.sea, c.tick)
		ends := noFloats
		if ok {
			ends = c.levels[len(c.levels)-1:]
		}
		wantResults(t, all(impl.RunCanal(c.c, floats(c.sea), c.tick)), all(next, ends, ok), "RunCanal of one sea", c.c, c.sea, c.tick)
	}
}

func TestStepCanalFails(t *testing.T) {
	check := func(c impl.Canal, sea, tick float32, what string) {
		t.Helper()
		wantResults(t, all(impl.StepCanal(c, sea, tick)), all(noCanal, false), "StepCanal", what, c, sea, tick)
		for _, seas := range rows(floats(sea), floats(sea, 0, 0), floats(0, sea), append(make([]float32, impl.MaxRain-1), sea)) {
			wantResults(t, all(impl.RunCanal(c, seas, tick)), all(noCanal, noFloats, false), "RunCanal", what, c, seas, tick)
		}
	}
	for _, c := range wrongCanals() {
		check(c, 1, 0.01, "canal")
		wantResults(t, all(impl.RunCanal(c, nil, 0.01)), all(noCanal, noFloats, false), "RunCanal without seas", c)
		wantTold(t, all(impl.EnergyOfCanal(c)), notANumber, "EnergyOfCanal", c)
		for _, rate := range floats(0, 0.01) {
			wantResults(t, all(impl.TidesOf(c, rate)), all(noPairs, false), "TidesOf", c, rate)
		}
	}
	for _, c := range []impl.Canal{canalOf(0), canalOf(1, 2, 3)} {
		for _, x := range notFinite() {
			check(c, x, 0.01, "sea")
		}
		for _, x := range nonPositive() {
			check(c, 0, x, "tick")
			wantResults(t, all(impl.RunCanal(c, nil, x)), all(noCanal, noFloats, false), "RunCanal without seas with the tick", c, x)
		}
	}
}

func TestRunCanalByHand(t *testing.T) {
	g := number(gravityBits)
	still := canal(1, 1, 0, floats(0, 0), floats(0, 0))
	for _, c := range []struct {
		seas, flows, highs, ends []float32
	}{
		{nil, floats(0, 0), floats(0, 0), nil}, {floats(0, 0), floats(0, 0), floats(0, 0), floats(0, 0)}, {floats(1), floats(g, 0), floats(g, 0), floats(0)},
		{floats(1, g), floats(g, times(g, g)), floats(plus(g, less(g, times(g, g))), times(g, g)), floats(0, times(g, g))},
	} {
		wantResults(t, all(impl.RunCanal(still, c.seas, 1)), all(canal(1, 1, 0, c.highs, c.flows), c.ends, true), "RunCanal", c.seas)
	}
	odd := canal(3, 2, minusZero, floats(minusZero, 5), floats(-1, minusZero))
	wantResults(t, all(impl.RunCanal(odd, nil, 1)), all(odd, noFloats, true), "RunCanal without seas")
	wantResults(t, all(impl.RunCanal(canal(1, greatest, 0, floats(0), floats(0)), nil, 1)), all(canal(1, greatest, 0, floats(0), floats(0)), noFloats, true), "RunCanal without seas, where a tick would fail")
	// Each tick makes more of what comes in, up to infinity.
	ok, count := true, 0
	for ; ok && count < impl.MaxRain; count++ {
		_, _, ok = impl.RunCanal(canalOf(0, 0), append(floats(1), make([]float32, count)...), 4)
	}
	wantThat(t, count > 10 && count < impl.MaxRain, true, "RunCanal that fails at last", count)
}

func TestRunCanalAtItsLimits(t *testing.T) {
	d := drawer(530)
	for _, cells := range []int{1, 2, impl.MaxCanal} {
		c := canal(20, 4, 0.01, d.row(cells, 3), d.row(cells, 3))
		for _, count := range []int{0, 1, 2, impl.MaxRain} {
			seas := d.row(count, 3)
			next, ends, ok := runCanalOracle(c, seas, 0.5)
			wantThat(t, ok && len(ends) == count, true, "the oracle")
			wantResults(t, all(impl.RunCanal(c, seas, 0.5)), all(next, ends, true), "RunCanal", cells, count)
		}
		for _, count := range []int{impl.MaxRain + 1, 2 * impl.MaxRain} {
			wantResults(t, all(impl.RunCanal(c, make([]float32, count), 0.5)), all(noCanal, noFloats, false), "RunCanal of too many seas", cells, count)
		}
	}
}

func TestCanalsOfAllKinds(t *testing.T) {
	d := drawer(531)
	failed := 0
	for n := range 4000 {
		kinds := tame + n%4
		c, tick := d.canal(1+int(d.next()%impl.MaxCanal), kinds), d.length(kinds)
		if n%3 == 0 {
			c, tick = d.calmCanal()
		}
		sea := d.signed(kinds)
		next, ok := stepCanalOracle(c, sea, tick)
		wantResults(t, all(impl.StepCanal(c, sea, tick)), all(next, ok), "StepCanal", c, sea, tick)
		seas := d.row(int(d.next()%12), 1+n%tame)
		next, ends, ok := runCanalOracle(c, seas, tick)
		wantResults(t, all(impl.RunCanal(c, seas, tick)), all(next, ends, ok), "RunCanal", c, seas, tick)
		if !ok {
			failed++
		}
		wantTold(t, all(impl.EnergyOfCanal(c)), energyOracle(c), "EnergyOfCanal", c)
	}
	wantThat(t, failed > 400 && failed < 2500, true, "RunCanal is tried with canals that fail, and that do not", failed)
}

// A canal at rest stays at rest, to the last bit, at each level of the sea.
func TestCanalsAtRestStayAtRest(t *testing.T) {
	d := drawer(532)
	for n := range 500 {
		c, tick := d.calmCanal()
		still, ok := impl.StillCanal(int64(len(c.Highs)), c.Step, c.Deep, c.Drag)
		wantThat(t, ok && impl.ValidCanal(still), true, "StillCanal", c)
		sea := float32(0)
		if n%2 == 0 {
			sea = d.moderate()
			still.Highs = evenList(len(c.Highs), sea)
		}
		end, ends, ok := impl.RunCanal(still, evenList(impl.MaxRain, sea), tick)
		wantThat(t, ok && impl.SameCanal(end, still) && told(ends) == told(evenList(impl.MaxRain, sea)), true, "RunCanal of a canal at rest", still, tick)
		wantResults(t, all(impl.StepCanal(still, sea, tick)), all(still, true), "StepCanal of a canal at rest", still, tick)
	}
}

// What comes in from the sea is in the canal.
func TestCanalsLoseNothing(t *testing.T) {
	d := drawer(533)
	for range 1000 {
		c, tick := d.calmCanal()
		for range 5 {
			next, ok := impl.StepCanal(c, d.between(-1, 1), tick)
			came := float64(c.Step)*wideSum(c.Highs) + float64(tick)*float64(next.Flows[0])
			size := 1 + float64(c.Step)*float64(len(c.Highs)) + 10*float64(tick)
			wantThat(t, ok && isNear(came, float64(c.Step)*wideSum(next.Highs), size), true, "StepCanal", c, tick)
			c = next
		}
	}
}

// Two floods at once make the sum of what each one makes.
func TestSumsGoThroughCanalsAsSums(t *testing.T) {
	sum := func(a, b []float32) []float32 {
		list := slices.Clone(a)
		for i := range list {
			list[i] = plus(a[i], b[i])
		}
		return list
	}
	d := drawer(534)
	for range 300 {
		a, tick := d.calmCanal()
		b := canal(a.Step, a.Deep, a.Drag, d.row(len(a.Highs), 3), d.row(len(a.Highs), 3))
		c := canal(a.Step, a.Deep, a.Drag, sum(a.Highs, b.Highs), sum(a.Flows, b.Flows))
		one, two := d.row(20, 3), d.row(20, 3)
		size := 1.0
		for _, x := range slices.Concat(a.Highs, a.Flows, b.Highs, b.Flows, one, two) {
			size += 10 * math.Abs(float64(x))
		}
		_, first, ok := impl.RunCanal(a, one, tick)
		_, second, fine := impl.RunCanal(b, two, tick)
		_, both, good := impl.RunCanal(c, sum(one, two), tick)
		wantThat(t, ok && fine && good, true, "RunCanal", a, b, tick)
		for i := range both {
			wantThat(t, isNear(float64(first[i])+float64(second[i]), float64(both[i]), size), true, "RunCanal of a sum", a, b, tick, i)
		}
	}
}

// With drag, each canal comes to rest at the level of the sea.
func TestCanalsComeToRest(t *testing.T) {
	c := canal(10, 2, 0.2, evenList(10, 1), evenList(10, -1))
	for _, sea := range floats(0, 0.5, -2) {
		end := c
		for range 8 {
			end, _, _ = impl.RunCanal(end, evenList(impl.MaxRain, sea), 1)
		}
		for i := range end.Highs {
			wantThat(t, isNear(float64(end.Highs[i]), float64(sea), 1) && isNear(float64(end.Flows[i]), 0, 1), true, "RunCanal comes to rest", sea, end)
		}
	}
}

func TestEnergyOfCanal(t *testing.T) {
	g := number(gravityBits)
	for _, c := range []struct {
		c    impl.Canal
		want float32
	}{
		{canal(2, 2, 0, floats(0), floats(2)), 2}, {canal(2, 2, 0, floats(0), floats(-2)), 2}, {canal(2, 4, 0, floats(0), floats(2)), 1}, {canal(2, 2, 9, floats(2), floats(0)), 4 * g}, {canal(2, 7, 0, floats(-2), floats(0)), 4 * g}, {canal(1, 2, 0, floats(1), floats(2)), plus(g/2, 1)}, {canal(3, 2, 0, floats(0, 0, 0), floats(2, 4, 0)), 15}, {canalOf(0), 0}, {canalOf(minusZero, minusZero), 0}, {canal(1, 1, 1, floats(minusZero), floats(minusZero)), 0},
		{canal(0.5, 2, 0, floats(1, 3), floats(2, 6)), plus(times(0.5, plus(g/2, 1)), times(0.5, plus(times(g/2, 9), 9)))},
		// in order: 1 is lost beside 2 to the power of 24, but 2 times 1 is not
		{canal(1, 2, 0, floats(0, 0, 0), floats(8192, 2, 2)), 16777216}, {canal(1, 2, 0, floats(0, 0, 0), floats(2, 2, 8192)), 16777218},
		// squares come first, and can be nothing, or infinite
		{canal(1, 1, 0, floats(1e-30), floats(0)), 0}, {canal(greatest, 1, 0, floats(1e-30), floats(0)), 0}, {canal(1, tiniest, 0, floats(0), floats(1e-30)), 0}, {canal(1, 1, 0, floats(1e20), floats(0)), notANumber}, {canal(1e-30, 1, 0, floats(1e20), floats(0)), notANumber}, {canal(1, 1e30, 0, floats(0), floats(1e20)), notANumber}, {canal(1, tiniest, 0, floats(0), floats(1)), notANumber}, {canal(greatest, 1, 0, floats(1), floats(0)), notANumber}, {canal(1, 1, 0, floats(1e19), floats(0)), notANumber}, {canal(1, 1, 0, floats(7e18, 7e18), floats(0, 0)), notANumber}, {canal(1, 1, 0, floats(7e18), floats(0)), times(g/2, times(7e18, 7e18))},
		// half of the square is rounded before it is divided, and not after
		{canal(1, 0.5, 0, floats(0), floats(number(0x1a3504f3))), 0}, {canal(1, 0.6, 0, floats(0), floats(root(2.5e38))), over(times(root(2.5e38), root(2.5e38))/2, 0.6)},
	} {
		wantTold(t, all(impl.EnergyOfCanal(c.c)), c.want, "EnergyOfCanal", c.c)
	}
}

// While the sea does not move, hardly any energy is lost without drag, and most
// of it with drag.
func TestEnergyGoesWithDrag(t *testing.T) {
	for _, drag := range floats(0, 0.1) {
		c := canal(10, 2, drag, floats(1, 0.5, 0.25, 0, 0, 0, 0, 0), make([]float32, 8))
		begin := must(impl.EnergyOfCanal(c))
		for range 400 {
			c, _ = impl.StepCanal(c, 0, 0.05)
		}
		end := must(impl.EnergyOfCanal(c))
		wantThat(t, isClose(begin, end, 0.02) == (drag == 0) && (end < 0.2*begin) == (drag > 0), true, "EnergyOfCanal", drag, begin, end)
	}
}
