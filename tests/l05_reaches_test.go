package tests

import (
	"math"
	"runtime"
	"slices"
	"sync"
	"testing"

	"loop.example/g01302/impl"
)

// whole is a reach that delays by a tick of 1, and quarters one whose shares are
// 1/4, 1/4 and 1/2 then.
func whole() impl.Reach    { return reach(1, 0.5) }
func quarters() impl.Reach { return reach(1.5, 0) }

// wrongReaches have a number that is wrong.
func wrongReaches() []impl.Reach {
	list := []impl.Reach{{}, reach(1, above(0.5)), reach(1, 1), reach(1, greatest)}
	for _, x := range nonPositive() {
		list = append(list, reach(x, 0.25), reach(x, 0))
	}
	for _, x := range invalidNumbers() {
		list = append(list, reach(1, x))
	}
	return list
}

// flooded is a reach without shares for a tick of 1, as 2 times Delay is infinite.
func flooded() impl.Reach { return reach(above(greatest/2), 0.25) }

func TestValidReaches(t *testing.T) {
	for _, x := range sampleNumbers(300) {
		for _, r := range []impl.Reach{reach(x, 0.25), reach(1, x), reach(x, x)} {
			wantThat(t, impl.ValidReach(r), validReachOracle(r), "ValidReach", r)
		}
	}
	for _, r := range []impl.Reach{reach(1, 0), reach(1, minusZero), reach(1, 0.5), reach(1, under(0.5)), reach(1, tiniest), reach(tiniest, 0.5), reach(greatest, 0.5), flooded()} {
		wantThat(t, impl.ValidReach(r), true, "ValidReach", r)
	}
	for _, r := range wrongReaches() {
		wantThat(t, impl.ValidReach(r), false, "ValidReach", r)
	}
}

func TestSameReaches(t *testing.T) {
	a := []impl.Reach{reach(1, minusZero), reach(notANumber, infinity)}
	wantThat(t, impl.SameReaches(a, []impl.Reach{reach(1, minusZero), reach(number(0xff800001), infinity)}), true, "SameReaches with other not-a-numbers")
	wantThat(t, impl.SameReaches(nil, []impl.Reach{}), true, "SameReaches of empty lists")
	for _, b := range [][]impl.Reach{
		nil, a[:1], append(slices.Clone(a), a[1]), {a[1], a[0]}, {reach(1, 0), a[1]}, {reach(minusZero, 1), a[1]}, {reach(2, minusZero), a[1]}, {a[0], reach(1, infinity)}, {a[0], reach(notANumber, minusInf)}, {a[0], reach(infinity, notANumber)}, {a[0], a[0]},
	} {
		wantThat(t, impl.SameReaches(a, b) || impl.SameReaches(b, a), false, "SameReaches", a, b)
		wantThat(t, impl.SameReaches(b, slices.Clone(b)), true, "SameReaches", b)
	}
	many := alike(300, reach(1, 0.25))
	wantThat(t, impl.SameReaches(many, slices.Clone(many)), true, "SameReaches of long lists")
	many[299].Lean = 0
	wantThat(t, impl.SameReaches(many, alike(300, reach(1, 0.25))), false, "SameReaches of long lists")
}

func TestReachSharesByHand(t *testing.T) {
	const failed = -7
	third := over(1, 3)
	for _, c := range []struct {
		r                   impl.Reach
		tick                float32
		now, before, behind float32
	}{
		{whole(), 1, 0, 1, 0}, {quarters(), 1, 0.25, 0.25, 0.5}, {reach(1, 0), 1, third, third, third}, {reach(1, minusZero), 1, third, third, third}, {reach(1, 0.25), 1, over(0.5, 2.5), over(1.5, 2.5), over(0.5, 2.5)}, {reach(2, 0.5), 1, -third, 1, third}, {reach(1, 0.5), 2, third, 1, -third}, {reach(1, 0), 6, 0.75, 0.75, -0.5}, {reach(1, 0), 2, 0.5, 0.5, 0},
		{reach(1, 0.1), 0.3, over(less(0.3, 0.2), 2.1), over(0.5, 2.1), over(1.5, 2.1)}, {reach(3, under(0.5)), 3, over(less(3, times(6, under(0.5))), 6), over(plus(3, times(6, under(0.5))), 6), over(less(times(6, less(1, under(0.5))), 3), 6)},
		// Lean becomes nothing beside 1
		{reach(1, tiniest), 1, third, third, third}, {reach(1, 1e-9), 1, third, third, third},
		// subnormal ones: a product is rounded to the even one of both
		{reach(tiniest, 0.5), tiniest, 0, 1, 0}, {reach(tiniest, 0.25), tiniest, third, third, third}, {reach(tiniest, 0), 2 * tiniest, 0.5, 0.5, 0}, {reach(1, 0.5), tiniest, -1, 1, 1}, {reach(1, 0), tiniest, 0, 0, 1}, {reach(tiniest, 0.5), 1, 1, 1, -1}, {reach(tiniest, 0.5), greatest, 1, 1, -1},
		// very great ones: 2 times Delay is as great as it can be, or infinite
		{reach(1, 0.5), greatest, 1, 1, -1}, {reach(greatest/2, 0.5), 1, -1, 1, 1}, {reach(greatest/2, 0), 1, over(1, greatest), over(1, greatest), 1}, {reach(1.5e38, 0.5), 1.5e38, 0, 1, 0}, {flooded(), 1, failed, 0, 0}, {reach(above(greatest/2), 0), 1, failed, 0, 0}, {reach(above(greatest/2), minusZero), 1, failed, 0, 0}, {reach(above(greatest/2), 0.5), 1, failed, 0, 0}, {reach(greatest, 0.5), greatest, failed, 0, 0}, {reach(greatest, tiniest), tiniest, failed, 0, 0},
		// only m plus tick is infinite, or tick plus k, too
		{reach(greatest/2, 0), greatest / 2, 0, 0, 0}, {reach(greatest/2, 0), greatest, 0, 0, 0}, {reach(1e38, 0), greatest, 0, 0, minusZero}, {reach(1e38, 0.25), 2e38, 0, 0, minusZero}, {reach(greatest/2, 0.5), greatest, failed, 0, 0}, {reach(greatest/2, 0.5), above(greatest / 2), failed, 0, 0}, {reach(1e38, 0.5), 2.5e38, failed, 0, 0}, {reach(1e38, 0.5), 2.4e38, over(less(2.4e38, 1e38), plus(2.4e38, 1e38)), 1, over(less(1e38, 2.4e38), plus(2.4e38, 1e38))}, {reach(1e38, 0.25), 2.9e38, 0, 0, minusZero}, {reach(1e38, 0.25), 3e38, failed, 0, 0},
	} {
		want := all(c.now, c.before, c.behind, true)
		if c.now == failed {
			want = all(float32(0), float32(0), float32(0), false)
		}
		wantResults(t, all(impl.ReachShares(c.r, c.tick)), want, "ReachShares", c.r, c.tick)
	}
}

func TestReachSharesFail(t *testing.T) {
	failed := all(float32(0), float32(0), float32(0), false)
	for _, r := range wrongReaches() {
		wantResults(t, all(impl.ReachShares(r, 1)), failed, "ReachShares", r)
	}
	for _, tick := range nonPositive() {
		wantResults(t, all(impl.ReachShares(whole(), tick)), failed, "ReachShares with the tick", tick)
	}
}

func TestReachSharesOfAllKinds(t *testing.T) {
	d := drawer(500)
	failed := 0
	for n := range 20000 {
		r, tick := d.reach(1+n%amountKinds), d.length(1+n%amountKinds)
		if n%5 == 0 {
			r, tick = reach(d.bitwise(), d.bitwise()), d.bitwise()
		}
		a, b, c := sharesOracle(r, tick)
		want := all(a, b, c, true)
		if a != a {
			want = all(float32(0), float32(0), float32(0), false)
			failed++
		}
		wantResults(t, all(impl.ReachShares(r, tick)), want, "ReachShares", r, tick)
		if a, b, c, ok := impl.ReachShares(r, tick); ok && n%amountKinds < tame && n%5 > 0 {
			wantThat(t, isNear(float64(a)+float64(b)+float64(c), 1, 2), true, "the sum of ReachShares", r, tick)
		}
	}
	wantThat(t, failed > 1000 && failed < 8000, true, "ReachShares is tried with reaches that fail, and that do not", failed)
}

func TestRouteReachByHand(t *testing.T) {
	for _, c := range []struct {
		r           impl.Reach
		ins         []float32
		tick, first float32
		want        []float32
	}{
		{whole(), floats(4, 8, 2), 1, 1, floats(1, 4, 8)}, {whole(), floats(4, 8, 2), 1, -5, floats(-5, 4, 8)}, {quarters(), floats(4, 8, 0), 1, 2, floats(2, 4, 4)}, {quarters(), floats(0, 0, 0, 0), 1, 8, floats(8, 4, 2, 1)}, {quarters(), floats(0, 4, 0, 0), 1, 0, floats(0, 1, 1.5, 0.75)}, {quarters(), floats(-4, -8, 4), 1, 4, floats(4, -1, -1.5)},
		{whole(), floats(9), 1, 7, floats(7)}, {whole(), floats(9), 1, minusZero, floats(minusZero)}, {whole(), floats(9), 1, greatest, floats(greatest)}, {reach(greatest/2, 0), floats(9, 9, 9), greatest, 5, floats(5, 0, 0)},
		{whole(), floats(greatest, -greatest, greatest), 1, 1, floats(1, greatest, -greatest)}, {reach(1, 0), floats(greatest, 0, 0), tiniest, greatest, floats(greatest, greatest, greatest)},
		// the sum has three parts, and no zero before them
		{whole(), floats(minusZero, minusZero), 1, minusZero, floats(minusZero, minusZero)}, {whole(), floats(minusZero, 0), 1, minusZero, floats(minusZero, 0)}, {whole(), floats(minusZero, minusZero), 1, 0, floats(0, 0)},
		// in their order: 1 is lost beside 2 to the power of 24, but 2 times 1 is not
		{quarters(), floats(4, 67108864), 1, 2, floats(2, 16777216)}, {quarters(), floats(67108864, 4), 1, 2, floats(2, 16777216)}, {quarters(), floats(4, 4), 1, 33554432, floats(33554432, 16777218)},
	} {
		wantResults(t, all(impl.RouteReach(c.r, c.ins, c.tick, c.first)), all(c.want, true), "RouteReach", c.r, c.ins, c.tick, c.first)
	}
}

// wrongIns are lists that cannot flow in.
func wrongIns() [][]float32 {
	list := [][]float32{nil, {}, make([]float32, impl.MaxRain+1)}
	for _, x := range notFinite() {
		list = append(list, floats(x), floats(x, 1, 2), floats(1, x, 2), floats(1, 2, x), append(make([]float32, impl.MaxRain-1), x))
	}
	return list
}

func TestRouteReachFails(t *testing.T) {
	check := func(r impl.Reach, ins []float32, tick, first float32, what string) {
		t.Helper()
		wantResults(t, all(impl.RouteReach(r, ins, tick, first)), all(noFloats, false), "RouteReach", what, r, len(ins), tick, first)
	}
	for _, ins := range wrongIns() {
		check(whole(), ins, 1, 1, "ins")
	}
	for _, ins := range rows(floats(1), floats(1, 2), make([]float32, impl.MaxRain)) {
		for _, r := range append(wrongReaches(), flooded(), reach(greatest, 0.5)) {
			check(r, ins, 1, 1, "reach")
		}
		for _, x := range nonPositive() {
			check(whole(), ins, x, 1, "tick")
		}
		for _, x := range notFinite() {
			check(whole(), ins, 1, x, "first")
		}
		check(reach(greatest/2, 0.5), ins, greatest, 1, "great tick")
	}
	// what comes out is infinite: at first, and at last
	steep := reach(2, 0.5) // its shares are -1/3, 1 and 1/3
	check(steep, floats(3e38, -3e38), 1, 0, "great ins")
	check(steep, floats(3e38, -3e38, 0, 0, 0), 1, 0, "great ins")
	check(steep, floats(0, 0, 3e38, -3e38), 1, 0, "great ins")
	check(steep, floats(3e38, 0), 1, 3e38, "great ins")
	wantResults(t, all(impl.RouteReach(steep, floats(3e38, 0), 1, 0)), all(floats(0, 3e38), true), "RouteReach of great ins")
}

func TestRouteReachAtItsLimits(t *testing.T) {
	d := drawer(501)
	for _, count := range []int{1, 2, impl.MaxRain - 1, impl.MaxRain} {
		r, ins := d.reach(1), d.row(count, tame)
		want, ok := routeOracle([]impl.Reach{r}, ins, 0.5, floats(3))
		wantThat(t, ok && len(want) == count, true, "the oracle")
		wantResults(t, all(impl.RouteReach(r, ins, 0.5, 3)), all(want, true), "RouteReach of so many ins", count)
	}
}

func TestRouteReachesByHand(t *testing.T) {
	two := []impl.Reach{whole(), whole()}
	for _, c := range []struct {
		list      []impl.Reach
		ins, want []float32
	}{
		{two[:1], floats(4, 8, 2), floats(4, 4, 8)}, {two, floats(4, 8, 2), floats(4, 4, 4)}, {two, floats(4, 8, 2, 6), floats(4, 4, 4, 8)}, {two, floats(4), floats(4)}, {two, floats(minusZero), floats(minusZero)},
		{[]impl.Reach{quarters()}, floats(4, 8, 0), floats(4, 5, 4.5)}, {[]impl.Reach{quarters(), whole()}, floats(4, 8, 0), floats(4, 4, 5)}, {[]impl.Reach{whole(), quarters()}, floats(4, 8, 0), floats(4, 4, 5)}, {[]impl.Reach{quarters(), quarters()}, floats(0, 16, 0), floats(0, 1, 3)},
		{alike(impl.MaxReaches, whole()), append(rising(14), 0), append(make([]float32, 13), 1, 2)},
	} {
		wantResults(t, all(impl.RouteReaches(c.list, c.ins, 1)), all(c.want, true), "RouteReaches", c.list, c.ins)
		for workers := int64(1); workers <= impl.MaxWorkers; workers++ {
			wantResults(t, all(impl.RouteShared(c.list, rows(c.ins), 1, workers)), all(rows(c.want), true), "RouteShared", c.list, c.ins, workers)
			wantResults(t, all(impl.RouteShared(c.list, rows(floats(5), c.ins, c.ins), 1, workers)), all(rows(floats(5), c.want, c.want), true), "RouteShared", c.list, c.ins, workers)
		}
	}
}

// wantUnrouted checks that all functions with lists of reaches fail, also where
// one reach or one list of many is wrong.
func wantUnrouted(t *testing.T, list []impl.Reach, ins []float32, tick float32, what string) {
	t.Helper()
	good := floats(1, 2, 3)
	wantResults(t, all(impl.RouteReaches(list, ins, tick)), all(noFloats, false), "RouteReaches", what, list, len(ins), tick)
	for workers := int64(1); workers <= impl.MaxWorkers; workers++ {
		for _, many := range [][][]float32{{ins}, {ins, good}, {good, ins}, {good, good, ins, good, good, good, good, good, good}, append(alike(impl.MaxReaches-1, good), ins)} {
			wantResults(t, all(impl.RouteShared(list, many, tick, workers)), all(noRows, false), "RouteShared", what, list, len(ins), tick, len(many), workers)
		}
	}
}

func TestRouteReachesFails(t *testing.T) {
	for _, ins := range wrongIns() {
		wantUnrouted(t, []impl.Reach{whole()}, ins, 1, "ins")
		wantUnrouted(t, []impl.Reach{quarters(), whole()}, ins, 1, "ins")
	}
	for _, ins := range rows(floats(1), floats(1, 2)) {
		wantUnrouted(t, nil, ins, 1, "no reaches")
		wantUnrouted(t, alike(impl.MaxReaches+1, whole()), ins, 1, "too many reaches")
		for _, x := range nonPositive() {
			wantUnrouted(t, []impl.Reach{whole()}, ins, x, "tick")
		}
		for _, r := range append(wrongReaches(), flooded()) {
			wantUnrouted(t, []impl.Reach{r}, ins, 1, "reach")
			wantUnrouted(t, []impl.Reach{whole(), r}, ins, 1, "last reach")
			wantUnrouted(t, []impl.Reach{r, whole()}, ins, 1, "first reach")
		}
		wantUnrouted(t, append(alike(impl.MaxReaches-1, whole()), flooded()), ins, 1, "last reach of MaxReaches")
	}
	steep := reach(2, 0.5)
	wantUnrouted(t, []impl.Reach{steep}, floats(3e38, 3e38, -3e38), 1, "great ins")
	wantUnrouted(t, []impl.Reach{whole(), whole(), steep}, floats(0, 3e38, -3e38, 0, 0), 1, "great ins that come to the last reach")
	wantResults(t, all(impl.RouteReaches([]impl.Reach{whole(), whole(), steep}, floats(0, 3e38, -3e38, 0), 1)), all(floats(0, 0, 0, times(over(-1, 3), 3e38)), true), "RouteReaches of great ins that come late")
	// What comes out of the first reach is infinite, but would be nothing behind the next one.
	wantUnrouted(t, []impl.Reach{steep, reach(greatest/2, 0)}, floats(3e38, 3e38, -3e38), 1, "great ins")
}

func TestNoListsAreRouted(t *testing.T) {
	for workers := int64(1); workers <= impl.MaxWorkers; workers++ {
		for _, many := range [][][]float32{nil, {}} {
			wantResults(t, all(impl.RouteShared([]impl.Reach{whole()}, many, 1, workers)), all(noRows, true), "RouteShared without lists", workers)
			wantResults(t, all(impl.RouteShared([]impl.Reach{flooded()}, many, 1, workers)), all(noRows, true), "RouteShared without lists, and without shares", workers)
			for _, list := range [][]impl.Reach{nil, {reach(1, 1)}, alike(impl.MaxReaches+1, whole())} {
				wantResults(t, all(impl.RouteShared(list, many, 1, workers)), all(noRows, false), "RouteShared without lists", list, workers)
			}
			for _, tick := range nonPositive() {
				wantResults(t, all(impl.RouteShared([]impl.Reach{whole()}, many, tick, workers)), all(noRows, false), "RouteShared without lists with the tick", tick, workers)
			}
		}
	}
}

func TestRouteSharedAtItsLimits(t *testing.T) {
	d := drawer(502)
	for _, reaches := range []int{1, 2, impl.MaxReaches} {
		list := d.reaches(reaches, 1)
		for count := range impl.MaxReaches + 1 {
			many := noRows
			for range count {
				many = append(many, d.row(1+int(d.next()%impl.MaxRain), tame))
			}
			want, ok := sharedOracle(list, many, 0.5)
			wantThat(t, ok && len(want) == count, true, "the oracle", reaches, count)
			for workers := int64(1); workers <= impl.MaxWorkers; workers++ {
				wantResults(t, all(impl.RouteShared(list, many, 0.5, workers)), all(want, true), "RouteShared", list, count, workers)
			}
			for _, workers := range ints(0, -1, impl.MaxWorkers+1, math.MaxInt64, math.MinInt64, 1<<32+1) {
				wantResults(t, all(impl.RouteShared(list, many, 0.5, workers)), all(noRows, false), "RouteShared with workers", count, workers)
			}
		}
		for _, count := range []int{impl.MaxReaches + 1, 2 * impl.MaxReaches} {
			for workers := int64(1); workers <= impl.MaxWorkers; workers++ {
				wantResults(t, all(impl.RouteShared(list, alike(count, floats(1)), 0.5, workers)), all(noRows, false), "RouteShared of too many lists", count, workers)
			}
		}
	}
}

func TestRoutesOfAllKinds(t *testing.T) {
	d := drawer(503)
	failed := 0
	for n := range 3000 {
		kinds := tame + n%4
		list, tick := d.reaches(1+int(d.next()%impl.MaxReaches), kinds), d.length(kinds)
		var many [][]float32
		for range d.next() % 5 {
			many = append(many, d.row(1+int(d.next()%9), kinds))
		}
		for _, ins := range many {
			want, ok := reachesOracle(list, ins, tick)
			wantResults(t, all(impl.RouteReaches(list, ins, tick)), all(want, ok), "RouteReaches", list, ins, tick)
			first := d.signed(kinds)
			want, ok = routeOracle(list[:1], ins, tick, floats(first))
			wantResults(t, all(impl.RouteReach(list[0], ins, tick, first)), all(want, ok), "RouteReach", list[0], ins, tick, first)
		}
		want, ok := sharedOracle(list, many, tick)
		for _, workers := range ints(1, 2, 3, 8) {
			wantResults(t, all(impl.RouteShared(list, many, tick, workers)), all(want, ok), "RouteShared", list, many, tick, workers)
		}
		if !ok {
			failed++
		}
	}
	wantThat(t, failed > 300 && failed < 2000, true, "RouteShared is tried with reaches that fail, and that do not", failed)
}

func TestRoutingWorkersAreAtAnEndWithTheCall(t *testing.T) {
	d := drawer(504)
	list, many := d.reaches(impl.MaxReaches, 1), alike(impl.MaxReaches, d.row(impl.MaxRain, tame))
	before := runtime.NumGoroutine()
	for range 100 {
		impl.RouteShared(list, many, 0.5, impl.MaxWorkers)
		impl.RouteShared(append(slices.Clone(list[1:]), flooded()), many, 0.5, impl.MaxWorkers)
		impl.RouteShared(list, nil, 0.5, impl.MaxWorkers)
	}
	wantNoMoreWorkers(t, before)
}

func TestRoutesAreSharedByManyCallersAtOnce(t *testing.T) {
	d := drawer(505)
	list, many := d.reaches(impl.MaxReaches, 1), alike(impl.MaxReaches, d.row(impl.MaxRain, tame))
	want, ok := impl.RouteShared(list, many, 0.5, 1)
	wantThat(t, ok, true, "RouteShared")
	var callers sync.WaitGroup
	for n := range 16 {
		callers.Go(func() {
			wantResults(t, all(impl.RouteShared(list, many, 0.5, int64(n%8+1))), all(want, true), "RouteShared beside others", n)
		})
	}
	callers.Wait()
}

// What two floods bring together is the sum of what each one brings.
func TestSumsGoThroughReachesAsSums(t *testing.T) {
	d := drawer(506)
	for range 500 {
		list, tick := d.reaches(1+int(d.next()%impl.MaxReaches), 1), d.between(0.5, 4)
		a, b := d.row(impl.MaxRain, 3), d.row(impl.MaxRain, 3)
		sum, size := make([]float32, impl.MaxRain), 0.0
		for i := range sum {
			sum[i] = plus(a[i], b[i])
			size += math.Abs(float64(a[i])) + math.Abs(float64(b[i]))
		}
		one, first := impl.RouteReaches(list, a, tick)
		two, second := impl.RouteReaches(list, b, tick)
		both, third := impl.RouteReaches(list, sum, tick)
		wantThat(t, first && second && third, true, "RouteReaches", list, tick)
		for i := range both {
			wantThat(t, isNear(float64(one[i])+float64(two[i]), float64(both[i]), size), true, "RouteReaches of a sum", list, tick, i)
		}
	}
}

// What has come in is in the reach, or has come out.
func TestReachesLoseNothing(t *testing.T) {
	d := drawer(507)
	for range 2000 {
		r, ins, tick, first := d.reach(1), d.rain(impl.MaxRain, 3), d.between(0.5, 4), d.amount(3)
		outs, ok := impl.RouteReach(r, ins, tick, first)
		last := len(ins) - 1
		begin, one := impl.HeldInReach(r, ins[0], first)
		end, two := impl.HeldInReach(r, ins[last], outs[last])
		came := float64(begin) + float64(tick)*(wideSum(ins)-float64(ins[0]+ins[last])/2)
		left := float64(end) + float64(tick)*(wideSum(outs)-float64(first+outs[last])/2)
		wantThat(t, ok && one && two && isNear(came, left, came+1), true, "RouteReach", r, tick, first, came, left)
	}
}

func TestHeldInReach(t *testing.T) {
	for _, c := range []struct {
		r             impl.Reach
		in, out, want float32
	}{
		{reach(2, 0.25), 4, 8, 14}, {reach(2, 0.5), 4, 8, 12}, {reach(2, 0), 4, 8, 16}, {reach(2, minusZero), 4, 8, 16}, {reach(2, 0.25), -4, 8, 10}, {reach(0.5, 0.25), 4, -8, -2.5}, {reach(2, 0.5), 4, -4, 0}, {reach(1, 0.5), 2, 4, 3},
		{reach(2, 0), minusZero, minusZero, minusZero}, {reach(2, minusZero), minusZero, minusZero, 0}, {reach(2, 0), minusZero, 0, 0}, {reach(3, 0), 0, tiniest, 3 * tiniest}, {reach(tiniest, 0.5), 1, 1, tiniest}, {reach(1, 0.5), tiniest, tiniest, 0}, {reach(1, tiniest), 1, 0, tiniest}, {reach(1, 0.1), 0.3, 0.7, plus(times(0.1, 0.3), times(less(1, 0.1), 0.7))},
		{reach(1, 0.5), greatest, greatest, greatest}, {reach(1, 0), -greatest, greatest, greatest}, {reach(1, 0), greatest, -greatest, -greatest}, {reach(greatest, 0.5), 1, 1, greatest}, {reach(greatest, 0.5), 2, 2, notANumber}, {reach(greatest, 0), 0, -2, notANumber}, {reach(greatest, 0), 2, 0, 0}, {reach(1e30, 0.25), 1e20, 0, notANumber},
	} {
		wantTold(t, all(impl.HeldInReach(c.r, c.in, c.out)), c.want, "HeldInReach", c.r, c.in, c.out)
	}
	for _, r := range wrongReaches() {
		wantTold(t, all(impl.HeldInReach(r, 1, 1)), notANumber, "HeldInReach", r)
		wantTold(t, all(impl.HeldInReach(r, 0, 0)), notANumber, "HeldInReach", r)
	}
	for _, x := range notFinite() {
		wantTold(t, all(impl.HeldInReach(reach(1, 0), x, 1)), notANumber, "HeldInReach with the in", x)
		wantTold(t, all(impl.HeldInReach(reach(1, 0.5), 1, x)), notANumber, "HeldInReach with the out", x)
	}
	d := drawer(508)
	for n := range 20000 {
		r, in, out := d.reach(1+n%amountKinds), d.signed(1+n%amountKinds), d.signed(1+n%amountKinds)
		wantTold(t, all(impl.HeldInReach(r, in, out)), heldOracle(r, in, out), "HeldInReach", r, in, out)
		r, in, out = reach(d.bitwise(), d.bitwise()), d.bitwise(), d.bitwise()
		wantTold(t, all(impl.HeldInReach(r, in, out)), heldOracle(r, in, out), "HeldInReach", r, in, out)
	}
}
