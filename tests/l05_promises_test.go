package tests

import (
	"fmt"
	"math"
	"testing"

	"loop.example/g01302/impl"
)

// waveArgs are arguments of which each function of chapter 5 takes some.
type waveArgs struct {
	r                         impl.Reach
	list                      []impl.Reach
	lake                      impl.Lake
	canal                     impl.Canal
	ins, areas, seas          []float32
	many                      [][]float32
	count, workers            int64
	x, y, store, place        float32
	rate, step, tick, in, out float32
}

// waveCalls are all functions of chapter 5 that can fail.
var waveCalls = []struct {
	name string
	call func(a waveArgs) []any
}{
	{"ReachShares", func(a waveArgs) []any { return all(impl.ReachShares(a.r, a.tick)) }},
	{"RouteReach", func(a waveArgs) []any { return all(impl.RouteReach(a.r, a.ins, a.tick, a.x)) }},
	{"RouteReaches", func(a waveArgs) []any { return all(impl.RouteReaches(a.list, a.ins, a.tick)) }},
	{"RouteShared", func(a waveArgs) []any { return all(impl.RouteShared(a.list, a.many, a.tick, a.workers)) }},
	{"HeldInReach", func(a waveArgs) []any { return all(impl.HeldInReach(a.r, a.x, a.place)) }},
	{"LakeOut", func(a waveArgs) []any { return all(impl.LakeOut(a.lake, a.store)) }},
	{"StepLake", func(a waveArgs) []any { return all(impl.StepLake(a.lake, a.store, a.in, a.out, a.tick)) }},
	{"RouteLake", func(a waveArgs) []any { return all(impl.RouteLake(a.lake, a.store, a.ins, a.tick)) }},
	{"WaveFlow", func(a waveArgs) []any { return all(impl.WaveFlow(a.rate, a.in)) }},
	{"StepWave", func(a waveArgs) []any { return all(impl.StepWave(a.areas, a.in, a.rate, a.step, a.tick)) }},
	{"RunWave", func(a waveArgs) []any { return all(impl.RunWave(a.areas, a.ins, a.rate, a.step, a.tick)) }},
	{"StillCanal", func(a waveArgs) []any { return all(impl.StillCanal(a.count, a.step, a.y, a.in)) }},
	{"StepCanal", func(a waveArgs) []any { return all(impl.StepCanal(a.canal, a.x, a.tick)) }},
	{"RunCanal", func(a waveArgs) []any { return all(impl.RunCanal(a.canal, a.seas, a.tick)) }},
	{"EnergyOfCanal", func(a waveArgs) []any { return all(impl.EnergyOfCanal(a.canal)) }},
	{"TidesOf", func(a waveArgs) []any { return all(impl.TidesOf(a.canal, a.in)) }},
	{"BreakDepth", func(a waveArgs) []any { return all(impl.BreakDepth(a.y, a.place, a.tick)) }},
	{"BreakFlow", func(a waveArgs) []any { return all(impl.BreakFlow(a.y, a.place, a.tick)) }},
}

// waveTests tell all that the functions report that never fail.
func waveTests(a waveArgs) string {
	return fmt.Sprint(impl.ValidReach(a.r), impl.SameReaches(a.list, a.list), impl.ValidLake(a.lake), impl.SameLake(a.lake, a.lake), impl.ValidCanal(a.canal), impl.SameCanal(a.canal, a.canal))
}

func TestAllWaveFunctionsSucceed(t *testing.T) {
	a := waveArgs{
		r: reach(2, 0.25), list: []impl.Reach{reach(2, 0.25), reach(1, 0)}, lake: pond(), canal: canalOf(1, 2, 0), ins: floats(1, 0.5, 2), areas: floats(4, 1, 0), seas: floats(1, -1), many: rows(floats(1), floats(2, 3)),
		count: 3, workers: 2, x: -1, y: 2, store: 1, place: 0.5, rate: 1, step: 8, tick: 0.25, in: 1, out: 0.5,
	}
	for _, f := range waveCalls {
		results := f.call(a)
		wantThat(t, results[len(results)-1].(bool), true, f.name)
	}
	wantThat(t, waveTests(a), "true true true true true true", "tests")
}

// wholeOf is a list with its unused capacity.
func wholeOf[T any](list []T) []T { return list[:cap(list)] }

// waveText tells all that arguments share with their caller.
func waveText(a waveArgs) string {
	reaches := noFloats
	for _, r := range wholeOf(a.list) {
		reaches = append(reaches, r.Delay, r.Lean)
	}
	many := noRows
	for _, ins := range wholeOf(a.many) {
		many = append(many, wholeOf(ins))
	}
	return told(reaches, many, wholeOf(a.lake.Stores), wholeOf(a.lake.Outs), wholeOf(a.canal.Highs), wholeOf(a.canal.Flows), wholeOf(a.ins), wholeOf(a.areas), wholeOf(a.seas))
}

// drawnWave are arguments that are right, or nearly so, or wrong.
func drawnWave(d *drawer) waveArgs {
	kinds := tame + int(d.next()%4)
	drawn, pick := d.orOdd, d.pick
	length := int(pick(ints(1, 2, 5, 12)))
	a := waveArgs{
		r: d.reach(kinds), list: d.reaches(length, kinds), lake: d.lake(kinds), canal: d.canal(length, kinds), ins: d.rain(length, kinds), areas: d.rain(length, kinds), seas: d.row(length, kinds),
		count: pick(ints(1, 2, 48)), workers: pick(ints(1, 2, 7, 8)), x: drawn(d.signed(kinds)), y: drawn(d.length(kinds)), place: drawn(d.signed(kinds)), rate: drawn(d.length(kinds)), step: drawn(d.length(kinds)), in: drawn(d.amount(kinds)), out: drawn(d.amount(kinds)),
	}
	a.store = drawn(d.storeIn(a.lake))
	a.tick = drawn(d.tickFor(a.areas, a.rate, a.step))
	for range d.next() % 13 {
		a.many = append(a.many, d.row(1+int(d.next()%5), kinds))
	}
	switch d.next() % 12 {
	case 0:
		a.r.Lean, a.list[length-1].Delay, a.lake.Stores[1], a.canal.Drag = drawn(2), drawn(0), drawn(-1), drawn(-1)
	case 1:
		a.count, a.workers = pick(ints(0, -1, 49, math.MaxInt64, math.MinInt64)), pick(ints(0, 9, -1, math.MaxInt64, math.MinInt64))
	case 2:
		a.list, a.lake, a.canal, a.ins, a.areas, a.seas, a.many = d.reaches(13, 1), lake(rising(17), rising(17)), canalOf(make([]float32, 49)...), make([]float32, 129), make([]float32, 49), make([]float32, 129), alike(13, floats(1))
	case 3:
		a.list, a.lake, a.canal, a.ins, a.areas, a.many = nil, lake(floats(1), floats(1)), canalOf(), nil, nil, rows(nil)
	case 4:
		a.lake.Outs, a.canal.Flows = append(a.lake.Outs, greatest), append(a.canal.Flows, 1)
	case 5:
		a.ins[length-1], a.areas[0], a.seas[length-1], a.canal.Highs[0], a.lake.Outs[0] = drawn(-1), drawn(-1), drawn(1), drawn(1), drawn(-1)
		a.many = append(a.many, floats(1, drawn(1)))
	}
	a.list, a.lake, a.canal.Highs, a.canal.Flows = roomy(a.list, reach(7, 7)), lake(roomy(a.lake.Stores, -7), roomy(a.lake.Outs, -7)), roomy(a.canal.Highs, -7), roomy(a.canal.Flows, -7)
	a.ins, a.areas, a.seas = roomy(a.ins, -7), roomy(a.areas, -7), roomy(a.seas, -7)
	for i := range a.many {
		a.many[i] = roomy(a.many[i], -7)
	}
	a.many = roomy(a.many, floats(-7))
	return a
}

func TestWaveFunctionsReturnForAllArgumentsAndChangeNone(t *testing.T) {
	d := drawer(560)
	n := newTally()
	for range 4000 {
		a := drawnWave(&d)
		before := waveText(a)
		for _, f := range waveCalls {
			n.callTwice(t, f.name, func() []any { return f.call(a) }, before)
		}
		wantThat(t, waveTests(a), waveTests(a), "tests again")
		wantThat(t, waveText(a), before, "arguments behind all calls")
	}
	for _, f := range waveCalls {
		n.wantTried(t, f.name, 300, 300)
	}
}

// Where nothing is done with lists, they are new ones all the same.
func TestRunsOfNothingAreNewLists(t *testing.T) {
	c := canalOf(1, 2, 3)
	end, _, ok := impl.RunCanal(c, nil, 1)
	wantThat(t, ok, true, "RunCanal without seas")
	spoil(all(end))
	wantThat(t, told(c), told(canalOf(1, 2, 3)), "the canal that was given")
	ins := floats(1)
	outs, ok := impl.RouteReaches([]impl.Reach{whole()}, ins, 1)
	stores, flows, fine := impl.RouteLake(pond(), 1, ins, 1)
	spoil(all(outs, stores, flows))
	wantThat(t, ok && fine && ins[0] == 1, true, "lists of one number")
}

// The lists of one result must not share memory either.
func TestListsOfOneWaveAreApart(t *testing.T) {
	check := func(what string, lists ...[]float32) {
		t.Helper()
		for i, list := range lists {
			others := func() string { return rowsText(append(append(rows(), lists[:i]...), lists[i+1:]...)) }
			before := others()
			spoil(all(list))
			wantThat(t, len(list) > 0 && others() == before, true, what, i)
			for k := range lists {
				for n := range lists[k] {
					lists[k][n] = float32(10*k + n)
				}
			}
		}
	}
	stores, outs, _ := impl.RouteLake(pond(), 1, floats(1, 2, 3), 1)
	check("RouteLake", stores, outs)
	areas, outs, _ := impl.RunWave(floats(4, 1), floats(1, 2, 3), 1, 8, 1)
	check("RunWave", areas, outs)
	still, _ := impl.StillCanal(3, 1, 1, 0)
	check("StillCanal", still.Highs, still.Flows)
	next, _ := impl.StepCanal(still, 1, 1)
	check("StepCanal", next.Highs, next.Flows)
	for _, seas := range rows(floats(1, 2), floats(1, 2, 3)) {
		next, ends, _ := impl.RunCanal(canalOf(1, 2, 3), seas, 0.5)
		check("RunCanal", next.Highs, next.Flows, ends)
	}
	next, _, _ = impl.RunCanal(canalOf(1, 2, 3), nil, 0.5)
	check("RunCanal without seas", next.Highs, next.Flows)
	same := floats(1, 2, 3)
	for workers := int64(1); workers <= impl.MaxWorkers; workers++ {
		routed, ok := impl.RouteShared([]impl.Reach{whole(), whole()}, alike(impl.MaxReaches, same), 1, workers)
		wantThat(t, ok, true, "RouteShared")
		check("RouteShared", append(routed, same)...)
		same = floats(1, 2, 3)
	}
}

func TestExamplesOfChapter5(t *testing.T) {
	wantResults(t, all(impl.ReachShares(reach(1, 0.5), 1)), all(float32(0), float32(1), float32(0), true), "ReachShares")
	wantResults(t, all(impl.RouteReach(reach(1, 0.5), floats(5, 7, 9, 2), 1, 3)), all(floats(3, 5, 7, 9), true), "RouteReach")
	wantResults(t, all(impl.LakeOut(lake(floats(0, 2), floats(0, 1)), 1)), all(float32(0.5), true), "LakeOut")
}

func TestLimitsOfChapter5(t *testing.T) {
	wantThat(t, fmt.Sprint(impl.MaxReaches, impl.MaxLake, impl.MaxCanal), "12 16 48", "limits")
}
