package tests

import (
	"fmt"
	"math"
	"testing"

	"loop.example/g01302/impl"
)

// rainArgs are arguments of which each function of chapter 3 takes some.
type rainArgs struct {
	s                    impl.Storm
	list                 []impl.Storm
	soil                 impl.Soil
	snow                 impl.Snow
	rain, other          []float32
	places               []complex64
	at                   complex64
	count, workers, seed int64
	x, y, warm, tick     float32
}

// rainCalls are all functions of chapter 3 that can fail.
var rainCalls = []struct {
	name string
	call func(a rainArgs) []any
}{
	{"RainAt", func(a rainArgs) []any { return all(impl.RainAt(a.s, a.x)) }},
	{"FallenBy", func(a rainArgs) []any { return all(impl.FallenBy(a.s, a.x)) }},
	{"StormsOf", func(a rainArgs) []any { return all(impl.StormsOf(a.count, a.x, a.y, a.seed)) }},
	{"RainList", func(a rainArgs) []any { return all(impl.RainList(a.list, a.tick, a.count)) }},
	{"RainShared", func(a rainArgs) []any { return all(impl.RainShared(a.list, a.tick, a.count, a.workers)) }},
	{"DryRun", func(a rainArgs) []any { return all(impl.DryRun(a.rain, a.x)) }},
	{"NearRain", func(a rainArgs) []any { return all(impl.NearRain(a.places, a.other, a.at)) }},
	{"CanTake", func(a rainArgs) []any { return all(impl.CanTake(a.soil)) }},
	{"StepSoil", func(a rainArgs) []any { return all(impl.StepSoil(a.soil, a.x, a.tick)) }},
	{"RunSoil", func(a rainArgs) []any { return all(impl.RunSoil(a.soil, a.rain, a.tick)) }},
	{"CurveRunoff", func(a rainArgs) []any { return all(impl.CurveRunoff(a.x, a.y)) }},
	{"StepSnow", func(a rainArgs) []any { return all(impl.StepSnow(a.snow, a.x, a.warm, a.tick)) }},
	{"RunSnow", func(a rainArgs) []any { return all(impl.RunSnow(a.snow, a.rain, a.other, a.tick)) }},
	{"RunBuckets", func(a rainArgs) []any { return all(impl.RunBuckets(a.other, a.x, a.tick, a.rain)) }},
	{"UnitList", func(a rainArgs) []any { return all(impl.UnitList(a.workers, a.x, a.tick, a.count)) }},
	{"SpreadRain", func(a rainArgs) []any { return all(impl.SpreadRain(a.rain, a.other)) }},
}

// rainTests tell all that the functions report that never fail.
func rainTests(a rainArgs) string {
	return fmt.Sprint(impl.ValidStorm(a.s), impl.SameStorms(a.list, a.list), impl.IsRain(a.rain), impl.ValidSoil(a.soil), impl.SameSoil(a.soil, a.soil), impl.ValidSnow(a.snow), impl.SameSnow(a.snow, a.snow))
}

func TestAllRainFunctionsSucceed(t *testing.T) {
	a := rainArgs{
		s: storm(1, 2, 3, 0.5), list: []impl.Storm{storm(1, 2, 3, 0.5), storm(0, 1, 1, 0.1)}, soil: soil(1, 1, 2, 1, 1), snow: snow(1, 0.5, 2, 1),
		rain: floats(1, 2, 0), other: floats(3, 1, 2), places: []complex64{1, 2, 3i}, at: 5, count: 4, workers: 2, seed: 5, x: 1, y: 2, warm: -1, tick: 0.5,
	}
	for _, f := range rainCalls {
		results := f.call(a)
		wantThat(t, results[len(results)-1].(bool), true, f.name)
	}
	wantThat(t, rainTests(a), "true true true true true true true", "tests")
}

// rainText tells all that arguments share with their caller.
func rainText(a rainArgs) string {
	return told(stormsText(a.list[:cap(a.list)]), a.rain[:cap(a.rain)], a.other[:cap(a.other)], a.places[:cap(a.places)])
}

// drawnRain are arguments that are right, or nearly so, or wrong.
func drawnRain(d *drawer) rainArgs {
	kinds := tame + int(d.next()%4)
	odd := edgeNumbers()
	drawn := func() float32 {
		if d.next()%8 == 0 {
			return odd[d.next()%uint64(len(odd))]
		}
		return d.amount(kinds)
	}
	pick := func(list []int64) int64 { return list[d.next()%uint64(len(list))] }
	length := int(pick(ints(0, 1, 2, 5, 24)))
	a := rainArgs{
		s: d.storm(kinds), list: d.storms(length, kinds), soil: d.soil(kinds), snow: d.snow(kinds), rain: d.rain(length, kinds), other: d.rain(length, kinds),
		at: d.place(), count: pick(ints(0, 1, 3, 24)), workers: pick(ints(1, 2, 7, 8)), seed: pick(ints(0, 1, 2147483647, 99)),
		x: drawn(), y: drawn(), warm: drawn() - 2, tick: drawn(),
	}
	for range length {
		a.places = append(a.places, d.place())
	}
	switch d.next() % 16 {
	case 0:
		a.s.Long, a.soil.Suck, a.snow.Melt = drawn(), drawn(), drawn()
	case 1:
		a.s.Start, a.soil.Hold, a.snow.Keep = drawn(), drawn(), drawn()
	case 2:
		a.count, a.workers, a.seed = pick(ints(-1, 25, 128, 129, math.MaxInt64, math.MinInt64)), pick(ints(0, 9, -1, math.MaxInt64, math.MinInt64)), pick(ints(-1, 2147483648, math.MaxInt64, math.MinInt64))
	case 3:
		a.rain, a.other, a.list, a.places = make([]float32, 129), make([]float32, 129), d.storms(25, 1), make([]complex64, 25)
	case 4:
		a.other = append(a.other, 1)
	case 5:
		if length > 0 {
			a.rain[length-1], a.other[0], a.list[length-1].Size, a.places[0] = drawn(), drawn(), drawn(), complex(drawn(), drawn())
		}
	}
	a.list, a.rain, a.other, a.places = roomy(a.list, storm(7, 7, 7, 7)), roomy(a.rain, -7), roomy(a.other, -7), roomy(a.places, -7)
	return a
}

func TestRainFunctionsReturnForAllArgumentsAndChangeNone(t *testing.T) {
	d := drawer(340)
	n := newTally()
	for range 4000 {
		a := drawnRain(&d)
		before := rainText(a)
		for _, f := range rainCalls {
			n.callTwice(t, f.name, func() []any { return f.call(a) }, before)
		}
		wantThat(t, rainTests(a), rainTests(a), "tests again")
		wantThat(t, rainText(a), before, "arguments behind all calls")
	}
	for _, f := range rainCalls {
		n.wantTried(t, f.name, 200, 50)
	}
}

// wantFinite checks that all results of a call that succeeds are finite, and
// valid.
func wantFinite(t *testing.T, results []any, what string, args ...any) {
	t.Helper()
	for _, r := range results {
		good := true
		switch v := r.(type) {
		case float32:
			good = finite(v)
		case []float32:
			good = allFinite(v)
		case []impl.Storm:
			for _, s := range v {
				good = good && validStormOracle(s)
			}
		case impl.Soil:
			good = validSoilOracle(v)
		case impl.Snow:
			good = validSnowOracle(v)
		case []complex64:
			for _, x := range v {
				good = good && finite(real(x)) && finite(imag(x))
			}
		case [][]float32:
			for _, list := range v {
				good = good && allFinite(list)
			}
		case impl.Canal:
			good = validCanalOracle(v)
		case impl.Hill:
			good = validHillOracle(v)
		case impl.Section:
			good = validSectionOracle(v)
		case impl.Desk:
			good = validDeskOracle(v)
		case impl.River:
			good = validRiverOracle(v)
		case []impl.River:
			for _, river := range v {
				good = good && validRiverOracle(river)
			}
		case impl.Record:
			good = validRecordOracle(v)
		case []impl.Record:
			for _, record := range v {
				good = good && validRecordOracle(record)
			}
		}
		if !good {
			t.Errorf("%s%v has the result %v", what, args, r)
		}
	}
}

// tally counts how often each function succeeds, and how often it fails.
type tally struct{ succeeded, failed map[string]int }

func newTally() tally { return tally{map[string]int{}, map[string]int{}} }

// callTwice calls a function with arguments that are equal both times. All
// results of the first call are written over: what shares no memory stays as it is.
func (n tally) callTwice(t *testing.T, name string, call func() []any, args any) {
	t.Helper()
	first := call()
	text := told(first...)
	if first[len(first)-1].(bool) {
		n.succeeded[name]++
		if name != "UnpackRecord" { // the values of records are any numbers
			wantFinite(t, first, name, args)
		}
	} else {
		n.failed[name]++
		wantFailed(t, first, name, args)
	}
	spoil(first)
	wantThat(t, told(call()...), text, name+" again, with equal arguments")
}

func (n tally) wantTried(t *testing.T, name string, succeeded, failed int) {
	t.Helper()
	if n.succeeded[name] < succeeded || n.failed[name] < failed {
		t.Errorf("%s is tried too little: it succeeds %d times, and fails %d times", name, n.succeeded[name], n.failed[name])
	}
}

// The lists of one result must not share memory either.
func TestListsOfOneResultAreApart(t *testing.T) {
	_, offs, lets, ok := impl.RunSoil(soil(1, 1, 2, 0.5, 1), floats(1, 2, 3), 1)
	before := told(lets)
	spoil(all(offs[:cap(offs)]))
	wantThat(t, ok && told(lets) == before, true, "RunSoil")
	behind, lets, ok := impl.RunBuckets(floats(1, 2, 3), 1, 1, floats(1, 2, 3))
	before = told(lets)
	spoil(all(behind[:cap(behind)]))
	wantThat(t, ok && told(lets) == before, true, "RunBuckets")
}

func TestExamplesOfChapter3(t *testing.T) {
	s := storm(0, 2, 4, 0.5)
	wantResults(t, all(impl.RainAt(s, 1)), all(float32(4), true), "RainAt")
	wantResults(t, all(impl.FallenBy(s, 1)), all(float32(2), true), "FallenBy")
	for _, hold := range floats(1, 2, 100) {
		dry := soil(1, 0, hold, 0, 0)
		wantResults(t, all(impl.StepSoil(dry, 3, 1)), all(soil(1, 0, hold, 0, 1), float32(2), float32(0), true), "StepSoil", dry)
	}
}

func TestLimitsOfChapter3(t *testing.T) {
	wantThat(t, fmt.Sprint(impl.MaxStorms, impl.MaxRain, impl.MaxBuckets, impl.MaxWorkers), "24 128 8 8", "limits")
}
