package tests

import (
	"fmt"
	"math"
	"reflect"
	"slices"
	"testing"

	"loop.example/g01302/impl"
)

// hillArgs are arguments of which each function of chapter 2 takes some.
type hillArgs struct {
	h, other         impl.Hill
	ways, list       []int64
	rain             []float32
	wide, high, i, k int64
	seed             int64
	x, y, z          float32
}

// hillCalls are all functions of chapter 2 that can fail. Those that need no
// hill come first.
var hillCalls = []struct {
	name string
	call func(a hillArgs) []any
}{
	{"SlopeHill", func(a hillArgs) []any { return all(impl.SlopeHill(a.wide, a.high, a.x, a.y, a.z)) }},
	{"ConeHill", func(a hillArgs) []any { return all(impl.ConeHill(a.wide, a.high, a.x, a.y)) }},
	{"RoughHill", func(a hillArgs) []any { return all(impl.RoughHill(a.h, a.x, a.seed)) }},
	{"AddHills", func(a hillArgs) []any { return all(impl.AddHills(a.h, a.other)) }},
	{"AddHills", func(a hillArgs) []any { return all(impl.AddHills(a.other, a.h)) }},
	{"ScaleHill", func(a hillArgs) []any { return all(impl.ScaleHill(a.h, a.x)) }},
	{"TurnHill", func(a hillArgs) []any { return all(impl.TurnHill(a.h)) }},
	{"SmoothHill", func(a hillArgs) []any { return all(impl.SmoothHill(a.h)) }},
	{"DigHill", func(a hillArgs) []any { return all(impl.DigHill(a.h, a.list, a.x)) }},
	{"FillHill", func(a hillArgs) []any { return all(impl.FillHill(a.h)) }},
	{"HollowOf", func(a hillArgs) []any { return all(impl.HollowOf(a.h)) }},
	{"FallAt", func(a hillArgs) []any { return all(impl.FallAt(a.h, a.i)) }},
	{"WaysDown", func(a hillArgs) []any { return all(impl.WaysDown(a.h)) }},
	{"RunWays", func(a hillArgs) []any { return all(impl.RunWays(a.h)) }},
	{"PathFrom", func(a hillArgs) []any { return all(impl.PathFrom(a.h, a.ways, a.i)) }},
	{"CatchmentsOf", func(a hillArgs) []any { return all(impl.CatchmentsOf(a.h, a.ways)) }},
	{"RainThrough", func(a hillArgs) []any { return all(impl.RainThrough(a.h, a.ways, a.rain)) }},
	{"BasinsOf", func(a hillArgs) []any { return all(impl.BasinsOf(a.h, a.ways)) }},
	{"OrdersOf", func(a hillArgs) []any { return all(impl.OrdersOf(a.h, a.ways)) }},
	{"LongestPath", func(a hillArgs) []any { return all(impl.LongestPath(a.h, a.ways)) }},
	{"RidgesOf", func(a hillArgs) []any { return all(impl.RidgesOf(a.h, a.ways)) }},
	{"TiltAt", func(a hillArgs) []any { return all(impl.TiltAt(a.h, a.i)) }},
	{"ShadeOf", func(a hillArgs) []any { return all(impl.ShadeOf(a.h, a.x, a.y)) }},
	{"SeesOver", func(a hillArgs) []any { return all(impl.SeesOver(a.h, a.i, a.k, a.z)) }},
}

// makers is how many of hillCalls need no hill.
const makers = 2

// goodArgs are arguments with which all functions succeed.
func goodArgs(h impl.Hill) hillArgs {
	ways := make([]int64, len(h.Heights))
	for i := range ways {
		ways[i] = -1
	}
	other := hill(h.Wide, h.High, slices.Clone(h.Heights)...)
	return hillArgs{h: h, other: other, ways: ways, list: ints(0), rain: slices.Clone(h.Heights), wide: h.Wide, high: h.High, i: 0, k: 1, seed: 5, x: 1, y: 2, z: 3}
}

// wantFailed checks that all results of a call are zero values.
func wantFailed(t *testing.T, results []any, what string, args ...any) {
	t.Helper()
	for _, r := range results {
		v := reflect.ValueOf(r)
		if !v.IsZero() && (v.Kind() != reflect.Slice || v.Len() > 0) {
			t.Errorf("%s%v fails, but has the result %v", what, args, r)
		}
	}
}

func TestAllFunctionsSucceed(t *testing.T) {
	for _, h := range []impl.Hill{hill(2, 1, 1, 2), evenHill(16, 16, 3), hill(3, 2, 1, 2, 3, 4, 5, 6)} {
		for _, f := range hillCalls {
			results := f.call(goodArgs(h))
			wantThat(t, results[len(results)-1].(bool), true, f.name, hillText(h))
		}
	}
}

func TestInvalidHillsFail(t *testing.T) {
	for _, h := range invalidHills() {
		a := goodArgs(evenHill(2, 2, 1))
		a.h = h
		if len(h.Heights) > 0 {
			a.rain = make([]float32, len(h.Heights))
			a.ways = goodArgs(h).ways
		}
		for _, f := range hillCalls[makers:] {
			wantFailed(t, f.call(a), f.name, hillText(h))
		}
		wantThat(t, impl.AreWays(h, a.ways) || impl.AreWays(h, nil), false, "AreWays", hillText(h))
	}
}

func TestWrongWaysFail(t *testing.T) {
	h := evenHill(3, 3, 1)
	for _, ways := range [][]int64{
		nil, ints(-1), ints(-1, -1, -1, -1, -1, -1, -1, -1), ints(-1, -1, -1, -1, -1, -1, -1, -1, -1, -1), // of a wrong length
		ints(1, 0, -1, -1, -1, -1, -1, -1, -1), ints(1, 2, 5, 0, -1, 8, 3, 6, 7), ints(1, 4, -1, 0, 3, -1, -1, -1, -1), // around
		ints(0, -1, -1, -1, -1, -1, -1, -1, -1), ints(2, -1, -1, -1, -1, -1, -1, -1, -1), ints(-1, -1, 3, -1, -1, -1, -1, -1, -1), ints(-1, -1, -1, -1, 9, -1, -1, -1, -1), ints(-1, -1, -1, -1, -2, -1, -1, -1, -1), ints(-1, -1, -1, -1, -1, -1, -1, -1, math.MaxInt64), ints(math.MinInt64, -1, -1, -1, -1, -1, -1, -1, -1), // to no neighbour
	} {
		a := goodArgs(h)
		a.ways = ways
		for _, f := range hillCalls {
			switch f.name {
			case "PathFrom", "CatchmentsOf", "RainThrough", "BasinsOf", "OrdersOf", "LongestPath", "RidgesOf":
				wantFailed(t, f.call(a), f.name, ways)
			}
		}
	}
}

// roomyHill is a copy of a hill with unused capacity that is filled.
func roomyHill(h impl.Hill) impl.Hill {
	h.Heights = roomy(h.Heights, -7)
	return h
}

// argsText tells all that arguments share with their caller.
func argsText(a hillArgs) string {
	whole := func(list []float32) []uint32 { return bitsOfAll(list[:cap(list)]) }
	return fmt.Sprint(a.h.Wide, a.h.High, whole(a.h.Heights), a.other.Wide, a.other.High, whole(a.other.Heights), a.ways[:cap(a.ways)], a.list[:cap(a.list)], whole(a.rain))
}

// spoil writes over all memory of results.
func spoil(results []any) {
	for _, r := range results {
		switch v := r.(type) {
		case []int64:
			for i := range v[:cap(v)] {
				v[:cap(v)][i] = 77
			}
		case []float32:
			for i := range v[:cap(v)] {
				v[:cap(v)][i] = 77
			}
		case impl.Hill:
			spoil(all(v.Heights))
		case []impl.Storm:
			for i := range v[:cap(v)] {
				v[:cap(v)][i] = impl.Storm{Start: 77}
			}
		case []complex64:
			for i := range v[:cap(v)] {
				v[:cap(v)][i] = 77
			}
		case [][]float32:
			for i := range v[:cap(v)] {
				spoil(all(v[:cap(v)][i]))
				v[:cap(v)][i] = nil
			}
		case impl.Canal:
			spoil(all(v.Highs, v.Flows))
		case [][]int64:
			for i := range v[:cap(v)] {
				spoil(all(v[:cap(v)][i]))
				v[:cap(v)][i] = nil
			}
		case impl.River:
			spoil(all(v.Downs, v.Wants))
			for i := range v.Dams[:cap(v.Dams)] {
				v.Dams[:cap(v.Dams)][i] = impl.Dam{Size: 77}
			}
		case []impl.River:
			for i := range v[:cap(v)] {
				spoil(all(v[:cap(v)][i]))
				v[:cap(v)][i] = impl.River{}
			}
		case impl.Record:
			spoil(all(v.Values))
		case []impl.Record:
			for i := range v[:cap(v)] {
				spoil(all(v[:cap(v)][i]))
				v[:cap(v)][i] = impl.Record{}
			}
		case []string:
			for i := range v[:cap(v)] {
				v[:cap(v)][i] = "spoilt"
			}
		case impl.Desk:
			spoil(all(v.Hill, v.River))
		}
	}
}

// drawnArgs are arguments that are right, or nearly so, or wrong.
func drawnArgs(d *drawer, hills []impl.Hill) hillArgs {
	pick := func(list []int64) int64 { return list[d.next()%uint64(len(list))] }
	numbers := append(edgeNumbers(), 0.5, 2, -3, 100)
	h := hills[d.next()%uint64(len(hills))]
	a := hillArgs{h: roomyHill(h), other: roomyHill(h)}
	if d.next()%4 == 0 {
		a.other = roomyHill(hills[d.next()%uint64(len(hills))])
	}
	a.ways = make([]int64, len(h.Heights))
	if impl.ValidHill(h) && d.next()%2 == 0 {
		a.ways = drawnWays(d, h, 6)
	}
	a.rain = make([]float32, len(h.Heights)+int(d.next()%8/7))
	for i := range a.rain {
		a.rain[i] = d.moderate()
		if d.next()%500 == 0 {
			a.rain[i] = numbers[d.next()%uint64(len(numbers))]
		}
	}
	for i := range h.Heights {
		if d.next()%4 == 0 {
			a.list = append(a.list, int64(i))
		}
	}
	if d.next()%4 == 0 {
		a.list = append(a.list, pick(ints(0, -1, 256, math.MaxInt64)))
	}
	a.ways, a.list, a.rain = roomy(a.ways, 7), roomy(a.list, 7), roomy(a.rain, 7)
	integers := ints(0, 1, 2, 3, 5, 15, 16, 17, 255, 256, -1, 2147483647, 2147483648, math.MinInt64, math.MaxInt64)
	a.wide, a.high, a.i, a.k, a.seed = pick(integers[:8]), pick(integers[:8]), pick(integers), pick(integers[:9]), pick(integers)
	if d.next()%8 == 0 {
		a.wide, a.high = pick(integers), pick(integers)
	}
	a.x, a.y, a.z = numbers[d.next()%uint64(len(numbers))], numbers[d.next()%uint64(len(numbers))], numbers[d.next()%uint64(len(numbers))]
	return a
}

func TestHillFunctionsReturnForAllArgumentsAndChangeNone(t *testing.T) {
	d := drawer(51)
	hills := append(sampleHills(52), invalidHills()...)
	hills = append(hills, steepHills()...)
	for range 1500 {
		a := drawnArgs(&d, hills)
		before := argsText(a)
		for _, f := range hillCalls {
			first := f.call(a)
			text := told(first...)
			if ok := first[len(first)-1].(bool); !ok && f.name != "SeesOver" {
				wantFailed(t, first, f.name, before)
			}
			spoil(first) // what shares no memory stays as it is
			wantThat(t, told(f.call(a)...), text, f.name+" again, with equal arguments")
		}
		tests := fmt.Sprint(impl.ValidHill(a.h), impl.SameHill(a.h, a.other), impl.AreWays(a.h, a.ways))
		wantThat(t, fmt.Sprint(impl.ValidHill(a.h), impl.SameHill(a.h, a.other), impl.AreWays(a.h, a.ways)), tests, "tests again")
		wantThat(t, argsText(a), before, "arguments behind all calls")
	}
}

func TestExamplesOfChapter2(t *testing.T) {
	pit := hill(3, 3, 5, 5, 5, 5, 3, 5, 5, 5, 5)
	wantResults(t, all(impl.HollowOf(pit)), all(float32(2), true), "HollowOf a pit")
	ways, ok := impl.RunWays(pit)
	wantThat(t, ok && ways[4] == 1, true, "RunWays of a pit")
	slope, ok := impl.SlopeHill(3, 3, 0, 1, 0)
	wantThat(t, ok, true, "SlopeHill")
	wantResults(t, all(impl.FallAt(slope, 4)), all(3, float32(1), true), "FallAt of a slope")
	cone, ok := impl.ConeHill(3, 3, 2, 1)
	wantThat(t, ok, true, "ConeHill")
	for _, waysOf := range []func(impl.Hill) ([]int64, bool){impl.WaysDown, impl.RunWays} {
		ways, ok = waysOf(cone)
		wantThat(t, ok, true, "ways of a cone")
		basins, count, ok := impl.BasinsOf(cone, ways)
		wantThat(t, ok && count == 4, true, "basins of a cone")
		corners := ints(basins[0], basins[2], basins[6], basins[8])
		slices.Sort(corners)
		wantThat(t, fmt.Sprint(corners), "[0 1 2 3]", "basins of the corners of a cone")
	}
}
