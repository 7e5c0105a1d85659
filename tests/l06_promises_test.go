package tests

import (
	"fmt"
	"math"
	"testing"

	"loop.example/g01302/impl"
)

// riverArgs are arguments of which each function of chapter 6 takes some.
type riverArgs struct {
	r, other                impl.River
	list                    []impl.River
	d                       impl.Dam
	inflows                 []int64
	dates                   [][]int64
	weights, ranks          []int64
	i, k, count, workers    int64
	want, most, part, whole int64
}

// riverCalls are all functions of chapter 6 that can fail.
var riverCalls = []struct {
	name string
	call func(a riverArgs) []any
}{
	{"LineRiver", func(a riverArgs) []any { return all(impl.LineRiver(a.count)) }},
	{"SetDam", func(a riverArgs) []any { return all(impl.SetDam(a.r, a.i, a.d)) }},
	{"SetWant", func(a riverArgs) []any { return all(impl.SetWant(a.r, a.i, a.want)) }},
	{"JoinRivers", func(a riverArgs) []any { return all(impl.JoinRivers(a.r, a.other, a.i)) }},
	{"FlowOrder", func(a riverArgs) []any { return all(impl.FlowOrder(a.r)) }},
	{"UpFrom", func(a riverArgs) []any { return all(impl.UpFrom(a.r, a.i)) }},
	{"OutletsOf", func(a riverArgs) []any { return all(impl.OutletsOf(a.r)) }},
	{"DepthsIn", func(a riverArgs) []any { return all(impl.DepthsIn(a.r)) }},
	{"MeetingOf", func(a riverArgs) []any { return all(impl.MeetingOf(a.r, a.i, a.k)) }},
	{"StoredIn", func(a riverArgs) []any { return all(impl.StoredIn(a.r)) }},
	{"DayOf", func(a riverArgs) []any { return all(impl.DayOf(a.r, a.inflows)) }},
	{"RunDays", func(a riverArgs) []any { return all(impl.RunDays(a.r, a.dates)) }},
	{"RunManyDays", func(a riverArgs) []any { return all(impl.RunManyDays(a.list, a.dates, a.workers)) }},
	{"LedgerOf", func(a riverArgs) []any { return all(impl.LedgerOf(a.r, a.dates)) }},
	{"ShortDays", func(a riverArgs) []any { return all(impl.ShortDays(a.r, a.dates)) }},
	{"LeastSize", func(a riverArgs) []any { return all(impl.LeastSize(a.r, a.i, a.dates, a.most)) }},
	{"CutWants", func(a riverArgs) []any { return all(impl.CutWants(a.r, a.part, a.whole)) }},
	{"SplitExact", func(a riverArgs) []any { return all(impl.SplitExact(a.want, a.weights)) }},
	{"ByRights", func(a riverArgs) []any { return all(impl.ByRights(a.want, a.weights, a.ranks)) }},
	{"HalfWay", func(a riverArgs) []any { return all(impl.HalfWay(a.dates)) }},
}

// riverTests tell all that the functions report that never fail.
func riverTests(a riverArgs) string {
	return fmt.Sprint(impl.ValidRiver(a.r), impl.ValidRiver(a.other), impl.SameRiver(a.r, a.other), impl.SameRiver(a.r, a.r))
}

func TestAllRiverFunctionsSucceed(t *testing.T) {
	a := riverArgs{
		r: valley(), other: lineTo(2), list: rivers(valley(), lineTo(5)), d: dam(4, 1, 2, 3), inflows: ints(1, 2, 3, 4, 5), dates: days(ints(1, 2, 3, 4, 5), ints(0, 9, 0, 9, 0)), weights: ints(1, 0, 2), ranks: ints(1, 0, 64),
		i: 1, k: 2, count: 3, workers: 2, want: 5, most: 9, part: 1, whole: 2,
	}
	for _, f := range riverCalls {
		results := f.call(a)
		wantThat(t, results[len(results)-1].(bool), true, f.name)
	}
	wantThat(t, riverTests(a), "true true false true", "tests")
}

// riverText tells all that arguments share with their caller.
func riverText(a riverArgs) string {
	whole := func(r impl.River) string { return fmt.Sprint(wholeOf(r.Downs), wholeOf(r.Dams), wholeOf(r.Wants)) }
	text := whole(a.r) + whole(a.other)
	for _, r := range wholeOf(a.list) {
		text += whole(r)
	}
	for _, day := range wholeOf(a.dates) {
		text += fmt.Sprint(wholeOf(day))
	}
	return fmt.Sprint(text, wholeOf(a.inflows), wholeOf(a.weights), wholeOf(a.ranks))
}

// drawnRiver are arguments that are right, or nearly so, or wrong.
func drawnRiver(d *drawer, wrong []impl.River) riverArgs {
	kinds, nodes := 1+int(d.next()%unitKinds), d.nodeCount()
	odd := append(notUnits(), 0, 1, impl.MaxUnits, impl.MaxNodes, impl.MaxDays, impl.MaxDays+1)
	drawn := func(x int64) int64 {
		if d.next()%12 > 0 {
			return x
		}
		return d.pick(odd)
	}
	a := riverArgs{
		r: d.river(nodes, kinds), other: d.river(1+int(d.next()%6), kinds), d: d.dam(kinds), inflows: d.unitList(nodes, kinds), dates: d.days(int(d.next()%6), nodes, kinds), weights: d.unitList(nodes, kinds),
		i: drawn(int64(d.next() % uint64(nodes))), k: drawn(int64(d.next() % uint64(nodes))), count: drawn(int64(d.next() % 14)), workers: drawn(1 + int64(d.next()%8)), want: drawn(d.units(kinds)), most: drawn(d.units(unitKinds)), part: drawn(d.units(2)), whole: drawn(impl.MaxUnits - d.units(kinds)),
	}
	for range nodes {
		a.ranks = append(a.ranks, int64(d.next()%65))
	}
	for range d.next() % 13 {
		a.list = append(a.list, d.river(nodes, kinds))
	}
	last := nodes - 1
	switch d.next() % 12 {
	case 0:
		a.r = wrong[d.next()%uint64(len(wrong))]
	case 1:
		a.other = wrong[d.next()%uint64(len(wrong))]
		a.list = append(a.list, a.other)
	case 2:
		a.r.Wants[last], a.inflows[0], a.weights[last], a.ranks[0], a.d.Size = drawn(-1), drawn(-1), drawn(-1), drawn(-1), drawn(-1)
	case 3:
		a.inflows, a.weights, a.ranks = d.unitList(d.nodeCount(), kinds), make([]int64, 65), make([]int64, 65)
		a.dates, a.list = append(a.dates, d.unitList(d.nodeCount(), kinds)), append(a.list, d.river(d.nodeCount(), kinds))
	case 4:
		a.dates, a.list, a.weights = evenDays(impl.MaxDays+1, nodes, 1), alike(impl.MaxNodes+1, a.r), nil
	case 5:
		a.r.Downs[last], a.r.Dams[0].Now, a.dates = drawn(0), drawn(5), append(a.dates, with(a.inflows, last, drawn(1)))
	case 6:
		a.dates, a.list = nil, nil
	}
	a.r, a.other, a.list, a.dates = roomyRiver(a.r), roomyRiver(a.other), roomy(a.list, valley()), roomy(a.dates, ints(7))
	for i := range a.list {
		a.list[i] = roomyRiver(a.list[i])
	}
	for i := range a.dates {
		a.dates[i] = roomy(a.dates[i], 7)
	}
	a.inflows, a.weights, a.ranks = roomy(a.inflows, 7), roomy(a.weights, 7), roomy(a.ranks, 7)
	return a
}

func TestRiverFunctionsReturnForAllArgumentsAndChangeNone(t *testing.T) {
	d := drawer(640)
	n := newTally()
	wrong := wrongRivers()
	for range 4000 {
		a := drawnRiver(&d, wrong)
		before := riverText(a)
		for _, f := range riverCalls {
			n.callTwice(t, f.name, func() []any { return f.call(a) }, before)
		}
		wantThat(t, riverTests(a), riverTests(a), "tests again")
		wantThat(t, riverText(a), before, "arguments behind all calls")
	}
	for _, f := range riverCalls {
		n.wantTried(t, f.name, 300, 300)
	}
}

// No list of a result is part of an argument, also where nothing is done with it.
func TestRiversThatStayAreNewOnes(t *testing.T) {
	r, inflows, weights := valley(), ints(1, 2, 3, 4, 5), ints(3, 4)
	before := fmt.Sprint(r, inflows, weights)
	end, _, _, _ := impl.RunDays(r, nil)
	cut, _ := impl.CutWants(r, 1, 1)
	dammed, _ := impl.SetDam(r, 0, r.Dams[0])
	wanted, _ := impl.SetWant(r, 0, r.Wants[0])
	ends, _ := impl.RunManyDays(rivers(r, r), nil, 2)
	next, gives, leaves, _ := impl.DayOf(r, inflows)
	joined, _ := impl.JoinRivers(r, r, 0)
	split, _ := impl.SplitExact(7, weights)
	rights, _ := impl.ByRights(7, weights, ints(0, 0))
	for _, same := range append(ends, end, cut, dammed, wanted) {
		wantThat(t, impl.SameRiver(same, r), true, "a river that stays", same)
	}
	spoil(all(end, cut, dammed, wanted, ends, next, gives, leaves, joined, split, rights))
	wantThat(t, fmt.Sprint(r, inflows, weights), before, "arguments")
}

// The lists of one result must not share memory either.
func TestListsOfOneRiverAreApart(t *testing.T) {
	check := func(what string, list ...any) {
		t.Helper()
		for i := range list {
			others := append(append(all(), list[:i]...), list[i+1:]...)
			before := told(others...)
			spoil(list[i : i+1])
			wantThat(t, told(others...), before, what, i)
		}
	}
	parts := func(r impl.River) []any { return all(r.Downs, river(nil, r.Dams, nil), r.Wants) }
	r := valley()
	line, _ := impl.LineRiver(impl.MaxNodes)
	check("LineRiver", parts(line)...)
	joined, _ := impl.JoinRivers(r, r, 1)
	check("JoinRivers", parts(joined)...)
	next, gives, leaves, _ := impl.DayOf(r, ints(1, 2, 3, 4, 5))
	check("DayOf", append(parts(next), gives, leaves)...)
	end, given, gone, _ := impl.RunDays(r, evenDays(5, 5, 9))
	lists := append(parts(end), gone)
	for _, gives := range given {
		lists = append(lists, gives)
	}
	check("RunDays", lists...)
	for _, dates := range [][][]int64{nil, evenDays(2, 5, 9)} {
		for workers := int64(1); workers <= impl.MaxCrew; workers++ {
			ends, _ := impl.RunManyDays(alike(impl.MaxNodes, r), dates, workers)
			lists = all()
			for _, end := range ends {
				lists = append(lists, parts(end)...)
			}
			check("RunManyDays", lists...)
		}
	}
	cut, _ := impl.CutWants(r, 1, 2)
	check("CutWants", parts(cut)...)
}

func TestExamplesOfChapter6(t *testing.T) {
	line, ok := impl.LineRiver(3)
	wantThat(t, ok, true, "LineRiver")
	wantResults(t, all(impl.FlowOrder(line)), all(ints(0, 1, 2), true), "FlowOrder of a line")
	one, ok := impl.LineRiver(1)
	wantThat(t, ok, true, "LineRiver")
	dammed, ok := impl.SetDam(one, 0, impl.Dam{Size: 5})
	wantThat(t, ok, true, "SetDam")
	wantResults(t, all(impl.DayOf(dammed, ints(8))), all(single(dam(5, 0, 0, 5), 0), ints(0), ints(3), true), "DayOf")
	wantResults(t, all(impl.SplitExact(7, ints(1, 1, 1))), all(ints(3, 2, 2), true), "SplitExact")
}

func TestLimitsOfChapter6(t *testing.T) {
	got := [4]int64{impl.MaxNodes, impl.MaxDays, impl.MaxUnits, impl.MaxCrew}
	wantThat(t, got, [4]int64{12, 64, 1000000000, 8}, "limits")
	wantThat(t, math.MaxInt64/impl.MaxUnits > impl.MaxUnits, true, "products of units are integers")
}
