package tests

import (
	"fmt"
	"testing"

	"loop.example/g01302/impl"
)

// gaugeArgs are arguments of which each function of chapter 7 takes some.
type gaugeArgs struct {
	list, other       []float32
	levels, flows     []float32
	values            []float32
	known             []bool
	r, next           impl.Record
	records           []impl.Record
	packed, stored    string
	from, to, most    int64
	size, power, zero float32
	x, share, factor  float32
}

// gaugeCalls are all functions of chapter 7 that can fail, and RecoverRecords.
var gaugeCalls = []struct {
	name string
	call func(a gaugeArgs) []any
}{
	{"FitRating", func(a gaugeArgs) []any { return all(impl.FitRating(a.levels, a.flows, a.zero)) }},
	{"RatingFlow", func(a gaugeArgs) []any { return all(impl.RatingFlow(a.size, a.power, a.zero, a.x)) }},
	{"RatingLevel", func(a gaugeArgs) []any { return all(impl.RatingLevel(a.size, a.power, a.zero, a.x)) }},
	{"RatingMiss", func(a gaugeArgs) []any { return all(impl.RatingMiss(a.levels, a.flows, a.size, a.power, a.zero)) }},
	{"FitFloods", func(a gaugeArgs) []any { return all(impl.FitFloods(a.list)) }},
	{"FloodOf", func(a gaugeArgs) []any { return all(impl.FloodOf(a.zero, a.size, a.factor)) }},
	{"YearsOf", func(a gaugeArgs) []any { return all(impl.YearsOf(a.zero, a.size, a.x)) }},
	{"RankedYears", func(a gaugeArgs) []any { return all(impl.RankedYears(a.list)) }},
	{"FlowAtShare", func(a gaugeArgs) []any { return all(impl.FlowAtShare(a.list, a.share)) }},
	{"BaseFlow", func(a gaugeArgs) []any { return all(impl.BaseFlow(a.list, a.share)) }},
	{"RecedeRate", func(a gaugeArgs) []any { return all(impl.RecedeRate(a.flows)) }},
	{"DroughtsIn", func(a gaugeArgs) []any { return all(impl.DroughtsIn(a.list, a.x)) }},
	{"FillGaps", func(a gaugeArgs) []any { return all(impl.FillGaps(a.list, a.known)) }},
	{"ScoreOf", func(a gaugeArgs) []any { return all(impl.ScoreOf(a.list, a.other)) }},
	{"BestLag", func(a gaugeArgs) []any { return all(impl.BestLag(a.list, a.other, a.most)) }},
	{"JoinRecords", func(a gaugeArgs) []any { return all(impl.JoinRecords(a.r, a.next)) }},
	{"CutRecord", func(a gaugeArgs) []any { return all(impl.CutRecord(a.r, a.from, a.to)) }},
	{"PackRecord", func(a gaugeArgs) []any { return all(impl.PackRecord(a.values)) }},
	{"UnpackRecord", func(a gaugeArgs) []any { return all(impl.UnpackRecord(a.packed)) }},
	{"StoreRecord", func(a gaugeArgs) []any { return all(impl.StoreRecord(a.r)) }},
	{"LoadRecord", func(a gaugeArgs) []any { return all(impl.LoadRecord(a.stored)) }},
	{"StoreRecords", func(a gaugeArgs) []any { return all(impl.StoreRecords(a.records)) }},
	{"RecoverRecords", func(a gaugeArgs) []any { return all(impl.RecoverRecords(a.stored + a.stored)) }},
}

// gaugeTests tell all that the functions report that never fail.
func gaugeTests(a gaugeArgs) string {
	return fmt.Sprint(impl.IsGauge(a.list), impl.ValidRecord(a.r), impl.SameRecords(a.records, a.records), impl.SameRecords(a.records, records(a.r)))
}

func TestAllGaugeFunctionsSucceed(t *testing.T) {
	stored, _ := storeOracle(record("a", 8, 2, 1, 2))
	a := gaugeArgs{
		list: floats(3, 1, 2), other: floats(1, 3, 2), levels: floats(1, 2, 3), flows: floats(1, 4, 2), values: floats(0, 1), known: []bool{true, false, true}, r: record("a", 8, 2, 1, 2), next: record("a", 12, 2, 3), records: records(record("a", 8, 2, 1), record("b", 8, 2, 1)), packed: "\x02\x00", stored: stored,
		from: 0, to: 1, most: 2, size: 3, power: 2, zero: 0, x: 2, share: 0.5, factor: 2,
	}
	for _, f := range gaugeCalls {
		results := f.call(a)
		wantThat(t, results[len(results)-1].(bool), true, f.name)
	}
	wantThat(t, gaugeTests(a), "true true true false", "tests")
}

// gaugeText tells all that arguments share with their caller.
func gaugeText(a gaugeArgs) string {
	text := told(wholeOf(a.list), wholeOf(a.other), wholeOf(a.levels), wholeOf(a.flows), wholeOf(a.values), wholeOf(a.known), a.packed, a.stored)
	for _, r := range append(records(a.r, a.next), wholeOf(a.records)...) {
		text += told(withValues(r, wholeOf(r.Values)))
	}
	return text
}

// drawnGauge are arguments that are right, or nearly so, or wrong.
func drawnGauge(d *drawer, wrong []impl.Record) gaugeArgs {
	kinds := 1 + int(d.next()%amountKinds)
	count := max(d.gaugeCount(), int(d.next()%3))
	a := gaugeArgs{
		list: d.rain(count, kinds), other: d.rain(count, kinds), levels: d.rain(count, tame), flows: d.rain(count, kinds), values: d.values(d.gaugeCount()), known: make([]bool, count), r: d.record(),
		most: int64(d.next() % uint64(count)), size: d.orOdd(d.length(tame)), power: d.orOdd(d.length(2)), zero: d.orOdd(d.signed(tame)), x: d.orOdd(d.amount(kinds)), share: d.orOdd(d.share()), factor: d.orOdd(d.between(1, 200)),
	}
	for i := range count {
		a.known[i] = d.next()%3 > 0
		a.levels[i] = plus(a.levels[i], plus(abs(a.zero), 1))
		if a.flows[i] == 0 {
			a.flows[i] = d.length(kinds)
		}
	}
	a.from, a.to = int64(d.next()%uint64(len(a.r.Values))), int64(d.next()%uint64(len(a.r.Values)+2))
	a.next = withValues(a.r, d.values(1+int(d.next()%9)))
	a.next.Start += int64(len(a.r.Values)) * a.r.Step
	for range d.next() % 9 {
		a.records = append(a.records, d.record())
	}
	if d.next()%12 == 0 {
		a.r, a.next = wrong[d.next()%uint64(len(wrong))], wrong[d.next()%uint64(len(wrong))]
		a.records = append(a.records, a.r)
	}
	a.packed, _ = packOracle(a.values)
	a.stored, _ = storeOracle(a.r)
	d.bend(&a, count)
	a.list, a.other, a.levels, a.flows, a.values, a.known = roomy(a.list, -7), roomy(a.other, -7), roomy(a.levels, -7), roomy(a.flows, -7), roomy(a.values, -7), roomy(a.known, true)
	a.r, a.next, a.records = roomyRecord(a.r), roomyRecord(a.next), roomy(a.records, record("x", 7, 7, 7))
	for i := range a.records {
		a.records[i] = roomyRecord(a.records[i])
	}
	return a
}

// bend makes some of these arguments wrong, sometimes.
func (d *drawer) bend(a *gaugeArgs, count int) {
	switch at := d.next() % uint64(count); d.next() % 12 {
	case 0:
		a.list[at], a.other[at], a.levels[at], a.flows[at] = d.orOdd(infinity), d.orOdd(-1), d.orOdd(minusInf), d.orOdd(0)
	case 1:
		a.list, a.flows, a.values = evenList(impl.MaxGauge+1, 1), evenList(impl.MaxGauge+1, 1), evenList(impl.MaxGauge+1, 1)
		a.known, a.levels = make([]bool, impl.MaxGauge+1), rising(impl.MaxGauge+1)
		a.records = alike(impl.MaxRecords+1, a.r)
	case 2:
		a.list, a.levels, a.values, a.packed, a.stored = nil, nil, nil, "", ""
	case 3:
		a.other, a.known, a.flows = a.other[1:], a.known[1:], a.flows[1:]
	case 4:
		a.from, a.to, a.most = d.pick(notUnits()), d.pick(notUnits()), d.pick(notUnits())
	case 5:
		a.next.Start += d.pick(ints(1, -1, 1<<32))
		a.packed, a.stored = a.packed[1:], a.stored[:len(a.stored)/2]
	case 6:
		a.packed += "\x80"
		a.stored += "RIV1"
	}
}

func TestGaugeFunctionsReturnForAllArgumentsAndChangeNone(t *testing.T) {
	d := drawer(750)
	n := newTally()
	wrong := wrongRecords()
	for range 4000 {
		a := drawnGauge(&d, wrong)
		before := gaugeText(a)
		for _, f := range gaugeCalls {
			n.callTwice(t, f.name, func() []any { return f.call(a) }, before)
		}
		wantThat(t, gaugeTests(a), gaugeTests(a), "tests again")
		wantThat(t, gaugeText(a), before, "arguments behind all calls")
	}
	for _, f := range gaugeCalls {
		if f.name == "RecoverRecords" {
			n.wantTried(t, f.name, 4000, 0)
		} else {
			n.wantTried(t, f.name, 500, 200)
		}
	}
}

// No list of a result is part of an argument, also where nothing is done with it.
func TestGaugesThatStayAreNewOnes(t *testing.T) {
	list, r, next := floats(3, 1, 2), record("a", 8, 2, 1, 2), record("a", 12, 2, 3)
	before := told(list, r, next)
	slow, _ := impl.BaseFlow(list, 0)
	first, _ := impl.BaseFlow(list[:1], 1)
	filled, _ := impl.FillGaps(list, []bool{true, true, true})
	whole, _ := impl.CutRecord(r, 0, 2)
	end, _ := impl.CutRecord(r, 1, 2)
	joined, _ := impl.JoinRecords(r, next)
	spoil(all(slow, first, filled, whole, end, joined))
	wantThat(t, told(list, r, next), before, "arguments")
}

// The lists of one result must not share memory either, nor those of two calls.
func TestListsOfOneGaugeAreApart(t *testing.T) {
	order, years, _ := impl.RankedYears(floats(3, 1, 2))
	before := told(years)
	spoil(all(order))
	wantThat(t, told(years), before, "RankedYears")
	s, _ := impl.StoreRecords(alike(impl.MaxRecords, record("a", 8, 2, 1, 2)))
	list, _, _ := impl.RecoverRecords(s)
	for i := range list {
		others := append(append(records(), list[:i]...), list[i+1:]...)
		before = told(others)
		spoil(all(list[i]))
		wantThat(t, told(others), before, "RecoverRecords", i)
	}
}

func TestExamplesOfChapter7(t *testing.T) {
	size, power, ok := impl.FitRating(floats(1, 2), floats(1, 4), 0)
	wantThat(t, ok && isClose(size, 1, 1e-6) && isClose(power, 2, 1e-6), true, "FitRating", size, power)
	wantResults(t, all(impl.RankedYears(floats(3, 1, 2))), all(ints(0, 2, 1), floats(4, 2, number(0x3faaaaab)), true), "RankedYears")
	wantResults(t, all(impl.PackRecord(floats(0, 0, minusZero))), all("\x00\x00\xff\xff\xff\xff\x0f", true), "PackRecord")
}

func TestLimitsOfChapter7(t *testing.T) {
	wantThat(t, [2]int64{impl.MaxGauge, impl.MaxRecords}, [2]int64{128, 8}, "limits")
}
