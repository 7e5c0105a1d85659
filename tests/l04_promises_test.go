package tests

import (
	"fmt"
	"math"
	"testing"

	"loop.example/g01302/impl"
)

// channelArgs are arguments of which each function of chapter 4 takes some.
type channelArgs struct {
	s                   impl.Section
	depth, flow, length float32
	count               int64
	works               [5]float32
}

// channelCalls are all functions of chapter 4 that can fail.
func channelCalls() []channelCall {
	list := []channelCall{
		{"NormalDepth", func(a channelArgs) []any { return all(impl.NormalDepth(a.s, a.flow)) }},
		{"CriticalDepth", func(a channelArgs) []any { return all(impl.CriticalDepth(a.s, a.flow)) }},
		{"BackStep", func(a channelArgs) []any { return all(impl.BackStep(a.s, a.depth, a.flow, a.length)) }},
		{"BackWater", func(a channelArgs) []any { return all(impl.BackWater(a.s, a.depth, a.flow, a.length, a.count)) }},
		{"IsMild", func(a channelArgs) []any { return all(impl.IsMild(a.s, a.flow)) }},
	}
	for _, f := range depthCalls {
		list = append(list, channelCall{f.name, func(a channelArgs) []any { return f.call(a.s, a.depth) }})
	}
	for _, f := range flowCalls {
		list = append(list, channelCall{f.name, func(a channelArgs) []any { return f.call(a.s, a.depth, a.flow) }})
	}
	for _, f := range worksCalls {
		list = append(list, channelCall{f.name, func(a channelArgs) []any { return f.call(a.works) }})
	}
	return list
}

type channelCall struct {
	name string
	call func(a channelArgs) []any
}

// channelTests tell all that the functions report that never fail.
func channelTests(a channelArgs) string {
	return fmt.Sprint(impl.ValidSection(a.s), impl.SameSection(a.s, a.s))
}

func TestAllChannelFunctionsSucceed(t *testing.T) {
	for _, s := range []impl.Section{ditch(), section(2, minusZero, 0.001, 0.03), section(0, 1, 0.001, 0.03), section(3, 1.5, 0.1, 0.01)} {
		a := channelArgs{s: s, flow: 4, length: 16, count: 3, works: [5]float32{1, 1, 0.5, 2, 0.25}}
		critical := must(impl.CriticalDepth(s, a.flow))
		for _, f := range channelCalls() {
			a.depth = 2 * critical
			if f.name == "JumpLoss" {
				a.depth = critical / 2
			}
			results := f.call(a)
			wantThat(t, results[len(results)-1].(bool), true, f.name, s)
		}
		wantThat(t, channelTests(a), "true true", "tests")
	}
}

// drawnChannel are arguments that are right, or nearly so, or wrong.
func drawnChannel(d *drawer) channelArgs {
	kinds := tame + int(d.next()%4)
	drawn, pick := d.orOdd, d.pick
	s, flow := d.section(kinds), d.length(kinds)
	if d.next()%2 == 0 {
		s, flow = d.channel(), d.between(0.5, 300)
	}
	depth := d.length(kinds)
	if c, ok := impl.CriticalDepth(s, flow); ok && d.next()%2 == 0 {
		depth = times(c, d.between(0.2, 4))
	}
	a := channelArgs{
		s: section(drawn(s.Wide), drawn(s.Bank), drawn(s.Slope), drawn(s.Rough)), depth: drawn(depth), flow: drawn(flow), length: drawn(d.length(kinds)),
		count: pick(ints(0, 1, 2, 7, 63, 64)),
	}
	if d.next()%8 == 0 {
		a.count = pick(ints(-1, 65, math.MaxInt64, math.MinInt64))
	}
	for i := range a.works {
		a.works[i] = drawn(d.length(kinds))
	}
	return a
}

func TestChannelFunctionsReturnForAllArgumentsAlike(t *testing.T) {
	d := drawer(440)
	calls := channelCalls()
	wantThat(t, len(calls), 24, "functions that can fail")
	n := newTally()
	for range 4000 {
		a := drawnChannel(&d)
		for _, f := range calls {
			n.callTwice(t, f.name, func() []any { return f.call(a) }, a)
		}
		wantThat(t, channelTests(a), channelTests(a), "tests again")
	}
	for _, f := range calls {
		n.wantTried(t, f.name, 400, 400)
	}
}

// Depths of one backwater must not be memory of another one, even if they are
// equal, and nothing may be left of a call that fails.
func TestBackWatersAreNewEachTime(t *testing.T) {
	first, one := impl.BackWater(ditch(), 2, 1, 16, 5)
	before := told(first)
	second, two := impl.BackWater(ditch(), 2, 1, 16, 5)
	spoil(all(second))
	none, three := impl.BackWater(ditch(), 0.1, 1, 16, 5)
	wantThat(t, one && two && !three && len(none) == 0 && told(first) == before, true, "BackWater")
	third, _ := impl.BackWater(ditch(), 2, 1, 16, 5)
	wantThat(t, told(third), before, "BackWater again")
}

func TestExamplesOfChapter4(t *testing.T) {
	s := section(2, 0, 0.001, 0.03)
	wantResults(t, all(impl.AreaAt(s, 1)), all(float32(2), true), "AreaAt")
	wantResults(t, all(impl.WetAt(s, 1)), all(float32(4), true), "WetAt")
	for _, below := range floats(0, -1, -100) {
		wantResults(t, all(impl.WeirOver(1, 0, 4, below)), all(float32(8), true), "WeirOver", below)
	}
	for _, level := range floats(0, 1, 4, 1000) {
		wantResults(t, all(impl.GateUnder(1, 0, level, 0)), all(float32(0), true), "GateUnder", level)
	}
}

func TestLimitsOfChapter4(t *testing.T) {
	wantThat(t, fmt.Sprint(impl.MaxReach), "64", "limits")
}
