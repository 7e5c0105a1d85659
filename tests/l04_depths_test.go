package tests

import (
	"testing"

	"loop.example/g01302/impl"
)

// narrow is so small a depth that its numbers are no longer halved to ones next
// to each other.
const narrow = 0.05

// searches are the functions of a section and a flow.
var searches = []struct {
	name string
	call func(s impl.Section, flow float32) (float32, bool)
	told func(s impl.Section, flow float32) float32
}{
	{"NormalDepth", impl.NormalDepth, normalOracle},
	{"CriticalDepth", impl.CriticalDepth, criticalOracle},
}

func TestDepthsOfFlowsByHand(t *testing.T) {
	square, ditch, pit := section(4, 0, 0.25, 0.5), ditch(), section(0, tiniest, 1, 1)
	least := over(1000, 1<<40) // where all halves are the lower ones
	for _, c := range []struct {
		s                      impl.Section
		flow, normal, critical float32
	}{
		// the least and the greatest depths that are found
		{ditch, tiniest, least, least}, {square, 1e30, 1000, 1000}, {ditch, greatest, 1000, 1000}, {section(0, 1, 0.25, 0.5), 1e15, 1000, 1000}, {section(0, 1, 0.25, 0.5), greatest, 1000, 1000},
		{section(1e10, 0, 1, 1), 1e-30, least, least}, {section(1e-30, 0, 1, 1), 1, 1000, 1000}, {pit, tiniest, 1000, 1000}, {pit, greatest, 1000, 1000},
		{section(1, 0, 1, tiniest), 1, notANumber, criticalOracle(section(1, 0, 1, 1), 1)}, {section(1, 0, tiniest, greatest), 1, 1000, criticalOracle(section(1, 0, 1, 1), 1)},
		// the third power of the area is infinite, and the other side is, or is not
		{section(1e13, 0, 1e-8, 1e8), 1e-30, least, least}, {section(1e13, 0, 1e-8, 1e8), 1e19, 1000, 1000}, {section(1e13, 0, 1e-8, 1e8), 1e18, 1000, 1000}, {section(1e35, 0, tiniest, greatest), greatest, notANumber, 1000}, {section(1e35, 0, tiniest, greatest), 1, notANumber, least},
		{section(6e35, 0, 1, 1), 1e20, notANumber, notANumber}, {section(6e35, 0, 1, 1), 1, notANumber, least},
		// nothing is carried at 500 that is finite: too wide, or with too much of a bank
		{section(greatest, 0, 1, 1), 1, notANumber, notANumber}, {section(1, greatest, 1, 1), 1, notANumber, notANumber}, {section(1, 1e36, 1, 1), 1, notANumber, notANumber}, {section(1, 1e20, 1, 1), 1e20, notANumber, criticalOracle(section(1, 1e20, 1, 1), 1e20)},
	} {
		wantTold(t, all(impl.NormalDepth(c.s, c.flow)), c.normal, "NormalDepth", c.s, c.flow)
		wantTold(t, all(impl.CriticalDepth(c.s, c.flow)), c.critical, "CriticalDepth", c.s, c.flow)
	}
	// 8 flow at 2, but less than 2 is not more than 2
	deep, ok := impl.NormalDepth(square, 8)
	wantThat(t, ok && deep > 2 && deep < number(0x40000004), true, "NormalDepth of 8", deep)
	deep, ok = impl.NormalDepth(square, under(8))
	wantThat(t, ok && deep > number(0x3ffffffc) && deep <= 2, true, "NormalDepth of less than 8", deep)
	// 9.81 flow times the flow at 1
	deep, ok = impl.CriticalDepth(section(1, 0, 0.25, 0.5), root(9.81))
	wantThat(t, ok && deep > number(0x3f7ffffc) && deep < number(0x3f800004), true, "CriticalDepth", deep)
}

// All halves that are looked at must be told, but no others.
func TestNormalDepthFailsWhereFlowAtDoes(t *testing.T) {
	// The flow is finite at 500, but infinite at 750.
	rough := over(must(impl.FlowAt(section(2, 0, 1, 1), 500)), 3e38)
	s := section(2, 0, 1, rough)
	wantThat(t, finite(must(impl.FlowAt(s, 500))) && !finite(must(impl.FlowAt(s, 750))), true, "flows", rough)
	wantTold(t, all(impl.NormalDepth(s, 1e38)), normalOracle(s, 1e38), "NormalDepth below 500", s)
	wantThat(t, must(impl.NormalDepth(s, 1e38)) < 500, true, "NormalDepth below 500", s)
	wantTold(t, all(impl.NormalDepth(s, greatest)), notANumber, "NormalDepth above 500", s)
	wantResults(t, all(impl.IsMild(s, greatest)), all(false, false), "IsMild", s)
}

func TestSearchesOfAllKinds(t *testing.T) {
	d := drawer(410)
	for n := range 5000 {
		kinds := tame + n%4
		s, flow := d.section(kinds), d.length(kinds)
		for _, f := range searches {
			wantTold(t, all(f.call(s, flow)), f.told(s, flow), f.name, s, flow)
		}
		normal, critical := normalOracle(s, flow), criticalOracle(s, flow)
		good := normal == normal && critical == critical
		wantResults(t, all(impl.IsMild(s, flow)), all(good && normal > critical, good), "IsMild", s, flow)
	}
}

// The depth that is found is the least one at which more would flow, and
// nearly the flow itself.
func TestChannelsCarryFlowsAtTheirNormalDepths(t *testing.T) {
	d := drawer(411)
	for range 3000 {
		s, flow := d.channel(), d.between(0.5, 300)
		depth, ok := impl.NormalDepth(s, flow)
		if !ok || depth < narrow || depth > 900 {
			t.Fatalf("the normal depth of %v in %v is %v", flow, s, depth)
		}
		wantThat(t, must(impl.FlowAt(s, depth)) > flow && must(impl.FlowAt(s, under(depth))) <= flow, true, "NormalDepth", s, flow)
		wantThat(t, isClose(must(impl.FlowAt(s, depth)), flow, 1e-5), true, "FlowAt NormalDepth", s, flow)
		wantThat(t, isClose(must(impl.SteepnessAt(s, depth, flow)), s.Slope, 1e-5), true, "SteepnessAt NormalDepth", s, flow)
		again, ok := impl.NormalDepth(s, must(impl.FlowAt(s, depth)))
		wantThat(t, ok && isClose(again, depth, 1e-5), true, "NormalDepth of FlowAt", s, depth)
	}
}

func TestCriticalDepths(t *testing.T) {
	d := drawer(412)
	milds := 0
	for range 3000 {
		s, flow := d.channel(), d.between(0.5, 300)
		depth, ok := impl.CriticalDepth(s, flow)
		if !ok || depth < narrow || depth > 100 {
			t.Fatalf("the critical depth of %v in %v is %v", flow, s, depth)
		}
		a, b := heavyOracle(s, depth, flow)
		wantThat(t, a > b, true, "CriticalDepth", s, flow)
		a, b = heavyOracle(s, under(depth), flow)
		wantThat(t, a <= b, true, "CriticalDepth is least", s, flow)
		wantThat(t, isClose(must(impl.SwiftnessAt(s, depth, flow)), 1, 1e-5), true, "SwiftnessAt CriticalDepth", s, flow)
		for _, other := range floats(0.9, 1.1) {
			wantThat(t, must(impl.HeadAt(s, depth, flow)) < must(impl.HeadAt(s, depth*other, flow)), true, "HeadAt is least at CriticalDepth", s, flow)
			wantThat(t, must(impl.PushAt(s, depth, flow)) < must(impl.PushAt(s, depth*other, flow)), true, "PushAt is least at CriticalDepth", s, flow)
		}
		mild, ok := impl.IsMild(s, flow)
		normal := must(impl.NormalDepth(s, flow))
		wantThat(t, ok && mild == (normal > depth) && mild == (must(impl.FlowAt(s, depth)) <= flow), true, "IsMild", s, flow)
		if mild {
			milds++
		}
	}
	wantThat(t, milds > 500 && milds < 2500, true, "IsMild is tried with channels of both kinds", milds)
}

func TestIsMildByHand(t *testing.T) {
	for _, c := range []struct {
		s    impl.Section
		flow float32
		mild bool
		ok   bool
	}{
		{ditch(), 1, true, true}, {section(2, 0, 0.1, 0.01), 1, false, true}, {section(4, 0, 0.25, 0.5), 8, true, true},
		{ditch(), greatest, false, true}, {ditch(), tiniest, false, true}, // both depths are equal
		{section(1, 0, 1, tiniest), 1, false, false}, {section(greatest, 0, 1, 1), 1, false, false},
	} {
		wantResults(t, all(impl.IsMild(c.s, c.flow)), all(c.mild, c.ok), "IsMild", c.s, c.flow)
	}
}

func TestSearchesFail(t *testing.T) {
	for _, f := range searches {
		for _, s := range invalidSections() {
			wantTold(t, all(f.call(s, 1)), notANumber, f.name, s)
			wantResults(t, all(impl.IsMild(s, 1)), all(false, false), "IsMild", s)
		}
		for _, x := range nonPositive() {
			wantTold(t, all(f.call(ditch(), x)), notANumber, f.name+" of the flow", x)
			wantResults(t, all(impl.IsMild(ditch(), x)), all(false, false), "IsMild of the flow", x)
		}
	}
}

// crossings are the functions that lead to the other side of the critical depth, by
// what is the same there.
var crossings = []struct {
	name        string
	call, level func(s impl.Section, depth, flow float32) (float32, bool)
	told        func(s impl.Section, depth, flow float32) float32
}{
	{"OtherDepth", impl.OtherDepth, impl.HeadAt, headOracle},
	{"JumpDepth", impl.JumpDepth, impl.PushAt, pushOracle},
}

func TestOtherSides(t *testing.T) {
	d := drawer(413)
	for n := range 3000 {
		s, flow := d.channel(), d.between(0.5, 300)
		c := must(impl.CriticalDepth(s, flow))
		depth := times(c, d.between(0.4, 0.95))
		if n%2 == 0 {
			depth = times(c, d.between(1.05, 2))
		}
		for _, f := range crossings {
			other, ok := f.call(s, depth, flow)
			if !ok || other < narrow || other > 900 {
				t.Fatalf("%s of %v of %v in %v is %v", f.name, depth, flow, s, other)
			}
			same := must(f.level(s, depth, flow))
			wantThat(t, isClose(must(f.level(s, other, flow)), same, 1e-5), true, f.name+" has the same", s, depth, flow)
			if depth < c {
				wantThat(t, other > c && must(f.level(s, other, flow)) <= same && must(f.level(s, above(other), flow)) > same, true, f.name+" is the last one", s, depth, flow)
			} else {
				wantThat(t, other < c && must(f.level(s, other, flow)) < same && must(f.level(s, under(other), flow)) >= same, true, f.name+" is the first one", s, depth, flow)
			}
			wantThat(t, isClose(must(f.call(s, other, flow)), depth, 1e-3), true, f.name+" leads back", s, depth, flow)
		}
	}
}

// Around the critical depth, it depends on the last bit which side is searched.
func TestSidesAtTheCriticalDepth(t *testing.T) {
	d := drawer(414)
	for n := range 1500 {
		s, flow := d.channel(), d.between(0.5, 300)
		if n%3 == 0 {
			s, flow = d.section(tame), d.length(tame)
		}
		c := criticalOracle(s, flow)
		if c != c {
			continue
		}
		for _, depth := range floats(c, above(c), under(c)) {
			for _, f := range crossings {
				wantTold(t, all(f.call(s, depth, flow)), otherOracle(s, depth, flow, f.told), f.name, s, depth, flow)
				if n%3 > 0 {
					other := must(f.call(s, depth, flow))
					wantThat(t, isClose(other, c, 0.01), true, f.name+" at the critical depth", s, depth, flow)
					wantThat(t, depth < c && other >= c || depth >= c && other <= c, true, f.name+" on its side", s, depth, flow)
				}
			}
			wantTold(t, all(impl.JumpLoss(s, depth, flow)), lossOracle(s, depth, flow), "JumpLoss", s, depth, flow)
		}
		for _, depth := range floats(c, above(c), 2*c) {
			wantTold(t, all(impl.JumpLoss(s, depth, flow)), notANumber, "JumpLoss of no jump", s, depth, flow)
		}
		if n%3 > 0 {
			loss, ok := impl.JumpLoss(s, under(c), flow)
			wantThat(t, ok && loss < 1e-3*c && loss > -1e-3*c, true, "JumpLoss just below the critical depth", s, flow)
		}
	}
}

func TestSidesAtTheirEnds(t *testing.T) {
	ditch := ditch()
	for _, c := range []struct {
		s                   impl.Section
		depth, flow         float32
		other, behind, loss float32
	}{
		// the critical depth is the greatest one
		{ditch, 999, 1e17, 1000, 1000, less(headOracle(ditch, 999, 1e17), headOracle(ditch, 1000, 1e17))},
		{ditch, 1000, 1e17, 1000, 1000, notANumber}, {ditch, 1001, 1e17, 1000, 1000, notANumber},
		// nothing on the other side is as great, up to the greatest depth, and down to the least one
		{ditch, 1e-7, 4, 1000, 1000, less(headOracle(ditch, 1e-7, 4), headOracle(ditch, 1000, 4))},
		{ditch, 1e7, 4, above(0.001), above(0.001), notANumber},
		// the critical depth is less than the least depth that is searched
		{ditch, 1, 1e-8, otherOracle(ditch, 1, 1e-8, headOracle), otherOracle(ditch, 1, 1e-8, pushOracle), notANumber},
		// a speed that is tried is too great
		{section(0.1, 0, 1, 1), 3e38, 1e17, notANumber, notANumber, notANumber},
		// the area is infinite at a depth that is tried
		{section(1, 6e32, 1, 1), 1, 1e25, notANumber, notANumber, notANumber},
		// there is no critical depth, but a head
		{section(6e35, 0, 1, 1), 100, 1e20, notANumber, notANumber, notANumber},
		// the speed of the depth itself is too great, where it is a square
		{ditch, 1e-20, 4, notANumber, 1000, notANumber},
	} {
		wantTold(t, all(impl.OtherDepth(c.s, c.depth, c.flow)), c.other, "OtherDepth", c.s, c.depth, c.flow)
		wantTold(t, all(impl.JumpDepth(c.s, c.depth, c.flow)), c.behind, "JumpDepth", c.s, c.depth, c.flow)
		wantTold(t, all(impl.JumpLoss(c.s, c.depth, c.flow)), c.loss, "JumpLoss", c.s, c.depth, c.flow)
	}
}

// Without banks, a jump is told by two formulas.
func TestJumpsWithoutBanks(t *testing.T) {
	d := drawer(415)
	for range 2000 {
		s, flow := section(d.between(1, 20), floats(0, minusZero)[d.next()%2], 0.01, 0.03), d.between(0.5, 300)
		depth := times(must(impl.CriticalDepth(s, flow)), d.between(0.3, 0.8))
		swift := must(impl.SwiftnessAt(s, depth, flow))
		behind := depth / 2 * (root(1+8*swift*swift) - 1)
		wantThat(t, isClose(must(impl.JumpDepth(s, depth, flow)), behind, 1e-4), true, "JumpDepth", s, depth, flow)
		rise := behind - depth
		wantThat(t, isClose(must(impl.JumpLoss(s, depth, flow)), rise*rise*rise/(4*depth*behind), 0.01), true, "JumpLoss", s, depth, flow)
	}
}
