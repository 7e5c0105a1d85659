package tests

import (
	"testing"

	"loop.example/g01302/impl"
)

var noSection impl.Section

func TestValidSections(t *testing.T) {
	for _, x := range sampleNumbers(200) {
		for _, s := range []impl.Section{section(x, 1, 1, 1), section(1, x, 1, 1), section(1, 1, x, 1), section(1, 1, 1, x), section(x, 0, 1, 1), section(0, x, 1, 1), section(x, x, x, x), section(minusZero, x, 1, 1), section(x, minusZero, 1, 1)} {
			wantThat(t, impl.ValidSection(s), validSectionOracle(s), "ValidSection", s)
		}
	}
	for _, s := range []impl.Section{
		ditch(), section(2, minusZero, 1, 1), section(0, 1, 1, 1), section(minusZero, 1, 1, 1), section(tiniest, 0, 1, 1), section(0, tiniest, 1, 1), section(tiniest, tiniest, tiniest, tiniest), section(greatest, greatest, greatest, greatest), section(1, 1, tiniest, greatest), section(1, 1, greatest, tiniest),
	} {
		wantThat(t, impl.ValidSection(s), true, "ValidSection", s)
	}
	for _, s := range invalidSections() {
		wantThat(t, impl.ValidSection(s), false, "ValidSection", s)
	}
}

func TestSameSections(t *testing.T) {
	a := section(1, notANumber, minusZero, infinity)
	wantThat(t, impl.SameSection(a, section(1, number(0xff800001), minusZero, infinity)), true, "SameSection with other not-a-numbers")
	for _, b := range []impl.Section{section(2, notANumber, minusZero, infinity), section(1, 1, minusZero, infinity), section(1, notANumber, 0, infinity), section(1, notANumber, minusZero, minusInf), section(notANumber, 1, minusZero, infinity), section(1, notANumber, infinity, minusZero)} {
		wantThat(t, impl.SameSection(a, b) || impl.SameSection(b, a), false, "SameSection", a, b)
	}
	wantThat(t, impl.SameSection(noSection, section(0, 0, 0, 0)), true, "SameSection of invalid ones")
	for _, b := range []impl.Section{section(minusZero, 0, 0, 0), section(0, minusZero, 0, 0), section(0, 0, minusZero, 0), section(0, 0, 0, minusZero)} {
		wantThat(t, impl.SameSection(noSection, b) || !impl.SameSection(b, b), false, "SameSection of zeros", b)
	}
	wantThat(t, impl.SameSection(section(2, minusZero, 1, 1), section(2, 0, 1, 1)), false, "SameSection of two channels without banks")
}

// shapeCases have the area, how much is wet, and the top at a depth: no number
// stands for what fails.
var shapeCases = []struct {
	s                     impl.Section
	depth, area, wet, top float32
}{
	{section(2, 0, 1, 1), 1, 2, 4, 2}, {section(2, minusZero, 1, 1), 1, 2, 4, 2}, {section(4, 0, 1, 1), 2, 8, 8, 4}, {section(0.5, 0, 1, 1), 0.25, 0.125, 1, 0.5},
	{section(2, 0.75, 1, 1), 2, 7, 7, 5}, {section(0, 0.75, 1, 1), 4, 12, 10, 6}, {section(minusZero, 0.75, 1, 1), 4, 12, 10, 6}, {section(1, 1, 1, 1), 1, 2, plus(1, times(2, root(2))), 3}, {section(3, 2, 1, 1), 0.5, 2, plus(3, root(5)), 5},
	// Slope and Rough, however great, change no shape
	{section(2, 0.75, tiniest, greatest), 2, 7, 7, 5}, {section(2, 0.75, greatest, tiniest), 2, 7, 7, 5},
	// subnormal ones
	{section(tiniest, 0, 1, 1), 1, tiniest, 2, tiniest}, {section(tiniest, 0, 1, 1), 0.5, 0, 1, tiniest}, {section(tiniest, 0, 1, 1), 0.75, tiniest, 1.5, tiniest}, {section(2, 0, 1, 1), tiniest, number(2), 2, 2}, {section(0, 1, 1, 1), tiniest, 0, number(3), number(2)}, {section(0, 1, 1, 1), 1e-30, 0, times(2e-30, root(2)), 2e-30}, {section(0, tiniest, 1, 1), 0.25, 0, 0.5, 0}, {section(0, tiniest, 1, 1), 1, tiniest, 2, number(2)},
	// great ones
	{section(greatest, 0, 1, 1), 1, greatest, greatest, greatest}, {section(greatest, 0, 1, 1), 1.5, notANumber, greatest, greatest}, {section(1, 0, 1, 1), greatest, greatest, notANumber, 1}, {section(1, 0, 1, 1), 1.5e38, 1.5e38, 3e38, 1}, {section(1, 0, 1, 1), 2e38, 2e38, notANumber, 1},
	{section(1, 1, 1, 1), 1e20, notANumber, times(2e20, root(2)), 2e20}, {section(1, 1e19, 1, 1), 1, 1e19, times(2, root(times(1e19, 1e19))), 2e19}, {section(1, 1e20, 1, 1), 1e-10, times(1e-10, plus(1, times(1e20, 1e-10))), notANumber, plus(1, times(2e20, 1e-10))}, {section(0, 1e20, 1, 1), tiniest, 0, notANumber, times(2e20, tiniest)},
	// the product begins at the left, and is infinite there
	{section(1, 2e38, 1, 1), 0.5, times(0.5, plus(1, 1e38)), notANumber, notANumber}, {section(1, 1e38, 1, 1), 0.5, times(0.5, plus(1, 5e37)), notANumber, plus(1, 1e38)}, {section(3e38, 1e38, 1, 1), 1, notANumber, notANumber, notANumber}, {section(0, greatest, 1, 1), tiniest, 0, notANumber, notANumber},
}

func TestShapesByHand(t *testing.T) {
	for _, c := range shapeCases {
		wantTold(t, all(impl.AreaAt(c.s, c.depth)), c.area, "AreaAt", c.s, c.depth)
		wantTold(t, all(impl.WetAt(c.s, c.depth)), c.wet, "WetAt", c.s, c.depth)
		wantTold(t, all(impl.TopAt(c.s, c.depth)), c.top, "TopAt", c.s, c.depth)
		wantTold(t, all(impl.MiddleAt(c.s, c.depth)), over(c.area, c.wet), "MiddleAt", c.s, c.depth)
	}
}

func TestChannelsWithoutBanks(t *testing.T) {
	d := drawer(401)
	for range 1000 {
		wide, depth, flow := d.length(tame), d.length(tame), d.length(tame)
		plain, minus := section(wide, 0, 0.01, 0.03), section(wide, minusZero, 0.01, 0.03)
		wantResults(t, all(impl.AreaAt(minus, depth)), all(times(depth, wide), true), "AreaAt", minus, depth)
		wantResults(t, all(impl.WetAt(minus, depth)), all(plus(wide, times(2, depth)), true), "WetAt", minus, depth)
		wantResults(t, all(impl.TopAt(minus, depth)), all(wide, true), "TopAt", minus, depth)
		for _, f := range flowCalls {
			wantResults(t, f.call(minus, depth, flow), f.call(plain, depth, flow), f.name+" with the Bank -0", wide, depth, flow)
		}
	}
}

func TestFlowAtByHand(t *testing.T) {
	for _, c := range []struct {
		s           impl.Section
		depth, want float32
	}{
		// the middle is 1, whose powers are 1
		{section(4, 0, 0.25, 0.5), 2, 8}, {section(4, 0, 4, 0.5), 2, 32}, {section(4, 0, 0.25, 4), 2, 1}, {section(4, minusZero, 0.25, 0.5), 2, 8}, {section(4, 0, 2, 0.5), 2, times(16, root(2))},
		{ditch(), 1, over(times(times(2, powerBits(0.5, twoThirdsBits)), 0.03125), 0.03125)},
		// there is hardly an area
		{section(tiniest, 0, 1, 1), 0.5, 0}, {section(0, 1, 1, 1), tiniest, 0}, {section(0, 1, 1, tiniest), 1e-30, 0}, {section(0, 1, greatest, tiniest), 1e-30, 0},
		// Slope and Rough are subnormal or very great
		{section(4, 0, tiniest, 0.5), 2, times(16, root(tiniest))}, {section(4, 0, greatest, 0.5), 2, times(16, root(greatest))}, {section(4, 0, 0.25, greatest), 2, over(4, greatest)}, {section(4, 0, 0.25, 1e-38), 2, notANumber}, {section(4, 0, 0.25, tiniest), 2, notANumber}, {section(4, 0, tiniest, tiniest), 2, over(times(8, root(tiniest)), tiniest)}, {section(4, 0, tiniest, greatest), 2, 0}, {section(4, 0, greatest, greatest), 2, over(times(8, root(greatest)), greatest)},
		// the product is infinite before it is divided
		{section(1e30, 0, 1e38, 1e30), 2, notANumber}, {section(1e30, 0, 1e10, 1e30), 2, over(times(times(2e30, powerBits(over(2e30, plus(1e30, 4)), twoThirdsBits)), 1e5), 1e30)},
		// the area is infinite, or how much is wet
		{section(greatest, 0, 1, 1), 2, notANumber}, {section(1, 1e20, 1, 1), 1e-10, notANumber}, {section(1, 0, 1, 1), 2e38, notANumber},
	} {
		wantTold(t, all(impl.FlowAt(c.s, c.depth)), c.want, "FlowAt", c.s, c.depth)
	}
}

func TestFlowsAtADepthByHand(t *testing.T) {
	square := section(4, 0, 0.25, 0.5) // of the area 8, the middle 1, and the speed 2 for 16
	trough := section(2, 3, 1, 1)      // of the area 16 at 2
	for _, c := range []struct {
		name              string
		call              func(s impl.Section, depth, flow float32) (float32, bool)
		s                 impl.Section
		depth, flow, want float32
	}{
		{name: "SpeedAt", call: impl.SpeedAt, s: square, depth: 2, flow: 16, want: 2},
		{name: "SpeedAt", call: impl.SpeedAt, s: trough, depth: 2, flow: 8, want: 0.5},
		{name: "SpeedAt", call: impl.SpeedAt, s: square, depth: 2, flow: tiniest, want: 0},
		{name: "SpeedAt", call: impl.SpeedAt, s: square, depth: 2, flow: greatest, want: over(greatest, 8)},
		{name: "SpeedAt", call: impl.SpeedAt, s: section(0, 1, 1, 1), depth: 1e-30, flow: tiniest, want: notANumber}, // the area is 0
		{name: "SpeedAt", call: impl.SpeedAt, s: square, depth: 1e-10, flow: greatest, want: notANumber},
		{name: "SpeedAt", call: impl.SpeedAt, s: section(1, 1, 1, 1), depth: 1e20, flow: 1, want: notANumber}, // the area is infinite
		{name: "SwiftnessAt", call: impl.SwiftnessAt, s: square, depth: 2, flow: 16, want: over(2, root(19.62))},
		{name: "SwiftnessAt", call: impl.SwiftnessAt, s: trough, depth: 2, flow: 8, want: over(0.5, root(times(9.81, over(16, 14))))},
		{name: "SwiftnessAt", call: impl.SwiftnessAt, s: section(1, 0, 1, 1), depth: 1e38, flow: 1e38, want: 0}, // its root is infinite
		{name: "SwiftnessAt", call: impl.SwiftnessAt, s: section(0, 1, 1, 1), depth: 1e-30, flow: 1, want: notANumber},
		{name: "SwiftnessAt", call: impl.SwiftnessAt, s: section(1, 2e38, 1, 1), depth: 0.5, flow: 1, want: notANumber}, // the top is infinite
		{name: "HeadAt", call: impl.HeadAt, s: square, depth: 2, flow: 16, want: plus(2, over(4, 19.62))},
		{name: "HeadAt", call: impl.HeadAt, s: trough, depth: 2, flow: 64, want: plus(2, over(16, 19.62))},
		{name: "HeadAt", call: impl.HeadAt, s: section(1, 0, 1, 1), depth: 1, flow: 1e19, want: over(times(1e19, 1e19), 19.62)},
		{name: "HeadAt", call: impl.HeadAt, s: section(1, 0, 1, 1), depth: 1, flow: 2e19, want: notANumber}, // the square is infinite
		{name: "HeadAt", call: impl.HeadAt, s: section(1, 0, 1, 1), depth: greatest, flow: 1, want: greatest},
		{name: "PushAt", call: impl.PushAt, s: square, depth: 2, flow: 16, want: plus(times(9.81, 8), 32)},
		{name: "PushAt", call: impl.PushAt, s: trough, depth: 2, flow: 8, want: plus(times(9.81, 12), 4)},
		{name: "PushAt", call: impl.PushAt, s: section(0, 1.5, 1, 1), depth: 2, flow: 6, want: plus(times(9.81, 4), 6)},
		{name: "PushAt", call: impl.PushAt, s: section(1, 0, 1, 1), depth: 5e18, flow: 1, want: times(9.81, times(times(5e18, 5e18), 0.5))},
		{name: "PushAt", call: impl.PushAt, s: section(1, 0, 1, 1), depth: 1e20, flow: 1, want: notANumber}, // the square of the depth is infinite
		{name: "PushAt", call: impl.PushAt, s: section(1, 0, 1, 1), depth: 1, flow: 2e19, want: notANumber},
		{name: "SteepnessAt", call: impl.SteepnessAt, s: square, depth: 2, flow: 16, want: 1},
		{name: "SteepnessAt", call: impl.SteepnessAt, s: square, depth: 2, flow: 8, want: 0.25},
		{name: "SteepnessAt", call: impl.SteepnessAt, s: section(4, 0, 7, 0.125), depth: 2, flow: 32, want: 0.25},
		{name: "SteepnessAt", call: impl.SteepnessAt, s: section(2, 0, 1, 1), depth: 1, flow: 2, want: over(1, powerBits(0.5, fourThirdsBits))},
		{name: "SteepnessAt", call: impl.SteepnessAt, s: section(4, 0, 1, greatest), depth: 2, flow: 8, want: notANumber},
		{name: "SteepnessAt", call: impl.SteepnessAt, s: section(4, 0, 1, tiniest), depth: 2, flow: 8, want: 0},
		{name: "SteepnessAt", call: impl.SteepnessAt, s: section(tiniest, 0, 1, 1), depth: 1, flow: tiniest, want: notANumber}, // the power of the middle is 0
		{name: "SteepnessAt", call: impl.SteepnessAt, s: section(1, 1e20, 1, 1), depth: 1e-10, flow: 1, want: notANumber},      // what is wet is infinite
	} {
		wantTold(t, all(c.call(c.s, c.depth, c.flow)), c.want, c.name, c.s, c.depth, c.flow)
	}
}

// depthCalls are the functions of a section and a depth.
var depthCalls = []struct {
	name string
	call func(s impl.Section, depth float32) []any
	told func(s impl.Section, depth float32) float32
}{
	{"AreaAt", func(s impl.Section, depth float32) []any { return all(impl.AreaAt(s, depth)) }, areaOracle},
	{"WetAt", func(s impl.Section, depth float32) []any { return all(impl.WetAt(s, depth)) }, wetOracle},
	{"TopAt", func(s impl.Section, depth float32) []any { return all(impl.TopAt(s, depth)) }, topOracle},
	{"MiddleAt", func(s impl.Section, depth float32) []any { return all(impl.MiddleAt(s, depth)) }, middleOracle},
	{"FlowAt", func(s impl.Section, depth float32) []any { return all(impl.FlowAt(s, depth)) }, carriedOracle},
}

// flowCalls are the functions of a section, a depth and a flow.
var flowCalls = []struct {
	name string
	call func(s impl.Section, depth, flow float32) []any
	told func(s impl.Section, depth, flow float32) float32
}{
	{"SpeedAt", func(s impl.Section, depth, flow float32) []any { return all(impl.SpeedAt(s, depth, flow)) }, speedOracle},
	{"SwiftnessAt", func(s impl.Section, depth, flow float32) []any { return all(impl.SwiftnessAt(s, depth, flow)) }, swiftOracle},
	{"HeadAt", func(s impl.Section, depth, flow float32) []any { return all(impl.HeadAt(s, depth, flow)) }, headOracle},
	{"PushAt", func(s impl.Section, depth, flow float32) []any { return all(impl.PushAt(s, depth, flow)) }, pushOracle},
	{"SteepnessAt", func(s impl.Section, depth, flow float32) []any { return all(impl.SteepnessAt(s, depth, flow)) }, steepOracle},
	{"OtherDepth", func(s impl.Section, depth, flow float32) []any { return all(impl.OtherDepth(s, depth, flow)) }, func(s impl.Section, depth, flow float32) float32 { return otherOracle(s, depth, flow, headOracle) }},
	{"JumpDepth", func(s impl.Section, depth, flow float32) []any { return all(impl.JumpDepth(s, depth, flow)) }, func(s impl.Section, depth, flow float32) float32 { return otherOracle(s, depth, flow, pushOracle) }},
	{"JumpLoss", func(s impl.Section, depth, flow float32) []any { return all(impl.JumpLoss(s, depth, flow)) }, lossOracle},
}

func TestSectionsOfAllKinds(t *testing.T) {
	d := drawer(402)
	for n := range 6000 {
		kinds := tame + n%4
		s, depth, flow := d.section(kinds), d.length(kinds), d.length(kinds)
		if n%3 == 0 {
			s, depth, flow = d.channel(), d.between(0.01, 5), d.between(0.1, 100)
		}
		for _, f := range depthCalls {
			wantTold(t, f.call(s, depth), f.told(s, depth), f.name, s, depth)
		}
		for _, f := range flowCalls {
			wantTold(t, f.call(s, depth, flow), f.told(s, depth, flow), f.name, s, depth, flow)
		}
	}
}

func TestDepthsAndFlowsMustBeRight(t *testing.T) {
	for _, s := range []impl.Section{ditch(), section(0, 1, 1, 1)} {
		for _, x := range nonPositive() {
			for _, f := range depthCalls {
				wantTold(t, f.call(s, x), notANumber, f.name+" at the depth", x)
			}
			for _, f := range flowCalls {
				wantTold(t, f.call(s, x, 1), notANumber, f.name+" at the depth", x)
				wantTold(t, f.call(s, 0.01, x), notANumber, f.name+" with the flow", x)
				wantTold(t, f.call(s, x, x), notANumber, f.name+" with both", x)
			}
		}
	}
	for _, s := range invalidSections() {
		for _, f := range depthCalls {
			wantTold(t, f.call(s, 1), notANumber, f.name, s)
		}
		for _, f := range flowCalls {
			wantTold(t, f.call(s, 0.01, 1), notANumber, f.name, s)
		}
	}
}

// With all 32 bits drawn, any of them can be a part.
func TestSectionsOfAnyBits(t *testing.T) {
	d := drawer(403)
	for range 3000 {
		s := section(d.bitwise(), d.bitwise(), d.bitwise(), d.bitwise())
		depth, flow := d.bitwise(), d.bitwise()
		wantThat(t, impl.ValidSection(s), validSectionOracle(s), "ValidSection", s)
		for _, f := range depthCalls {
			wantTold(t, f.call(s, depth), f.told(s, depth), f.name, s, depth)
		}
		for _, f := range flowCalls {
			wantTold(t, f.call(s, depth, flow), f.told(s, depth, flow), f.name, s, depth, flow)
		}
	}
}
