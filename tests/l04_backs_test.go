package tests

import (
	"math"
	"testing"

	"loop.example/g01302/impl"
)

func TestBackStepByHand(t *testing.T) {
	wide := section(4e35, 0, tiniest, 1e38) // its area is infinite at 875
	square := section(4, 0, greatest, 0.5)
	least := over(1000, 1<<40)
	for _, c := range []struct {
		s                         impl.Section
		depth, flow, length, want float32
	}{
		{ditch(), 2, 1, 16, backOracle(ditch(), 2, 1, 16)}, {ditch(), 900, 1, 16, backOracle(ditch(), 900, 1, 16)},

		// the least one that is higher with the slope, as far as the sum tells
		{ditch(), 2, 1, tiniest, above(2)}, {ditch(), 2, 1e-10, 1024, number(0x3f800002)}, {ditch(), 2, tiniest, 1024, number(0x3f800002)}, {ditch(), 2, 1e-10, 1536, number(0x3f000003)}, {section(0, 1, 0.25, 0.5), 8, 1e-20, 4, number(0x40e00002)},
		// there is no such depth up to the greatest one
		{ditch(), 2000, 1, 16, 1000}, {ditch(), 1e30, 1, 1, 1000}, {section(2, 0, 0.001, 1e15), 2, 1, 1, 1000},
		// nor down to the critical one, which is small, or next to it
		{ditch(), 2, 1e-20, 1e10, 2 * least}, {ditch(), 2, 1, 1e10, backOracle(ditch(), 2, 1, 1e10)},
		// slopes and losses are infinite: only those, only these, or both
		{square, 2, 1, greatest, backOracle(square, 2, 1, greatest)}, {section(4, 0, 1, 1e18), 2, 1, greatest, 1000}, {section(4, 0, greatest, 1e18), 2, 1, greatest, 1000},
		// the critical depth is the greatest one
		{ditch(), 1001, 1e17, 16, 1000}, {ditch(), above(1000), 1e17, 16, 1000}, {ditch(), 1000, 1e17, 16, notANumber}, {ditch(), 999, 1e17, 16, notANumber},
		// nothing can be told at a depth that is tried, or only at those that are not
		{wide, 740, 1, 1e8, notANumber}, {wide, 740, 1, 1, above(740)},
		// the critical depth is the greatest one, where the head is infinite, or what is lost
		{section(2, 0, 1, 1e-10), 1e10, 1e25, 1, notANumber}, {section(2, 0, 1, 1e17), 1e10, 1e10, 1, notANumber}, {section(2, 0, 1, 1), 1e10, 1e10, 1, 1000},
		// there is no critical depth: both sides are infinite at 500, and the area is at 750
		{section(6e35, 0, 1, 1), 100, 1e20, 1, notANumber}, {section(6e35, 0, 1, 1), 100, 1, 1, backOracle(section(6e35, 0, 1, 1), 100, 1, 1)},
		// nothing can be told at the depth
		{section(greatest, 0, 1, 1), 2, 1, 1, notANumber}, {section(1, 1e20, 1, 1), 2, 1, 1, notANumber}, {section(1, 1, 1, greatest), 2, 1, 1, notANumber}, {ditch(), 2e38, 1, 1, notANumber},
	} {
		wantTold(t, all(impl.BackStep(c.s, c.depth, c.flow, c.length)), c.want, "BackStep", c.s, c.depth, c.flow, c.length)
	}
	for _, c := range []struct {
		s            impl.Section
		flow, length float32
	}{{section(2, 0, 0.1, 0.01), 1, 1000}, {section(4, 0, greatest, 0.01), 1, greatest}} {
		critical := must(impl.CriticalDepth(c.s, c.flow))
		up := must(impl.BackStep(c.s, 2, c.flow, c.length))
		wantThat(t, up == critical || up == above(critical), true, "BackStep down to the critical depth", c.s, up, critical)
	}
}

func TestBackStepAtTheCriticalDepth(t *testing.T) {
	d := drawer(420)
	for n := range 1500 {
		s, flow, length := d.channel(), d.between(0.5, 300), d.between(0.1, 200)
		if n%3 == 0 {
			s, flow, length = d.section(tame), d.length(tame), d.length(tame)
		}
		c := criticalOracle(s, flow)
		for _, depth := range floats(c, under(c), c/2, tiniest) {
			wantTold(t, all(impl.BackStep(s, depth, flow, length)), notANumber, "BackStep of no depth above the critical one", s, depth, flow, length)
			wantResults(t, all(impl.BackWater(s, depth, flow, length, 1)), all(noFloats, false), "BackWater of no depth above the critical one", s, depth, flow, length)
		}
		wantTold(t, all(impl.BackStep(s, above(c), flow, length)), backOracle(s, above(c), flow, length), "BackStep just above the critical depth", s, flow, length)
		if n%3 > 0 {
			wantThat(t, must(impl.BackStep(s, above(c), flow, length)) >= c, true, "BackStep just above the critical depth", s, flow, length)
		}
	}
}

func TestBackStepsOfAllKinds(t *testing.T) {
	d := drawer(421)
	succeeded := 0
	for n := range 5000 {
		kinds := tame + n%4
		s, depth, flow, length := d.section(kinds), d.length(kinds), d.length(kinds), d.length(kinds)
		if n%2 == 0 {
			s, flow, length = d.channel(), d.between(0.5, 300), d.between(0.1, 200)
			depth = times(criticalOracle(s, flow), d.between(0.9, 3))
		}
		wantTold(t, all(impl.BackStep(s, depth, flow, length)), backOracle(s, depth, flow, length), "BackStep", s, depth, flow, length)
		count := int64(d.next() % 5)
		depths, ok := waterOracle(s, depth, flow, length, count)
		wantResults(t, all(impl.BackWater(s, depth, flow, length, count)), all(depths, ok), "BackWater", s, depth, flow, length, count)
		if ok && count > 0 {
			succeeded++
		}
	}
	wantThat(t, succeeded > 1500 && succeeded < 3500, true, "BackWater is tried with steps that fail, and that do not", succeeded)
}

// What the water is higher upwards is what is lost between both depths.
func TestBackStepsLeadBack(t *testing.T) {
	d := drawer(422)
	inside := 0
	for range 3000 {
		s, flow, length := d.channel(), d.between(0.5, 300), d.between(0.1, 200)
		c := must(impl.CriticalDepth(s, flow))
		depth := times(c, d.between(1.01, 3))
		up, ok := impl.BackStep(s, depth, flow, length)
		if !ok || up < c || up > 900 {
			t.Fatalf("BackStep of %v of %v by %v in %v is %v", depth, flow, length, s, up)
		}
		if up <= above(c) {
			continue
		}
		inside++
		high, low := heightsOracle(s, depth, flow, length, up)
		wantThat(t, high > low && isClose(high, low, 1e-5), true, "BackStep", s, depth, flow, length)
		high, low = heightsOracle(s, depth, flow, length, under(up))
		wantThat(t, high <= low, true, "BackStep is the first one", s, depth, flow, length)
	}
	wantThat(t, inside > 1500, true, "BackStep is tried with steps that stay above the critical depth", inside)
}

// At the normal depth, it stays at it.
func TestWatersAtTheNormalDepthStay(t *testing.T) {
	d := drawer(423)
	tried := 0
	for range 1000 {
		s, flow := d.channel(), d.between(0.5, 300)
		normal := must(impl.NormalDepth(s, flow))
		if normal > 1.1*must(impl.CriticalDepth(s, flow)) {
			tried++
			depths, ok := impl.BackWater(s, normal, flow, 10, 8)
			wantThat(t, ok && len(depths) == 8 && isClose(depths[0], normal, 1e-4) && isClose(depths[7], normal, 1e-4), true, "BackWater of the normal depth", s, flow, depths)
		}
	}
	wantThat(t, tried > 200, true, "BackWater is tried with mild channels", tried)
}

// From above and from below, backwaters go to the normal depth.
func TestBackWatersGoToTheNormalDepth(t *testing.T) {
	s := ditch()
	normal := must(impl.NormalDepth(s, 1))
	for _, begins := range floats(0.6, 0.7, 1, 2, 4) {
		depth := begins
		depths, ok := impl.BackWater(s, depth, 1, 100, impl.MaxReach)
		wantThat(t, ok && len(depths) == impl.MaxReach, true, "BackWater", depth)
		for _, next := range depths {
			nearer := next >= depth && next <= normal || next <= depth && next >= normal
			wantThat(t, nearer || isClose(next, normal, 1e-5), true, "BackWater goes to the normal depth", begins, depth, next)
			depth = next
		}
		wantThat(t, isClose(depth, normal, 1e-4), true, "BackWater ends at the normal depth", begins, depth, normal)
	}
}

func TestBackWaterCounts(t *testing.T) {
	s := ditch()
	step := must(impl.BackStep(s, 2, 1, 16))
	wantResults(t, all(impl.BackWater(s, 2, 1, 16, 0)), all(noFloats, true), "BackWater of no depths")
	wantResults(t, all(impl.BackWater(s, 2, 1, 16, 1)), all(floats(step), true), "BackWater of a depth")
	wantResults(t, all(impl.BackWater(s, 2, 1, 16, 2)), all(floats(step, must(impl.BackStep(s, step, 1, 16))), true), "BackWater of two depths")
	want, ok := waterOracle(s, 2, 1, 16, 64)
	wantThat(t, ok && len(want) == impl.MaxReach, true, "the oracle")
	wantResults(t, all(impl.BackWater(s, 2, 1, 16, impl.MaxReach)), all(want, true), "BackWater of MaxReach depths")
	for _, count := range ints(-1, impl.MaxReach+1, math.MaxInt64, math.MinInt64) {
		wantResults(t, all(impl.BackWater(s, 2, 1, 16, count)), all(noFloats, false), "BackWater of the count", count)
	}
}

// The arguments must be right for no depths, too, but no step is made that fails.
func TestBackWaterOfNoDepths(t *testing.T) {
	for _, c := range []struct {
		s     impl.Section
		depth float32
	}{{ditch(), tiniest}, {ditch(), 0.1}, {ditch(), greatest}, {section(greatest, 0, 1, 1), 1}, {section(1, greatest, greatest, tiniest), 1}} {
		wantResults(t, all(impl.BackWater(c.s, c.depth, 1, 16, 0)), all(noFloats, true), "BackWater of no depths", c.s, c.depth)
		wantResults(t, all(impl.BackWater(c.s, c.depth, 1, 16, 1)), all(noFloats, false), "BackWater of a depth", c.s, c.depth)
	}
}

func TestBackWaterFailsWhereAStepFails(t *testing.T) {
	// The first step leads to the greatest depth, which is the critical one.
	wantResults(t, all(impl.BackWater(ditch(), 1001, 1e17, 16, 1)), all(floats(1000), true), "BackWater")
	wantResults(t, all(impl.BackWater(ditch(), 1001, 1e17, 16, 2)), all(noFloats, false), "BackWater")
	wantResults(t, all(impl.BackWater(ditch(), 1001, 1e17, 16, impl.MaxReach)), all(noFloats, false), "BackWater")
	// In a steep channel, they end at the critical depth, where the next step
	// fails, or at the number next to it: the last half is the even one of both.
	steep := section(2, 0, 0.1, 0.01)
	ends := map[bool]int{}
	for _, flow := range floats(0.5, 0.75, 1, 1.25, 1.5, 1.75, 2, 2.5, 3) {
		even := bits(must(impl.CriticalDepth(steep, flow)))%2 == 0
		ends[even]++
		for count := range int64(impl.MaxReach) {
			want, ok := waterOracle(steep, 2, flow, 3, count)
			wantResults(t, all(impl.BackWater(steep, 2, flow, 3, count)), all(want, ok), "BackWater of a steep channel", flow, count)
			wantThat(t, ok || count > 2 && even, true, "BackWater of a steep channel succeeds", flow, count)
			wantThat(t, ok && count > 32 && even, false, "BackWater of a steep channel fails", flow, count)
		}
	}
	wantThat(t, ends[true] > 0 && ends[false] > 0, true, "BackWater is tried with even and odd critical depths", ends)
}

func TestBackStepsFail(t *testing.T) {
	check := func(s impl.Section, depth, flow, length float32, what string) {
		t.Helper()
		wantTold(t, all(impl.BackStep(s, depth, flow, length)), notANumber, "BackStep", what, s, depth, flow, length)
		for _, count := range ints(0, 1, 2) {
			wantResults(t, all(impl.BackWater(s, depth, flow, length, count)), all(noFloats, false), "BackWater", what, s, depth, flow, length, count)
		}
	}
	for _, s := range invalidSections() {
		check(s, 2, 1, 16, "section")
	}
	for _, x := range nonPositive() {
		check(ditch(), x, 1, 16, "depth")
		check(ditch(), 2, x, 16, "flow")
		check(ditch(), 2, 1, x, "length")
	}
}
