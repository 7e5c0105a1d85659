package tests

import (
	"testing"

	"loop.example/g01302/impl"
)

func TestWeirOverByHand(t *testing.T) {
	for _, c := range []struct{ size, crest, level, below, want float32 }{
		{1, 0, 4, 0, 8}, {2, 1, 5, 0, 16}, {0.5, -3, 6, -9, 13.5}, {1, 0, 0.25, -1, 0.125}, {3, 10, 11, 10, 3}, {1, 2, 4, 2, times(2, root(2))},
		// the level at the crest, and below it
		{1, 4, 4, 0, 0}, {1, 4, 4, 9, 0}, {1, 5, 4, 0, 0}, {1, 5, 4, 6, 0}, {1, 0, minusZero, 0, 0}, {1, minusZero, 0, 0, 0}, {minusZero, 4, 4, 0, 0}, {minusZero, 5, 4, 0, 0}, {greatest, greatest, minusZero, 0, 0}, {1, greatest, -greatest, 0, 0},
		// just above it
		{1, 4, number(0x40800001), 0, times(number(0x35000000), root(number(0x35000000)))}, {1, 0, tiniest, 0, times(tiniest, root(tiniest))}, {greatest, 0, tiniest, 0, times(times(greatest, tiniest), root(tiniest))},
		// the water behind it is at the crest, above it, at the level, and above that
		{1, 1, 5, 1, 8}, {1, 1, 5, under(1), 8}, {1, 1, 5, -1e30, 8}, {1, 0, 4, 2, times(8, root(0.75))}, {1, 1, 5, 4, times(8, root(0.4375))}, {2, 1, 5, 4, times(16, root(0.4375))}, {1, 0, 4, tiniest, 8}, {1, 0, 4, under(4), times(8, root(less(1, times(under(1), under(1)))))},
		{1, 0, 4, 4, 0}, {1, 1, 5, 5, 0}, {1, 0, 4, above(4), 0}, {1, 0, 4, 5, 0}, {1, 0, 4, greatest, 0}, {minusZero, 0, 4, 4, 0}, {1, 0, tiniest, tiniest, 0}, {1, 0, number(2), tiniest, times(times(number(2), root(number(2))), root(0.75))},
		// nothing is so wide
		{0, 0, 4, 0, 0}, {0, 0, 4, 2, 0}, {0, 0, 4, 4, 0}, {minusZero, 0, 4, 0, minusZero}, {minusZero, 0, 4, 2, minusZero},
		// great ones: the product begins at the left
		{1, 0, 1e25, 0, times(1e25, root(1e25))}, {1, 0, 1e26, 0, notANumber}, {1e20, 0, 1e20, 0, notANumber}, {greatest, 0, 1, 0, greatest}, {greatest, 0, 4, 0, notANumber}, {greatest, 0, 4, 4, 0}, {greatest, 0, 4, under(4), notANumber}, {greatest, 0, 1, 0.5, times(greatest, root(0.75))}, {0, 0, greatest, 0, 0},
		// how high it is above the crest is infinite, and what is behind the weir is not, or is, too
		{1, -greatest, greatest, -greatest, notANumber}, {0, -greatest, greatest, -greatest, notANumber}, {1, -greatest, greatest, -1e38, notANumber}, {1, -greatest, greatest, greatest, 0}, {0, -greatest, greatest, greatest, 0},
	} {
		wantTold(t, all(impl.WeirOver(c.size, c.crest, c.level, c.below)), c.want, "WeirOver", c.size, c.crest, c.level, c.below)
	}
}

func TestLevelForByHand(t *testing.T) {
	for _, c := range []struct{ size, crest, flow, want float32 }{
		// the quotient is 1, whose powers are 1
		{3, 2, 3, 3}, {1, -1, 1, 0}, {tiniest, 5, tiniest, 6}, {greatest, 5, greatest, 6}, {1, greatest, 1, greatest}, {1, -greatest, 1, -greatest},
		{1, 2, 8, plus(2, powerBits(8, twoThirdsBits))}, {2, 0, 1, powerBits(0.5, twoThirdsBits)}, {2, minusZero, 1, powerBits(0.5, twoThirdsBits)}, {1, 0, greatest, powerBits(greatest, twoThirdsBits)}, {1, 0, tiniest, powerBits(tiniest, twoThirdsBits)},
		// the quotient is infinite, or 0
		{tiniest, 0, 1, notANumber}, {0.5, 0, greatest, notANumber}, {greatest, 3, tiniest, 3}, {greatest, 0, tiniest, 0}, {greatest, minusZero, tiniest, 0}, {1e10, -7, tiniest, -7},
		// nothing is so wide
		{0, 0, 1, notANumber}, {minusZero, 0, 1, notANumber},
	} {
		wantTold(t, all(impl.LevelFor(c.size, c.crest, c.flow)), c.want, "LevelFor", c.size, c.crest, c.flow)
	}
}

func TestGateUnderByHand(t *testing.T) {
	g := number(doubleBits)
	for _, c := range []struct{ size, open, level, below, want float32 }{
		{2, 1, 1.5, 0, times(2, root(g))}, {2, 3, 2.5, 0, times(6, root(g))}, {1, 1, 5, 1, root(times(g, 4))}, {1, 1, 5, -7, root(times(g, 4.5))}, {1, 0.5, 1, 0.75, times(0.5, root(times(g, 0.25)))}, {0.1, 0.3, 2, 1, times(times(0.1, 0.3), root(g))},
		// what is behind it is as high as half of what is open, and more, and less
		{1, 2, 5, 1, times(2, root(times(g, 4)))}, {1, 2, 5, 2, times(2, root(times(g, 3)))}, {1, 2, 5, 0.5, times(2, root(times(g, 4)))},
		// shut ones
		{1, 0, 4, 0, 0}, {1, 0, 4, 5, 0}, {1, 0, 4, 3, 0}, {1, 0, 0, 0, 0}, {1, 0, 0, -1, 0}, {1, 0, -1, -2, 0}, {1, 0, 4, -2, 0}, {greatest, 0, 4, 0, 0}, {0, 0, 4, 0, 0}, {1, minusZero, 4, 0, minusZero}, {1, minusZero, 4, 4, 0}, {minusZero, minusZero, 4, 0, 0}, {1, 0, 1.7e37, 0, 0},
		// nothing is so wide
		{0, 1, 4, 0, 0}, {0, 1, 4, 5, 0}, {minusZero, 1, 4, 0, minusZero}, {minusZero, 1, 4, 4, 0}, {0, greatest, greatest, 0, notANumber}, {0, 1e37, 1e37, 0, 0},
		// the level is at one of both, and below it, or just above
		{1, 2, 1, 0, 0}, {1, 2, 1, 1, 0}, {1, 2, under(1), 0, 0}, {1, 2, 3, 3, 0}, {1, 2, under(3), 3, 0}, {1, 2, -5, -6, 0}, {1, 2, above(1), 0, times(2, root(times(g, number(0x34000000))))}, {1, 2, above(3), 3, times(2, root(times(g, number(0x34800000))))}, {1, tiniest, tiniest, 0, times(tiniest, root(times(g, tiniest)))},
		// great ones: this root is of a number that is infinite
		{1, 1, 1e37, 0, root(times(g, 1e37))}, {1, 1, 1e38, 0, notANumber}, {1, 1, greatest, -greatest, notANumber}, {0, 1, 1e38, 0, notANumber}, {1, 0, 1e38, 0, notANumber}, {1, greatest, 1, -greatest, 0}, {1, 0, greatest, -greatest, notANumber},
		{1e20, 1e20, 1e21, 0, notANumber}, {1e20, 1e-20, 1, 0, times(times(1e20, 1e-20), root(times(g, less(1, 5e-21))))}, {tiniest, 0.5, 5, 0, 0}, {1e-38, 1e-38, 1e30, 0, 0},
	} {
		wantTold(t, all(impl.GateUnder(c.size, c.open, c.level, c.below)), c.want, "GateUnder", c.size, c.open, c.level, c.below)
	}
}

func TestPipesByHand(t *testing.T) {
	g, area := number(doubleBits), number(quarterPiBits)
	for _, c := range []struct{ flow, wide, long, rough, want float32 }{
		{area, 1, g, 1, 1}, {-area, 1, g, 1, -1}, {2 * area, 1, g, 1, 4}, {-2 * area, 1, g, 1, -4}, {4 * area, 2, 2 * g, 1, 1}, {area, 1, g, 0.5, 0.5}, {area, 1, 4 * g, 2, 8}, {area, 2, 2 * g, 1, 0.0625},
		{1, 0.3, 20, 0.02, over(times(times(times(0.02, over(20, 0.3)), over(1, times(times(area, 0.3), 0.3))), over(1, times(times(area, 0.3), 0.3))), g)},
		// without a flow
		{0, 1, 10, 1, 0}, {minusZero, 1, 10, 1, minusZero}, {tiniest, 1, 10, 1, 0}, {-tiniest, 1, 10, 1, minusZero},
		// the area is 0, or infinite
		{0, 1e-25, 1, 1, notANumber}, {minusZero, 1e-25, 1, 1, notANumber}, {1, 1e-25, 1, 1, notANumber}, {-1, 1e-25, 1, 1, notANumber}, {1, 1e25, 1, 1, 0}, {-1, 1e25, 1, 1, minusZero}, {greatest, greatest, greatest, 1, 0},
		// the product is infinite, or begins to be, or is no number
		{1e20, 1, 1, 1, notANumber}, {-1e20, 1, 1, 1, notANumber}, {1, 1, greatest, 2, notANumber}, {0, 1, greatest, 2, notANumber}, {1e-10, 1, 1e38, 10, notANumber}, {1e-10, 1, 1e30, 10, over(times(times(times(10, 1e30), over(1e-10, area)), over(1e-10, area)), g)}, {0, 0.5, greatest, 1, notANumber}, {1, 1, tiniest, tiniest, 0}, {-1, 1, tiniest, tiniest, minusZero},
		{1e19, 1, 1e-20, 1, over(times(times(1e-20, over(1e19, area)), over(1e19, area)), g)},
	} {
		wantTold(t, all(impl.PipeLoss(c.flow, c.wide, c.long, c.rough)), c.want, "PipeLoss", c.flow, c.wide, c.long, c.rough)
	}
	for _, c := range []struct{ drop, wide, long, rough, want float32 }{
		{1, 1, g, 1, area}, {4, 1, g, 1, 2 * area}, {1, 1, 4 * g, 1, area / 2}, {1, 1, g, 0.25, 2 * area}, {1, 4, g, 1, 32 * area}, {3, 1, g, 1, times(area, root(over(times(g, 3), g)))},
		// without a drop
		{0, 1, 10, 1, 0}, {minusZero, 1, 10, 1, minusZero}, {tiniest, 1, 1, 1, times(area, root(times(g, tiniest)))}, {0, tiniest, greatest, 1, 0}, {0, greatest, 1, 1, notANumber},
		// what it is divided by is 0, or infinite
		{1, 1, 1e-30, 1e-30, notANumber}, {0, 1, 1e-30, 1e-30, notANumber}, {1, 1, 1e30, 1e30, 0}, {minusZero, 1, 1e30, 1e30, minusZero},
		// the area is 0, or infinite, and so is the product under the root
		{1, 1e-25, 1, 1, 0}, {1, 1e25, 1, 1, notANumber}, {1e38, 1, 1, 1, notANumber}, {1e37, 1, 1, 1, times(area, root(times(g, 1e37)))}, {1e30, 1e10, 1e20, 1e20, notANumber}, {1e25, 1e10, 1e20, 1e18, times(times(times(area, 1e10), 1e10), root(over(times(times(g, 1e25), 1e10), times(1e20, 1e18))))},
	} {
		wantTold(t, all(impl.PipeFlow(c.drop, c.wide, c.long, c.rough)), c.want, "PipeFlow", c.drop, c.wide, c.long, c.rough)
	}
}

func TestCulvertFlowByHand(t *testing.T) {
	g := number(doubleBits)
	for _, c := range []struct{ size, crest, open, level, below, want float32 }{
		// the weir lets less through
		{1, 0, 1.5, 1, 0, 1}, {2, 0, 1, 4, 0, 16}, {1, 10, 1, 14, 0, 8}, {1, 10, 1, 14, 12, min(times(8, root(0.75)), root(times(g, 2)))}, {1, 0, 100, 60, 0, times(60, root(60))},
		// the gate does
		{1, 0, 0.5, 4, 0, times(0.5, root(times(g, 3.75)))}, {1, 10, 0.5, 14, 0, times(0.5, root(times(g, 3.75)))}, {1, 10, 0.5, 14, 12, times(0.5, root(times(g, 2)))}, {2, -10, 0.5, -6, -8, times(1, root(times(g, 2)))}, {1, 0, tiniest, 4, 0, times(tiniest, root(times(g, 4)))},
		// nothing goes through one of both, or both
		{1, 0, 1, 0.25, 0, 0}, {1, 0, 1, 0.5, 0, 0}, {1, 0, 1, 0, 0, 0}, {1, 0, 1, -1, -2, 0}, {1, 5, 1, 5, 3, 0}, {1, 5, 1, 4, 3, 0}, {1, 0, 1, 4, 4, 0}, {1, 0, 1, 4, 5, 0}, {0, 0, 1, 4, 0, 0}, {minusZero, 0, 1, 4, 0, minusZero}, {minusZero, 0, 1, 4, 4, 0}, {minusZero, 0, 1, 0.25, 0, minusZero}, {minusZero, 0, 1, 0, 0, 0},
		// not shut
		{1, 0, 0, 4, 0, notANumber}, {1, 0, minusZero, 4, 0, notANumber}, {1, 0, 0, 0, 0, notANumber}, {1, 0, -tiniest, 4, 0, notANumber},
		// one of both fails: the weir, the gate, or what the gate gets
		{1, 0, 1, 1e26, 0, notANumber}, {0, 0, 1, 1e38, 0, notANumber}, {0, 0, 1, 1e37, 0, 0}, {1e20, 0, 1e20, 1e10, 0, 0}, {1e20, 0, 1e20, 1e20, 0, notANumber}, {1e10, 0, 1e30, 1e30, 0, notANumber},
		{1, greatest, 1, -greatest, 0, notANumber}, {1, -greatest, 1, greatest, greatest, notANumber}, {1, greatest, 1, greatest, -greatest, notANumber}, {1, 1e38, 1, 1e38, -1e38, 0},
	} {
		wantTold(t, all(impl.CulvertFlow(c.size, c.crest, c.open, c.level, c.below)), c.want, "CulvertFlow", c.size, c.crest, c.open, c.level, c.below)
	}
}

// worksCalls are the functions of weirs, gates and pipes: of which of their
// arguments must be at least 0, and greater than 0, and the others finite.
var worksCalls = []struct {
	name  string
	kinds string
	call  func(a [5]float32) []any
	told  func(a [5]float32) float32
}{
	{"WeirOver", "0---", func(a [5]float32) []any { return all(impl.WeirOver(a[0], a[1], a[2], a[3])) }, func(a [5]float32) float32 { return weirOracle(a[0], a[1], a[2], a[3]) }},
	{"LevelFor", "+-+", func(a [5]float32) []any { return all(impl.LevelFor(a[0], a[1], a[2])) }, func(a [5]float32) float32 { return levelOracle(a[0], a[1], a[2]) }},
	{"GateUnder", "00--", func(a [5]float32) []any { return all(impl.GateUnder(a[0], a[1], a[2], a[3])) }, func(a [5]float32) float32 { return gateOracle(a[0], a[1], a[2], a[3]) }},
	{"PipeLoss", "-+++", func(a [5]float32) []any { return all(impl.PipeLoss(a[0], a[1], a[2], a[3])) }, func(a [5]float32) float32 { return pipeLossOracle(a[0], a[1], a[2], a[3]) }},
	{"PipeFlow", "0+++", func(a [5]float32) []any { return all(impl.PipeFlow(a[0], a[1], a[2], a[3])) }, func(a [5]float32) float32 { return pipeFlowOracle(a[0], a[1], a[2], a[3]) }},
	{"CulvertFlow", "0-+--", func(a [5]float32) []any { return all(impl.CulvertFlow(a[0], a[1], a[2], a[3], a[4])) }, func(a [5]float32) float32 { return culvertOracle(a[0], a[1], a[2], a[3], a[4]) }},
}

func TestWorksOfAllKinds(t *testing.T) {
	d := drawer(430)
	drawn := func(kind byte, kinds int) float32 {
		x := d.amount(kinds)
		switch {
		case kind == '+' && x == 0:
			return 0.75
		case kind == '-' && d.next()%3 == 0:
			return -x
		}
		return x
	}
	for n := range 20000 {
		for _, f := range worksCalls {
			var a, b [5]float32
			for i := range len(f.kinds) {
				a[i], b[i] = drawn(f.kinds[i], tame+n%4), d.bitwise()
			}
			wantTold(t, f.call(a), f.told(a), f.name, a)
			wantTold(t, f.call(b), f.told(b), f.name, b)
		}
	}
}

func TestWorksFail(t *testing.T) {
	for _, f := range worksCalls {
		// of each kind of a result: of what flows, and of what is shut or drowned
		for _, good := range [][5]float32{{1, 1, 1, 2, 0.5}, {2, 0.5, 0.25, 0.125, 4}, {1, 3, 3, 1, 1}} {
			wantThat(t, f.told(good) == f.told(good), true, f.name, good)
			for i := range len(f.kinds) {
				wrong := notFinite()
				if f.kinds[i] != '-' {
					wrong = append(wrong, -1, -tiniest, -greatest)
				}
				if f.kinds[i] == '+' {
					wrong = append(wrong, 0, minusZero)
				}
				for _, x := range wrong {
					a := good
					a[i] = x
					wantTold(t, f.call(a), notANumber, f.name, a)
				}
			}
		}
	}
}

func TestLevelsLeadBack(t *testing.T) {
	d := drawer(431)
	for range 5000 {
		size, crest, flow := d.between(0.5, 30), d.between(-20, 20), d.between(0.5, 300)
		level, ok := impl.LevelFor(size, crest, flow)
		wantThat(t, ok && isClose(must(impl.WeirOver(size, crest, level, crest)), flow, 1e-3), true, "WeirOver LevelFor", size, crest, flow)
		level, ok = impl.LevelFor(size, 0, flow)
		wantThat(t, ok && isClose(must(impl.WeirOver(size, 0, level, 0)), flow, 1e-5), true, "WeirOver LevelFor", size, flow)
	}
}

func TestPipesLeadBack(t *testing.T) {
	d := drawer(432)
	for range 5000 {
		drop, wide, long, rough := d.between(0.01, 50), d.between(0.05, 3), d.between(1, 5000), d.between(0.008, 0.1)
		flow, ok := impl.PipeFlow(drop, wide, long, rough)
		wantThat(t, ok && isClose(must(impl.PipeLoss(flow, wide, long, rough)), drop, 1e-5), true, "PipeLoss PipeFlow", drop, wide, long, rough)
		wantNumber(t, must(impl.PipeLoss(-flow, wide, long, rough)), -must(impl.PipeLoss(flow, wide, long, rough)), "PipeLoss the other way", flow, wide, long, rough)
		wantThat(t, isClose(must(impl.PipeFlow(must(impl.PipeLoss(flow, wide, long, rough)), wide, long, rough)), flow, 1e-5), true, "PipeFlow PipeLoss", flow, wide, long, rough)
	}
}

// Higher levels let more through, and higher levels behind less: never more
// than nothing behind, and nothing where both are equal.
func TestWeirsAndGatesAreEven(t *testing.T) {
	d := drawer(433)
	for range 3000 {
		size, crest, open := d.between(0.5, 5), d.between(-3, 3), d.between(0.1, 2)
		low := crest + d.between(0.1, 3)
		high := low + d.between(0.1, 3)
		for _, f := range []func(level, below float32) (float32, bool){
			func(level, below float32) (float32, bool) { return impl.WeirOver(size, crest, level, below) },
			func(level, below float32) (float32, bool) { return impl.GateUnder(size, open, level, below) },
			func(level, below float32) (float32, bool) { return impl.CulvertFlow(size, crest, open, level, below) },
		} {
			free, more, drowned := must(f(low, crest)), must(f(high, crest)), must(f(high, low))
			wantThat(t, free >= 0 && more >= free && drowned <= more && drowned >= 0, true, "weirs and gates", size, crest, open, low, high)
			wantNumber(t, must(f(low, low)), 0, "weirs and gates with the same on both sides", size, crest, open, low)
			wantNumber(t, must(f(low, high)), 0, "weirs and gates with more behind", size, crest, open, low, high)
		}
		both := min(must(impl.WeirOver(size, crest, high, low)), must(impl.GateUnder(size, open, less(high, crest), less(low, crest))))
		wantNumber(t, must(impl.CulvertFlow(size, crest, open, high, low)), both, "CulvertFlow", size, crest, open, high, low)
	}
}
