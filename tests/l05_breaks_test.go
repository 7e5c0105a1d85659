package tests

import (
	"testing"

	"loop.example/g01302/impl"
)

// breakSpeed is the c of the text.
func breakSpeed(deep float32) float32 { return root(times(number(gravityBits), deep)) }

func TestBreaksByHand(t *testing.T) {
	two := breakSpeed(2)
	// at 0, the depth is four ninths of what it was, and the speed two thirds of c
	middle := func(deep float32) (float32, float32) {
		v, c := 2*breakSpeed(deep), breakSpeed(deep)
		return over(times(v, v), number(ninefoldBits)), over(2*c, 3)
	}
	depth, speed := middle(9)
	deepest := over(times(under(3*two), under(3*two)), number(ninefoldBits))
	for _, c := range []struct{ deep, place, time, depth, flow float32 }{
		{2, -100, 1, 2, 0}, {2, 100, 1, 0, 0}, {9, 0, 1, depth, times(depth, speed)}, {9, minusZero, 1, depth, times(depth, speed)}, {9, 0, greatest, depth, times(depth, speed)}, {9, 0, tiniest, depth, times(depth, speed)}, {9, tiniest, 1, depth, times(depth, speed)}, {9, -tiniest, 2, depth, times(depth, speed)},
		// exactly the opposite of c, and 2 c, and beside both
		{2, -two, 1, 2, 0}, {2, -above(two), 1, 2, 0}, {2, -4 * two, 4, 2, 0}, {2, 2 * two, 1, 0, 0}, {2, above(2 * two), 1, 0, 0}, {2, two, 0.5, 0, 0},
		{2, -under(two), 1, over(times(plus(2*two, under(two)), plus(2*two, under(two))), number(ninefoldBits)), times(over(times(plus(2*two, under(two)), plus(2*two, under(two))), number(ninefoldBits)), over(2*less(two, under(two)), 3))},
		{2, under(2 * two), 1, over(times(less(2*two, under(2*two)), less(2*two, under(2*two))), number(ninefoldBits)), times(over(times(less(2*two, under(2*two)), less(2*two, under(2*two))), number(ninefoldBits)), over(2*plus(two, under(2*two)), 3))},
		// u is infinite, on both sides
		{2, -1, tiniest, 2, 0}, {2, 1, tiniest, 0, 0}, {2, -greatest, 0.5, 2, 0}, {2, greatest, 0.5, 0, 0}, {tiniest, -greatest, tiniest, tiniest, 0}, {tiniest, greatest, tiniest, 0, 0},
		// c is infinite: only an infinite u is far enough
		{1e38, 0, 1, notANumber, notANumber}, {greatest, 5, 1, notANumber, notANumber}, {greatest, -greatest, 1, notANumber, notANumber}, {greatest, greatest, 1, notANumber, notANumber}, {1e38, -greatest, 0.5, 1e38, 0}, {greatest, -greatest, 0.5, greatest, 0}, {greatest, greatest, 0.5, 0, 0},
		// the square of v is infinite, or the product
		{3e37, 0, 1, notANumber, notANumber}, {3e37, -1.7e19, 1, notANumber, notANumber}, {3e37, -1e20, 1, 3e37, 0}, {3e37, 1e20, 1, 0, 0}, {8e36, 0, 1, over(times(2*breakSpeed(8e36), 2*breakSpeed(8e36)), number(ninefoldBits)), notANumber},
		// subnormal ones
		{tiniest, 0, 1, over(times(2*root(10*tiniest), 2*root(10*tiniest)), number(ninefoldBits)), 0}, {tiniest, 1, 1, 0, 0}, {tiniest, -1, 1, tiniest, 0},
	} {
		wantTold(t, all(impl.BreakDepth(c.deep, c.place, c.time)), c.depth, "BreakDepth", c.deep, c.place, c.time)
		wantTold(t, all(impl.BreakFlow(c.deep, c.place, c.time)), c.flow, "BreakFlow", c.deep, c.place, c.time)
	}
	wantThat(t, isClose(must(impl.BreakDepth(2, -under(two), 1)), 2, 1e-6) && isClose(deepest, 2, 1e-6), true, "BreakDepth next to the water that stands")
}

func TestBreaksFail(t *testing.T) {
	for _, place := range floats(0, 1, -1, 100, -100) {
		for _, x := range nonPositive() {
			wantTold(t, all(impl.BreakDepth(x, place, 1)), notANumber, "BreakDepth with the depth", x, place)
			wantTold(t, all(impl.BreakFlow(x, place, 1)), notANumber, "BreakFlow with the depth", x, place)
			wantTold(t, all(impl.BreakDepth(2, place, x)), notANumber, "BreakDepth with the time", x, place)
			wantTold(t, all(impl.BreakFlow(2, place, x)), notANumber, "BreakFlow with the time", x, place)
		}
	}
	for _, x := range notFinite() {
		wantTold(t, all(impl.BreakDepth(2, x, 1)), notANumber, "BreakDepth with the place", x)
		wantTold(t, all(impl.BreakFlow(2, x, 1)), notANumber, "BreakFlow with the place", x)
	}
}

func TestBreaksOfAllKinds(t *testing.T) {
	d := drawer(550)
	inside := 0
	for n := range 20000 {
		kinds := 1 + n%amountKinds
		deep, place, time := d.length(kinds), d.signed(kinds), d.length(kinds)
		if n%3 == 0 {
			deep, place, time = d.bitwise(), d.bitwise(), d.bitwise()
		}
		if n%3 == 1 {
			place = times(times(breakSpeed(deep), time), d.between(-1.1, 2.1))
		}
		depth, speed := breakOracle(deep, place, time)
		wantTold(t, all(impl.BreakDepth(deep, place, time)), depth, "BreakDepth", deep, place, time)
		wantTold(t, all(impl.BreakFlow(deep, place, time)), breakFlowOracle(deep, place, time), "BreakFlow", deep, place, time)
		if speed > 0 {
			inside++
		}
	}
	wantThat(t, inside > 4000, true, "BreakDepth is tried at places that the wave has reached", inside)
}

// The water goes down from the dam that was to the end of the wave.
func TestBreaksGoDown(t *testing.T) {
	d := drawer(551)
	for range 300 {
		deep, time := d.between(0.5, 50), d.between(0.1, 100)
		c, last := breakSpeed(deep), deep
		for n := -12; n <= 24; n++ {
			place := times(times(c, time), float32(n)/10)
			depth, flow := must(impl.BreakDepth(deep, place, time)), must(impl.BreakFlow(deep, place, time))
			wantThat(t, depth >= 0 && depth <= times(last, 1.00001) && flow >= 0, true, "BreakDepth", deep, place, time)
			wantThat(t, n <= -11 && depth == deep && flow == 0 || n > -11 && n < 21 || n >= 21 && depth == 0 && flow == 0, true, "BreakDepth at the ends", deep, place, time)
			last = depth
		}
	}
}

// As much water is before the dam as has left the place behind it.
func TestBreaksLoseNothing(t *testing.T) {
	for _, deep := range floats(0.5, 2, 30) {
		c := breakSpeed(deep)
		const parts = 3000
		before, behind, flows := 0.0, 0.0, 0.0
		for n := range parts {
			x := (float32(n) + 0.5) / parts
			before += float64(must(impl.BreakDepth(deep, times(2*c, x), 1))) * 2 * float64(c) / parts
			behind += float64(deep-must(impl.BreakDepth(deep, times(-c, x), 1))) * float64(c) / parts
			flows += float64(must(impl.BreakFlow(deep, 0, x))) / parts
		}
		wantThat(t, before > 0.29*float64(deep*c) && before < 0.3*float64(deep*c), true, "BreakDepth before the dam", deep, before)
		wantThat(t, behind-before < 1e-3*before && before-behind < 1e-3*before && flows-before < 1e-3*before && before-flows < 1e-3*before, true, "BreakDepth and BreakFlow", deep, before, behind, flows)
	}
}
