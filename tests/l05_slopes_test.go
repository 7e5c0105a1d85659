package tests

import (
	"math"
	"slices"
	"testing"

	"loop.example/g01302/impl"
)

// wrongSlopes have an area that is wrong, or too many of them, or none.
func wrongSlopes() [][]float32 {
	list := [][]float32{nil, {}, make([]float32, impl.MaxCanal+1), make([]float32, 2*impl.MaxCanal)}
	for _, x := range invalidNumbers() {
		list = append(list, floats(x), floats(x, 1, 1), floats(1, x, 1), floats(1, 1, x), append(make([]float32, impl.MaxCanal-1), x))
	}
	return list
}

func TestWaveFlow(t *testing.T) {
	for _, c := range []struct{ rate, area, want float32 }{
		{2, 4, 16}, {1, 1, 1}, {0.5, 9, 13.5}, {3, 0.25, 0.375}, {1, 0, 0}, {1, minusZero, 0}, {greatest, 0, 0}, {greatest, minusZero, 0}, {tiniest, 0, 0}, {0.1, 0.3, times(times(0.1, 0.3), root(0.3))}, {tiniest, 4, 8 * tiniest}, {1, tiniest, 0}, {greatest, tiniest, times(times(greatest, tiniest), root(tiniest))}, {greatest, 1, greatest},
		// from left to right: the first product is infinite, or nothing
		{greatest, 2, notANumber}, {1e30, 1e10, notANumber}, {1, greatest, notANumber}, {1e-20, greatest, times(times(1e-20, greatest), root(greatest))}, {1e-30, 1e-30, 0}, {1e20, 1e12, times(times(1e20, 1e12), root(1e12))}, {1e20, 1e18, notANumber},
	} {
		wantTold(t, all(impl.WaveFlow(c.rate, c.area)), c.want, "WaveFlow", c.rate, c.area)
	}
	for _, rate := range nonPositive() {
		for _, area := range floats(0, 1) {
			wantTold(t, all(impl.WaveFlow(rate, area)), notANumber, "WaveFlow with the rate", rate, area)
		}
	}
	for _, area := range invalidNumbers() {
		wantTold(t, all(impl.WaveFlow(1, area)), notANumber, "WaveFlow with the area", area)
	}
	d := drawer(520)
	for n := range 20000 {
		rate, area := d.length(1+n%amountKinds), d.amount(1+n%amountKinds)
		wantTold(t, all(impl.WaveFlow(rate, area)), waveOracle(rate, area), "WaveFlow", rate, area)
		rate, area = d.bitwise(), d.bitwise()
		wantTold(t, all(impl.WaveFlow(rate, area)), waveOracle(rate, area), "WaveFlow", rate, area)
	}
}

func TestStepWaveByHand(t *testing.T) {
	p60, p89 := number(0x21800000), number(0x6c000000) // 2 to the powers of -60 and 89
	for _, c := range []struct {
		areas                []float32
		in, rate, step, tick float32
		want                 []float32
		out                  float32
	}{
		{floats(4, 1), 2, 1, 8, 1, floats(3.25, 1.875), 1}, {floats(4), 8, 1, 8, 1, floats(4), 8}, {floats(4), 0, 1, 8, 1, floats(3), 8}, {floats(4), 16, 1, 8, 1, floats(5), 8}, {floats(1, 4), 0, 2, 16, 1, floats(0.875, 3.125), 16}, {floats(4, 4, 4), 4, 0.5, 8, 2, floats(4, 4, 4), 4}, {floats(4, 4, 4), 8, 0.5, 8, 2, floats(5, 4, 4), 4}, {floats(1, 0, 0), 0, 1, 4, 1, floats(0.75, 0.25, 0), 0}, {floats(0, 0), 3, 1, 4, 1, floats(0.75, 0), 0}, {floats(4, 4), 8, 1, 64, 4, floats(4, 4), 8},
		// without water: zeros of both signs
		{floats(0), 0, 1, 1, 1, floats(0), 0}, {floats(minusZero), 0, 1, 1, 1, floats(0), 0}, {floats(minusZero), minusZero, 1, 1, 1, floats(minusZero), 0}, {floats(0), minusZero, 1, 1, 1, floats(0), 0}, {floats(minusZero, minusZero), minusZero, 1, 1, 1, floats(minusZero, 0), 0}, {floats(1, minusZero), 0, 1, 2, 1, floats(0.5, 0.5), 0},
		// a wave runs exactly a step, which is the root of the area times 1.5 here
		{floats(4), 8, 1, 3, 1, floats(4), 8}, {floats(4, 1), 8, 1, 3, 1, floats(4, plus(1, times(over(1, 3), 7))), 1}, {floats(1, 4), 1, 1, 3, 1, floats(1, plus(4, times(over(1, 3), -7))), 8}, {floats(4), 8, 1, 1.5, 0.5, floats(4), 8}, {floats(4), 4, 0.5, 3, 2, floats(4), 4}, {floats(greatest), 0, 1e-30, greatest, 1, floats(greatest), times(times(1e-30, greatest), root(greatest))},
		// an area becomes less than 0, as its small flow is rounded up
		{floats(p60), 0, times(0.6, 2*p60), 1, times(1.05, p89), floats(0), tiniest}, {floats(p60, 0), 0, times(0.6, 2*p60), 1, times(1.05, p89), floats(0, times(times(1.05, p89), tiniest)), 0}, {floats(p60), 0, times(0.6, 2*p60), 1, p89, floats(0), tiniest}, {floats(p60), 0, times(0.6, 2*p60), 1, under(p89), floats(less(p60, times(under(p89), tiniest))), tiniest},
		// the quotient of tick and step is infinite, and so is what leaves
		{floats(1e10), 0, tiniest, 1e-20, 2e19, floats(0), times(times(tiniest, 1e10), 1e5)}, {floats(1e10), 0, tiniest, 1e-19, 1e19, floats(less(1e10, times(over(1e19, 1e-19), times(times(tiniest, 1e10), 1e5)))), times(times(tiniest, 1e10), 1e5)},
		// how far a wave runs is no number without an area
		{floats(0), 1, greatest, 1, 1, floats(1), 0}, {floats(0, minusZero, 0), 1, 3e38, 2, 1, floats(0.5, 0, 0), 0}, {floats(0, 0), greatest, 1, 1, 1, floats(greatest, 0), 0}, {floats(0), greatest, 1, 2, 1, floats(greatest / 2), 0},
	} {
		wantResults(t, all(impl.StepWave(c.areas, c.in, c.rate, c.step, c.tick)), all(c.want, c.out, true), "StepWave", c.areas, c.in, c.rate, c.step, c.tick)
		outs := floats(c.out)
		wantResults(t, all(impl.RunWave(c.areas, floats(c.in), c.rate, c.step, c.tick)), all(c.want, outs, true), "RunWave of one in", c.areas, c.in, c.rate, c.step, c.tick)
	}
}

// wantNoWave checks that StepWave fails, and that RunWave does so in this tick.
func wantNoWave(t *testing.T, areas []float32, in, rate, step, tick float32, what string) {
	t.Helper()
	wantResults(t, all(impl.StepWave(areas, in, rate, step, tick)), all(noFloats, float32(0), false), "StepWave", what, areas, in, rate, step, tick)
	wantResults(t, all(impl.RunWave(areas, floats(in), rate, step, tick)), all(noFloats, noFloats, false), "RunWave", what, areas, in, rate, step, tick)
	wantResults(t, all(impl.RunWave(areas, floats(in, 0, 0), rate, step, tick)), all(noFloats, noFloats, false), "RunWave", what, areas, in, rate, step, tick)
}

func TestWavesThatRunTooFar(t *testing.T) {
	for _, areas := range rows(floats(4), floats(4, 1), floats(1, 4), floats(0, 4, 1), append(make([]float32, impl.MaxCanal-1), 4)) {
		_, _, ok := impl.StepWave(areas, 1, 1, 3, 1)
		wantThat(t, ok, true, "StepWave where a wave runs a step", areas)
		wantNoWave(t, areas, 1, 1, under(3), 1, "a shorter step")
		wantNoWave(t, areas, 1, 1, 3, above(1), "a longer tick")
		wantNoWave(t, areas, 1, above(1), 3, 1, "a greater rate")
		wantNoWave(t, areas, 1, 1, 1, 1, "a short step")
		wantNoWave(t, areas, 1, 1, 1, greatest, "a very long tick")
		wantNoWave(t, areas, 1, greatest, 1, tiniest, "an infinite wave")
	}
	for _, area := range floats(number(0x40800002), 5, 1e30, greatest) {
		wantNoWave(t, floats(area), 1, 1, 3, 1, "a greater area")
	}
	_, _, ok := impl.StepWave(floats(above(4)), 1, 1, 3, 1)
	wantThat(t, ok, true, "StepWave where the root of a greater area is the same")
	// from left to right: 1.5 times the rate is rounded to 2 times it, and the product without the tick is infinite
	wantNoWave(t, floats(1), 0, tiniest, tiniest, 1, "rounded up")
	wantResults(t, all(impl.StepWave(floats(1), 0, tiniest, 2*tiniest, 1)), all(floats(0), tiniest, true), "StepWave of a wave that is rounded up")
	wantNoWave(t, floats(16), 1, 1e38, greatest, 0.1, "an infinite wave")
	wantNoWave(t, floats(1e-10), 1, greatest, greatest, 1e-10, "an infinite wave")
	_, _, ok = impl.StepWave(floats(1e-10), 1, 2e38, greatest, 1e-10)
	wantThat(t, ok, true, "StepWave of a wave that is nearly infinite")
}

func TestStepWaveFails(t *testing.T) {
	for _, areas := range wrongSlopes() {
		wantNoWave(t, areas, 0, 1, 100, 0.01, "areas")
	}
	for _, areas := range rows(floats(1), floats(0, 0), floats(4, 1)) {
		for _, x := range invalidNumbers() {
			wantNoWave(t, areas, x, 1, 100, 0.01, "in")
		}
		for _, x := range nonPositive() {
			wantNoWave(t, areas, 1, x, 100, 0.01, "rate")
			wantNoWave(t, areas, 1, 1, x, 0.01, "step")
			wantNoWave(t, areas, 1, 1, 100, x, "tick")
		}
	}
	// an area becomes infinite, or no number
	wantNoWave(t, floats(0), greatest, 1, 1, 2, "an infinite area")
	wantNoWave(t, floats(0, 0), 1, 1, tiniest, 1, "an infinite area")
	wantNoWave(t, floats(0), 0, 1, tiniest, 1, "no area")
	wantNoWave(t, floats(3e38), 3e38, 1e-38, 1, 1, "an infinite sum")
	// an infinite flow: through the last area, or through one before it
	wantNoWave(t, floats(greatest), 0, 1e-10, greatest, 1e-10, "an infinite flow")
	wantNoWave(t, floats(greatest, 0), 0, 1e-10, greatest, 1e-10, "an infinite flow")
	wantNoWave(t, floats(greatest, greatest, 0), 0, 1e-10, greatest, 1e-40, "infinite flows")
	wantNoWave(t, floats(greatest, 0), 0, 1e-10, greatest, tiniest, "an infinite flow")
}

func TestRunWaveByHand(t *testing.T) {
	wantResults(t, all(impl.RunWave(floats(4), floats(8, 8), 1, 8, 1)), all(floats(4), floats(8, 8), true), "RunWave")
	wantResults(t, all(impl.RunWave(floats(4), floats(0, 16), 1, 8, 1)), all(floats(plus(3, times(0.125, less(16, times(3, root(3)))))), floats(8, times(3, root(3))), true), "RunWave")
	wantResults(t, all(impl.RunWave(floats(0, 0), floats(8), 1, 8, 1)), all(floats(1, 0), floats(0), true), "RunWave")
	wantResults(t, all(impl.RunWave(floats(0, 0), floats(8, 0), 1, 8, 1)), all(floats(0.875, 0.125), floats(0, 0), true), "RunWave")
	upper, lower := times(0.875, root(0.875)), times(0.125, root(0.125))
	wantResults(t, all(impl.RunWave(floats(0, 0), floats(8, 0, 4), 1, 8, 1)), all(floats(plus(0.875, times(0.125, less(4, upper))), plus(0.125, times(0.125, less(upper, lower)))), floats(0, 0, lower), true), "RunWave")
}

func TestRunWaveFails(t *testing.T) {
	failed := all(noFloats, noFloats, false)
	for _, ins := range wrongIns() {
		wantResults(t, all(impl.RunWave(floats(1), ins, 1, 100, 0.01)), failed, "RunWave with the ins", len(ins))
	}
	for _, x := range invalidNumbers() {
		for _, ins := range rows(floats(x), floats(x, 1), floats(1, x), append(make([]float32, impl.MaxRain-1), x)) {
			wantResults(t, all(impl.RunWave(floats(1), ins, 1, 100, 0.01)), failed, "RunWave with the ins", ins)
		}
	}
	// An in makes the tick behind it fail, where the wave runs too far, but the last one does not.
	wantResults(t, all(impl.RunWave(floats(0), floats(9), 1, 1, 1)), all(floats(9), floats(0), true), "RunWave of much")
	wantResults(t, all(impl.RunWave(floats(0), floats(0, 0, 9), 1, 1, 1)), all(floats(9), floats(0, 0, 0), true), "RunWave of much at last")
	wantResults(t, all(impl.RunWave(floats(0), floats(9, 0), 1, 1, 1)), failed, "RunWave of much")
	wantResults(t, all(impl.RunWave(floats(0), floats(0, 9, 0, 0), 1, 1, 1)), failed, "RunWave of much")
	wantResults(t, all(impl.RunWave(floats(0), floats(0, 0, greatest), 1, 1, 2)), failed, "RunWave of too much at last")
	wantResults(t, all(impl.RunWave(floats(0, 0), floats(9, 0, 0), 1, 1, 1)), failed, "RunWave of much")
}

func TestWavesAtTheirLimits(t *testing.T) {
	d := drawer(521)
	for _, count := range []int{1, 2, impl.MaxCanal - 1, impl.MaxCanal} {
		for _, ticks := range []int{1, 2, impl.MaxRain} {
			areas, ins := d.rain(count, 3), d.rain(ticks, 3)
			for i := range areas {
				areas[i] = times(areas[i], 0.01)
			}
			for i := range ins {
				ins[i] = d.between(0, 1)
			}
			next, outs, ok := runWaveOracle(areas, ins, 0.5, 64, 4)
			wantThat(t, ok && len(next) == count && len(outs) == ticks, true, "the oracle", count, ticks)
			wantResults(t, all(impl.RunWave(areas, ins, 0.5, 64, 4)), all(next, outs, true), "RunWave", count, ticks)
		}
	}
}

func TestWavesOfAllKinds(t *testing.T) {
	d := drawer(522)
	failed := 0
	for n := range 8000 {
		kinds := tame + n%4
		areas, in := d.rain(1+int(d.next()%impl.MaxCanal), kinds), d.amount(kinds)
		rate, step := d.length(kinds), d.length(kinds)
		tick := d.tickFor(areas, rate, step)
		if n%16 == 0 {
			tick = d.length(kinds)
		}
		next, out, ok := stepWaveOracle(areas, in, rate, step, tick)
		wantResults(t, all(impl.StepWave(areas, in, rate, step, tick)), all(next, out, ok), "StepWave", areas, in, rate, step, tick)
		if !ok {
			failed++
		}
		if n%4 == 0 {
			ins := d.rain(1+int(d.next()%9), kinds)
			next, outs, ok := runWaveOracle(areas, ins, rate, step, tick)
			wantResults(t, all(impl.RunWave(areas, ins, rate, step, tick)), all(next, outs, ok), "RunWave", areas, ins, rate, step, tick)
		}
	}
	wantThat(t, failed > 500 && failed < 5000, true, "StepWave is tried with waves that fail, and that do not", failed)
}

// What has flowed in is on the slope, or has flowed out.
func TestWavesLoseNothing(t *testing.T) {
	d := drawer(523)
	for range 500 {
		areas := make([]float32, 1+d.next()%impl.MaxCanal)
		for i := range areas {
			areas[i] = d.between(0, 20)
		}
		ins, rate, step := make([]float32, 100), d.between(0.1, 3), d.between(10, 100)
		for i := range ins {
			ins[i] = times(rate, d.between(0, 50)) // as much as through an area of about 13
		}
		tick := over(step, times(times(rate, 1.6), root(20)))
		next, outs, ok := impl.RunWave(areas, ins, rate, step, tick)
		came := wideSum(areas)*float64(step) + wideSum(ins)*float64(tick)
		left := wideSum(next)*float64(step) + wideSum(outs)*float64(tick)
		wantThat(t, ok && isNear(came, left, came), true, "RunWave", rate, step, tick, came, left)
	}
}

// A slope through which the same flows everywhere stays as it is, and others
// come to this.
func TestWavesComeToRest(t *testing.T) {
	d := drawer(524)
	for range 200 {
		areas := evenList(1+int(d.next()%impl.MaxCanal), d.between(0.5, 20))
		rate, step := d.between(0.1, 3), d.between(10, 100)
		in := must(impl.WaveFlow(rate, areas[0]))
		tick := over(step, times(times(rate, 1.6), root(20)))
		wantResults(t, all(impl.StepWave(areas, in, rate, step, tick)), all(areas, in, true), "StepWave of an even slope", areas, rate, step, tick)
		next := make([]float32, min(len(areas), 10))
		for range 3 {
			next, _, _ = impl.RunWave(next, evenList(impl.MaxRain, in), rate, step, tick)
		}
		wantThat(t, len(next) > 0 && isClose(slices.Min(next), areas[0], 0.01) && isClose(slices.Max(next), areas[0], 0.01), true, "RunWave comes to rest", areas[0], next)
	}
}

// A flood comes later further down, and is never higher than what comes in.
func TestFloodsRunDown(t *testing.T) {
	ins := append(evenList(10, 8), evenList(impl.MaxRain-10, 1)...)
	begins := -1
	for count := 1; count <= impl.MaxCanal; count *= 2 {
		_, outs, ok := impl.RunWave(evenList(count, 1), ins, 1, 8, 1)
		first := slices.IndexFunc(outs, func(x float32) bool { return x > 1.01 })
		wantThat(t, ok && first > begins && slices.Max(outs) <= 8.0001 && math.Abs(float64(slices.Min(outs)-1)) < 1e-4, true, "RunWave of a flood", count, first, outs)
		begins = first
	}
}
