package tests

import (
	"math"
	"testing"

	"loop.example/g01302/impl"
)

var noSnow impl.Snow

func TestValidSnows(t *testing.T) {
	for _, x := range sampleNumbers(200) {
		for _, s := range []impl.Snow{snow(x, 1, 1, 1), snow(1, x, 1, 1), snow(1, 1, x, 1), snow(1, 1, 1, x)} {
			wantThat(t, impl.ValidSnow(s), validSnowOracle(s), "ValidSnow", s)
		}
	}
	for _, s := range []impl.Snow{{}, snow(minusZero, minusZero, minusZero, minusZero), snow(greatest, 1, greatest, greatest), snow(0, tiniest, 0, 9)} {
		wantThat(t, impl.ValidSnow(s), true, "ValidSnow", s)
	}
	for _, s := range []impl.Snow{snow(0, number(0x3f800001), 0, 0), snow(0, -tiniest, 0, 0), snow(0, notANumber, 0, 0), snow(infinity, 0, 0, 0), snow(0, 0, -1, 0), snow(0, 0, 0, infinity)} {
		wantThat(t, impl.ValidSnow(s), false, "ValidSnow", s)
	}
}

func TestSameSnows(t *testing.T) {
	a := snow(1, notANumber, minusZero, infinity)
	wantThat(t, impl.SameSnow(a, snow(1, number(0xff800001), minusZero, infinity)), true, "SameSnow with other not-a-numbers")
	for _, b := range []impl.Snow{snow(2, notANumber, minusZero, infinity), snow(1, 1, minusZero, infinity), snow(1, notANumber, 0, infinity), snow(1, notANumber, minusZero, minusInf)} {
		wantThat(t, impl.SameSnow(a, b) || impl.SameSnow(b, a), false, "SameSnow", a, b)
	}
	wantThat(t, impl.SameSnow(noSnow, snow(0, 0, 0, 0)), true, "SameSnow")
	for _, b := range []impl.Snow{snow(minusZero, 0, 0, 0), snow(0, minusZero, 0, 0), snow(0, 0, minusZero, 0), snow(0, 0, 0, minusZero)} {
		wantThat(t, impl.SameSnow(noSnow, b) || !impl.SameSnow(b, b), false, "SameSnow of zeros", b)
	}
}

func TestStepSnowByHand(t *testing.T) {
	for _, c := range []struct {
		s                impl.Snow
		fall, warm, tick float32
		ice, water, out  float32
	}{
		{snow(0.5, 0.5, 4, 0), 1, -1, 1, 5, 0, 0}, {snow(0.5, 0.5, 4, 0), 1, 4, 1, 2, 1, 2}, {snow(0.5, 0.5, 4, 0), 0, 1, 2, 3, 1, 0}, {snow(0.5, 0.5, 4, 2), 0, 0, 1, 4, 2, 0},
		// warm of 0 melts nothing, and what falls is snow
		{snow(9, 0.5, 4, 0), 1, 0, 1, 5, 0, 0}, {snow(9, 0.5, 4, 0), 1, minusZero, 1, 5, 0, 0}, {snow(9, 0.5, 4, 0), 1, -greatest, greatest, 5, 0, 0}, {snow(1, 1, 4, 0), 1, tiniest, 1, 4, 1, 0}, {snow(9, 0.5, 4, 5), 0, -1, 1, 4, 2, 3},
		// no more melts than there is
		{snow(1, 1, 4, 0), 1, 5, 1, 0, 0, 5}, {snow(1, 1, 4, 0), 1, 4, 1, 0, 0, 5}, {snow(1, 0.5, 0, 0), 1, 4, 1, 0, 0, 1}, {snow(greatest, 0.5, 8, 1), 1, greatest, greatest, 0, 0, 10},
		// Keep of 0 and 1
		{snow(1, 0, 4, 0), 0, 1, 1, 3, 0, 1}, {snow(1, 0, 4, 7), 1, -1, 1, 5, 0, 7}, {snow(1, 1, 4, 0), 0, 1, 1, 3, 1, 0}, {snow(1, 1, 4, 7), 0, -1, 1, 4, 4, 3}, {snow(1, 1, 4, 4), 0, -1, 1, 4, 4, 0}, {snow(1, minusZero, 4, 1), 0, -1, 1, 4, minusZero, 1}, {snow(1, minusZero, 4, 0), 0, -1, 1, 4, 0, 0},
		// where nothing runs out, Water stays what it is, and what runs out is +0
		{snow(1, 0, 4, minusZero), 0, -1, 1, 4, minusZero, 0}, {snow(1, 1, 4, 1), 0, -1, 1, 4, 1, 0}, {snow(0, 0.5, minusZero, minusZero), minusZero, -1, 1, minusZero, minusZero, 0}, {snow(0, 0.5, minusZero, 0), 0, -1, 1, 0, 0, 0}, {snow(0, 0.5, 4, minusZero), minusZero, 1, 1, 4, 0, 0},
		// from left to right: the first product is infinite, or 0
		{snow(3e38, 0, 4, 0), 0, 10, 1e-38, 0, 0, 4}, {snow(1e-30, 0, 4, 0), 0, 1e-30, 1e30, 4, 0, 0},
		// what melts and falls goes together: 1 alone is lost beside 2 to the power of 24
		{snow(1, 0, 4, 16777216), 1, 1, 1, 3, 0, 16777218}, {snow(1, 1, 16777216, 0), 1, -1, 1, 16777216, 0, 0},
		{snow(1, 1, greatest, greatest), 0, -1, 1, greatest, greatest, 0}, {snow(0, 1, greatest, 0), greatest, 1, 1, greatest, greatest, 0}, {snow(tiniest, 0, 1, 0), 0, 1, 1, 1, 0, tiniest},
	} {
		want := c.s
		want.Ice, want.Water = c.ice, c.water
		wantResults(t, all(impl.StepSnow(c.s, c.fall, c.warm, c.tick)), all(want, c.out, true), "StepSnow", c.s, c.fall, c.warm, c.tick)
	}
}

func TestStepSnowFails(t *testing.T) {
	good := snow(1, 0.5, 3, 1)
	failed := all(noSnow, float32(0), false)
	for _, warm := range floats(-1, 0, 1) {
		for _, x := range invalidNumbers() {
			wantResults(t, all(impl.StepSnow(good, x, warm, 1)), failed, "StepSnow with the fall", x, warm)
			wantResults(t, all(impl.StepSnow(good, 1, warm, x)), failed, "StepSnow with the tick", x, warm)
			for _, s := range []impl.Snow{snow(x, 1, 1, 1), snow(1, x, 1, 1), snow(1, 1, x, 1), snow(1, 1, 1, x)} {
				wantResults(t, all(impl.StepSnow(s, 1, warm, 1)), failed, "StepSnow", s, warm)
			}
		}
		for _, tick := range floats(0, minusZero) {
			wantResults(t, all(impl.StepSnow(good, 1, warm, tick)), failed, "StepSnow with the tick", tick, warm)
		}
		wantResults(t, all(impl.StepSnow(snow(1, 2, 1, 1), 1, warm, 1)), failed, "StepSnow that keeps more than there is", warm)
	}
	for _, warm := range floats(notANumber, number(0xff800001), infinity, minusInf) {
		wantResults(t, all(impl.StepSnow(good, 1, warm, 1)), failed, "StepSnow with the warm", warm)
	}
	// numbers that become infinite: Ice, what comes into Water, Water, and what runs out
	wantResults(t, all(impl.StepSnow(snow(1, 0, 3e38, 0), 3e38, -1, 1)), failed, "StepSnow with too much ice")
	wantResults(t, all(impl.StepSnow(snow(1, 1, 3e38, 0), 3e38, -1, 1)), failed, "StepSnow with too much ice")
	wantResults(t, all(impl.StepSnow(snow(1, 0, 3e38, 0), 3e38, 3e38, 1)), failed, "StepSnow with too much that melts and falls")
	wantResults(t, all(impl.StepSnow(snow(1, 0, 0, 3e38), 3e38, 1, 1)), failed, "StepSnow with too much water")
	wantResults(t, all(impl.StepSnow(snow(0, 1, 3e38, 3e38), 3e38, 1, 1)), failed, "StepSnow with too much water")
}

func TestRunSnowByHand(t *testing.T) {
	wantResults(t, all(impl.RunSnow(snow(0.5, 0.5, 4, 0), floats(1, 1), floats(-1, 100), 1)), all(snow(0.5, 0.5, 0, 0), floats(0, 6), true), "RunSnow")
	wantResults(t, all(impl.RunSnow(snow(1, 0.5, 0, 0), floats(8, 0, 2, 0), floats(0, 2, -3, 1), 1)), all(snow(1, 0.5, 7, 3), floats(0, 0, 0, 0), true), "RunSnow that keeps all")
	for _, s := range []impl.Snow{noSnow, snow(1, 0, 2, 3), snow(minusZero, minusZero, minusZero, minusZero)} {
		wantResults(t, all(impl.RunSnow(s, nil, nil, 1)), all(s, noFloats, true), "RunSnow without rain", s)
	}
}

func TestRunSnowFails(t *testing.T) {
	good := snow(1, 0.5, 3, 1)
	failed := all(noSnow, noFloats, false)
	for _, c := range [][2][]float32{{{1}, nil}, {nil, {1}}, {{1, 2}, {1}}, {{1}, {1, 2}}, {make([]float32, impl.MaxRain), make([]float32, impl.MaxRain-1)}, {make([]float32, impl.MaxRain+1), make([]float32, impl.MaxRain+1)}} {
		wantResults(t, all(impl.RunSnow(good, c[0], c[1], 1)), failed, "RunSnow with lists of the lengths", len(c[0]), len(c[1]))
	}
	for _, list := range [][]float32{nil, {1}, {1, 2}} {
		for _, x := range append(invalidNumbers(), 0, minusZero) {
			wantResults(t, all(impl.RunSnow(good, list, list, x)), failed, "RunSnow with the tick", list, x)
		}
		for _, x := range invalidNumbers() {
			for _, s := range []impl.Snow{snow(x, 1, 1, 1), snow(1, x, 1, 1), snow(1, 1, x, 1), snow(1, 1, 1, x)} {
				wantResults(t, all(impl.RunSnow(s, list, list, 1)), failed, "RunSnow", s, list)
			}
			longer := append(list[:len(list):len(list)], x)
			wantResults(t, all(impl.RunSnow(good, longer, make([]float32, len(longer)), 1)), failed, "RunSnow with the rain", longer)
			if !finite(x) {
				wantResults(t, all(impl.RunSnow(good, make([]float32, len(longer)), longer, 1)), failed, "RunSnow with the warms", longer)
			}
		}
	}
	_, outs, ok := impl.RunSnow(good, make([]float32, impl.MaxRain), make([]float32, impl.MaxRain), 1)
	wantThat(t, ok && len(outs) == impl.MaxRain, true, "RunSnow with MaxRain numbers")
	wantResults(t, all(impl.RunSnow(snow(1, 0, 0, 0), floats(3e38, 1), floats(-1, -1), 1)), all(snow(1, 0, 3e38, 0), floats(0, 0), true), "RunSnow of much snow")
	wantResults(t, all(impl.RunSnow(snow(1, 0, 0, 0), floats(3e38, 1, 3e38), floats(-1, -1, -1), 1)), failed, "RunSnow that fails at last")
}

func TestSnowsOfAllKinds(t *testing.T) {
	d := drawer(330)
	failed := 0
	for n := range 6000 {
		kinds := tame + n%4
		s, tick := d.snow(kinds), d.length(kinds)
		rain := d.rain(int(d.next()%12), kinds)
		warms := make([]float32, len(rain))
		for k := range warms {
			warms[k] = d.amount(kinds) - d.amount(kinds)
		}
		for k, fall := range rain {
			next, out, ok := stepSnowOracle(s, fall, warms[k], tick)
			wantResults(t, all(impl.StepSnow(s, fall, warms[k], tick)), all(next, out, ok), "StepSnow", s, fall, warms[k], tick)
		}
		next, outs, ok := runSnowOracle(s, rain, warms, tick)
		wantResults(t, all(impl.RunSnow(s, rain, warms, tick)), all(next, outs, ok), "RunSnow", s, rain, warms, tick)
		if !ok {
			failed++
		}
	}
	wantThat(t, failed > 100 && failed < 3000, true, "RunSnow is tried with snow that fails, and that does not", failed)
}

// What falls is ice, or water that is kept, or has run out.
func TestSnowsLoseNothing(t *testing.T) {
	d := drawer(331)
	for range 2000 {
		s := d.snow(tame)
		rain, warms := d.rain(impl.MaxRain, tame), make([]float32, impl.MaxRain)
		for k := range warms {
			warms[k] = d.moderate() / 100
		}
		next, outs, ok := impl.RunSnow(s, rain, warms, d.length(tame))
		came := wideSum(rain, floats(s.Ice, s.Water))
		if left := wideSum(outs, floats(next.Ice, next.Water)); !ok || !impl.ValidSnow(next) || !impl.IsRain(outs) || !isNear(came, left, came) {
			t.Errorf("RunSnow of %v makes %v of %v", s, left, came)
		}
		if next.Water > next.Keep*next.Ice {
			t.Errorf("RunSnow of %v leaves too much water in %v", s, next)
		}
	}
}

func TestRunBucketsByHand(t *testing.T) {
	// What e to the power of -1 leaves, and what it lets go.
	kept, gone := number(0x3ebc5ab2), number(0x3f21d2a7)
	for _, c := range []struct {
		stores       []float32
		rate, tick   float32
		rain         []float32
		behind, lets []float32
	}{
		{floats(8), 0, 1, floats(1, 1), floats(10), floats(0, 0)}, {floats(8), minusZero, 1, floats(1, 1), floats(10), floats(0, 0)}, {floats(8), 0, greatest, floats(1), floats(9), floats(0)},
		{floats(0), 1, 1, floats(1), floats(less(1, gone)), floats(gone)}, {floats(0), 0.5, 2, floats(1), floats(less(1, gone)), floats(gone)}, {floats(1), 1, 1, floats(0), floats(less(1, gone)), floats(gone)}, {floats(4), 4, 0.25, floats(0), floats(less(4, 4*gone)), floats(4 * gone)},
		{floats(0, 0), 1, 1, floats(1), floats(less(1, gone), less(gone, times(gone, gone))), floats(times(gone, gone))},
		// all is let go at once, also where rate times tick is infinite
		{floats(3, 4, 5), 100, 1, floats(1, 2), floats(0, 0, 0), floats(13, 2)}, {floats(3, 4, 5), 200, 1, floats(1, 2), floats(0, 0, 0), floats(13, 2)}, {floats(3, 4, 5), 201, 1, floats(1, 2), floats(0, 0, 0), floats(13, 2)}, {floats(3, 4, 5), greatest, 1, floats(1, 2), floats(0, 0, 0), floats(13, 2)}, {floats(3, 4, 5), greatest, greatest, floats(1, 2), floats(0, 0, 0), floats(13, 2)},
		{floats(3, 4), tiniest, tiniest, floats(1), floats(4, 4), floats(0)}, {floats(greatest), 0, 1, floats(1), floats(greatest), floats(0)},
		{evenList(impl.MaxBuckets, 1), 0, 1, floats(1), append(floats(2), evenList(impl.MaxBuckets-1, 1)...), floats(0)},
		// without rain, nothing is done
		{floats(1, minusZero, 3), 1, 1, nil, floats(1, minusZero, 3), nil}, {floats(minusZero), 0, 1, floats(minusZero), floats(0), floats(minusZero)}, {floats(greatest, greatest), 1, 1, nil, floats(greatest, greatest), nil},
	} {
		wantResults(t, all(impl.RunBuckets(c.stores, c.rate, c.tick, c.rain)), all(c.behind, c.lets, true), "RunBuckets", c.stores, c.rate, c.tick, c.rain)
	}
	wantNumber(t, less(1, kept), gone, "the share that is let go")
}

func TestRunBucketsFails(t *testing.T) {
	failed := all(noFloats, noFloats, false)
	for _, rain := range [][]float32{nil, {1}, make([]float32, impl.MaxRain)} {
		for _, stores := range [][]float32{nil, {}, make([]float32, impl.MaxBuckets+1), {-1}, {1, notANumber}, {1, 2, infinity}, {minusInf, 1}, {-tiniest, 1}} {
			wantResults(t, all(impl.RunBuckets(stores, 1, 1, rain)), failed, "RunBuckets", stores, rain)
		}
		for _, x := range invalidNumbers() {
			wantResults(t, all(impl.RunBuckets(floats(1), x, 1, rain)), failed, "RunBuckets with the rate", x, rain)
			wantResults(t, all(impl.RunBuckets(floats(1), 1, x, rain)), failed, "RunBuckets with the tick", x, rain)
			wantResults(t, all(impl.RunBuckets(floats(1), 1, 1, floats(1, x))), failed, "RunBuckets with the rain", x)
		}
		for _, tick := range floats(0, minusZero) {
			wantResults(t, all(impl.RunBuckets(floats(1), 1, tick, rain)), failed, "RunBuckets with the tick", tick, rain)
		}
	}
	wantResults(t, all(impl.RunBuckets(floats(1), 1, 1, make([]float32, impl.MaxRain+1))), failed, "RunBuckets with too much rain")
	// A store that becomes infinite, at first and at last, and with all rates.
	for _, rate := range floats(0, 1, 100, greatest) {
		wantResults(t, all(impl.RunBuckets(floats(3e38), rate, 1, floats(3e38))), failed, "RunBuckets with too much rain", rate)
		wantResults(t, all(impl.RunBuckets(floats(3e38), rate, 1, floats(3e38, 0, 0))), failed, "RunBuckets with too much rain at first", rate)
		wantResults(t, all(impl.RunBuckets(floats(0), 0, rate+1, floats(3e38, 3e38))), failed, "RunBuckets with too much rain at last", rate)
	}
	wantResults(t, all(impl.RunBuckets(floats(3e38, 3e38), 100, 1, floats(0))), failed, "RunBuckets where the second store becomes infinite")
}

func TestBucketsOfAllKinds(t *testing.T) {
	d := drawer(332)
	failed := 0
	for n := range 3000 {
		kinds := tame + n%4
		stores, rain := d.rain(1+int(d.next()%impl.MaxBuckets), kinds), d.rain(int(d.next()%14), kinds)
		rate, tick := d.amount(kinds), d.length(kinds)
		if n%3 > 0 {
			rate = float32(d.next()%3000) / 1000
		}
		behind, lets, ok := bucketsOracle(stores, rate, tick, rain)
		wantResults(t, all(impl.RunBuckets(stores, rate, tick, rain)), all(behind, lets, ok), "RunBuckets", stores, rate, tick, rain)
		if !ok {
			failed++
		}
	}
	wantThat(t, failed > 100 && failed < 1500, true, "RunBuckets is tried with buckets that fail, and that do not", failed)
}

// What comes into buckets is in them, or has come out.
func TestBucketsLoseNothing(t *testing.T) {
	d := drawer(333)
	for range 300 {
		stores, rain := d.rain(1+int(d.next()%impl.MaxBuckets), tame), d.rain(impl.MaxRain, tame)
		behind, lets, ok := impl.RunBuckets(stores, float32(d.next()%3000)/1000, d.length(1), rain)
		came := wideSum(stores, rain)
		if left := wideSum(behind, lets); !ok || !isNear(came, left, came) {
			t.Errorf("RunBuckets makes %v of %v", left, came)
		}
	}
}

func TestUnitList(t *testing.T) {
	gone := number(0x3f21d2a7)
	wantResults(t, all(impl.UnitList(1, 1, 1, 1)), all(floats(gone), true), "UnitList of one bucket and one number")
	wantResults(t, all(impl.UnitList(2, 0, 1, 2)), all(floats(0, 0), true), "UnitList of the rate 0")
	wantResults(t, all(impl.UnitList(3, greatest, 2, 3)), all(floats(1, 0, 0), true), "UnitList of a great rate")
	left := less(1, gone)
	wantResults(t, all(impl.UnitList(1, 1, 1, 2)), all(floats(gone, times(left, gone)), true), "UnitList of one bucket")
	for buckets := int64(1); buckets <= impl.MaxBuckets; buckets++ {
		for _, rate := range floats(0, minusZero, 0.01, 0.3, 1, 7, 300, tiniest, greatest) {
			for _, count := range ints(1, 2, 30, impl.MaxRain) {
				unit, ok := impl.UnitList(buckets, rate, 0.7, count)
				wantResults(t, all(unit, ok), all(unitOracle(buckets, rate, 0.7, count), true), "UnitList", buckets, rate, count)
				if sum := wideSum(unit); sum > 1.0001 || rate == 7 && count == 30 && sum < 0.999 {
					t.Errorf("UnitList(%v, %v, 0.7, %v) is %v in all", buckets, rate, count, sum)
				}
			}
		}
	}
	failed := all(noFloats, false)
	for _, buckets := range ints(0, -1, impl.MaxBuckets+1, math.MaxInt64, math.MinInt64, 1<<32+1) {
		wantResults(t, all(impl.UnitList(buckets, 1, 1, 3)), failed, "UnitList of buckets", buckets)
	}
	for _, count := range ints(0, -1, impl.MaxRain+1, math.MaxInt64, math.MinInt64, 1<<32+1) {
		wantResults(t, all(impl.UnitList(2, 1, 1, count)), failed, "UnitList of the length", count)
	}
	for _, x := range invalidNumbers() {
		wantResults(t, all(impl.UnitList(2, x, 1, 3)), failed, "UnitList with the rate", x)
		wantResults(t, all(impl.UnitList(2, 1, x, 3)), failed, "UnitList with the tick", x)
	}
	for _, tick := range floats(0, minusZero) {
		wantResults(t, all(impl.UnitList(2, 1, tick, 3)), failed, "UnitList with the tick", tick)
	}
}

func TestSpreadRainByHand(t *testing.T) {
	full, one := evenList(impl.MaxRain, 1), append(floats(1), make([]float32, impl.MaxRain-1)...)
	steps := make([]float32, impl.MaxRain)
	for k := range steps {
		steps[k] = float32(k + 1)
	}
	for _, c := range []struct{ rain, unit, want []float32 }{
		{floats(1, 2, 0), floats(3, 1), floats(3, 7, 2)}, {floats(1, 2, 3), floats(1), floats(1, 2, 3)}, {floats(1, 2, 3), floats(0, 1), floats(0, 1, 2)}, {floats(1, 2, 3), floats(0, 0, 0, 1), floats(0, 0, 0)}, {floats(5), floats(2, 9, 9), floats(10)}, {floats(5), floats(2), floats(10)},
		{floats(1, 2), nil, floats(0, 0)}, {nil, floats(1, 2), nil}, {nil, nil, nil}, {floats(minusZero, 1), floats(1), floats(0, 1)}, {floats(1, 1), floats(minusZero), floats(0, 0)},
		{full, full, steps}, {full, floats(1), full}, {one, steps, steps}, {steps, one, steps}, {floats(3), steps, floats(3)}, {full, floats(1, 1), append(floats(1), evenList(impl.MaxRain-1, 2)...)},
		// in the order of the rain: 1 is lost beside 2 to the power of 24, but 2 times 1 is not
		{floats(16777216, 1, 1), floats(1, 1, 1), floats(16777216, 16777216, 16777216)}, {floats(1, 1, 16777216), floats(1, 1, 1), floats(1, 2, 16777218)},
		{floats(greatest, 0), floats(1, 1), floats(greatest, greatest)}, {floats(tiniest, 1), floats(0.5), floats(0, 0.5)}, {floats(1e-30, 1), floats(1e-30), floats(0, 1e-30)},
	} {
		wantResults(t, all(impl.SpreadRain(c.rain, c.unit)), all(c.want, true), "SpreadRain", c.rain, c.unit)
	}
}

func TestSpreadRainFails(t *testing.T) {
	failed := all(noFloats, false)
	for _, x := range invalidNumbers() {
		for _, other := range [][]float32{nil, {1}, {1, 2}} {
			wantResults(t, all(impl.SpreadRain(floats(1, x), other)), failed, "SpreadRain", x, other)
			wantResults(t, all(impl.SpreadRain(other, floats(1, x))), failed, "SpreadRain with the unit", x, other)
			wantResults(t, all(impl.SpreadRain(other, floats(1, 0, 0, x))), failed, "SpreadRain with a longer unit", x, other)
		}
	}
	for _, other := range [][]float32{nil, {1}, make([]float32, impl.MaxRain)} {
		wantResults(t, all(impl.SpreadRain(make([]float32, impl.MaxRain+1), other)), failed, "SpreadRain of too much rain")
		wantResults(t, all(impl.SpreadRain(other, make([]float32, impl.MaxRain+1))), failed, "SpreadRain with too long a unit")
	}
	wantResults(t, all(impl.SpreadRain(floats(1e20, 0), floats(1e20))), failed, "SpreadRain with a great product")
	wantResults(t, all(impl.SpreadRain(floats(3e38, 3e38), floats(1, 1))), failed, "SpreadRain with a great sum")
	wantResults(t, all(impl.SpreadRain(floats(0, 1e20), floats(0, 1e20))), all(floats(0, 0), true), "SpreadRain with a great product behind the end")
}

func TestRainIsSpreadInAllWays(t *testing.T) {
	d := drawer(334)
	failed := 0
	for n := range 2000 {
		kinds := tame + n%4
		rain, unit := d.rain(int(d.next()%24), kinds), d.rain(int(d.next()%24), kinds)
		want, ok := spreadOracle(rain, unit)
		wantResults(t, all(impl.SpreadRain(rain, unit)), all(want, ok), "SpreadRain", rain, unit)
		if !ok {
			failed++
		}
	}
	wantThat(t, failed > 100 && failed < 1000, true, "SpreadRain is tried with rain that fails, and that does not", failed)
}

// Buckets spread rain as their unit does, and all of it comes through in time.
func TestUnitsSpreadAsBucketsDo(t *testing.T) {
	d := drawer(335)
	for range 200 {
		buckets := 1 + int(d.next()%impl.MaxBuckets)
		rain := append(d.rain(20, tame), make([]float32, 100)...)
		_, lets, ok := impl.RunBuckets(make([]float32, buckets), 0.8, 1, rain)
		unit, good := impl.UnitList(int64(buckets), 0.8, 1, impl.MaxRain)
		spread, fine := impl.SpreadRain(rain, unit)
		if !ok || !good || !fine {
			t.Errorf("RunBuckets, UnitList and SpreadRain of %v: %v, %v, %v", rain, ok, good, fine)
			continue
		}
		sum := wideSum(rain)
		for k := range rain {
			if !isNear(float64(lets[k]), float64(spread[k]), sum) {
				t.Errorf("%d buckets let %v go in the tick %d, but their unit spreads %v", buckets, lets[k], k, spread[k])
			}
		}
		if !isNear(wideSum(spread), sum, 10*sum) {
			t.Errorf("%v is spread, and becomes %v", sum, wideSum(spread))
		}
	}
}
