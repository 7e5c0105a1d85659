package tests

import (
	"math"
	"runtime"
	"slices"
	"sync"
	"testing"
	"time"

	"loop.example/g01302/impl"
)

// wantRainList checks RainList, and RainShared with all numbers of workers.
func wantRainList(t *testing.T, list []impl.Storm, tick float32, count int64, want []float32, ok bool) {
	t.Helper()
	wantResults(t, all(impl.RainList(list, tick, count)), all(want, ok), "RainList", list, tick, count)
	for workers := int64(1); workers <= impl.MaxWorkers; workers++ {
		wantResults(t, all(impl.RainShared(list, tick, count, workers)), all(want, ok), "RainShared", list, tick, count, workers)
	}
}

func TestRainListByHand(t *testing.T) {
	even := storm(0, 2, 4, 0.5)
	for _, c := range []struct {
		list  []impl.Storm
		tick  float32
		count int64
		want  []float32
	}{
		{[]impl.Storm{even}, 1, 3, floats(2, 2, 0)}, {[]impl.Storm{even}, 0.5, 5, floats(0.5, 1.5, 1.5, 0.5, 0)}, {[]impl.Storm{even}, 4, 2, floats(4, 0)},
		{[]impl.Storm{even, storm(1, 2, 4, 0.5)}, 1, 4, floats(2, 4, 2, 0)}, {[]impl.Storm{even, even, even}, 1, 1, floats(6)},
		{nil, 1, 3, floats(0, 0, 0)}, {nil, 1, 0, nil}, {[]impl.Storm{even}, 1, 0, nil}, {nil, greatest, 0, nil}, {nil, greatest, 1, floats(0)}, {nil, tiniest, 2, floats(0, 0)},
		{[]impl.Storm{storm(0, 2, 0, 0.5)}, 1, 3, floats(0, 0, 0)}, {[]impl.Storm{storm(0, 2, minusZero, 0.5)}, 1, 3, floats(0, 0, 0)}, {[]impl.Storm{storm(0, 2, minusZero, 0.5), even}, 1, 3, floats(2, 2, 0)},
		{[]impl.Storm{storm(5, 2, 1, 0.5)}, 1, 3, floats(0, 0, 0)}, {[]impl.Storm{storm(0, 1, greatest, 0.5)}, 1, 2, floats(greatest, 0)},
		// in the order of the list: 1 is lost beside 2 to the power of 24, but 2 times 1 is not
		{[]impl.Storm{storm(0, 1, 16777216, 0.5), storm(0, 1, 1, 0.5), storm(0, 1, 1, 0.5)}, 1, 1, floats(16777216)},
		{[]impl.Storm{storm(0, 1, 1, 0.5), storm(0, 1, 1, 0.5), storm(0, 1, 16777216, 0.5)}, 1, 1, floats(16777218)},
	} {
		wantRainList(t, c.list, c.tick, c.count, c.want, true)
	}
	wantRainList(t, []impl.Storm{storm(0, 1, 3e38, 0.5), storm(0, 1, 3e38, 0.5)}, 1, 2, nil, false)
	wantRainList(t, []impl.Storm{storm(0, 1, 3e38, 0.5), storm(1, 1, 3e38, 0.5)}, 1, 2, floats(3e38, 3e38), true)
}

func TestRainListAtItsLimits(t *testing.T) {
	d := drawer(310)
	many := d.storms(impl.MaxStorms, tame)
	for _, count := range ints(0, 1, impl.MaxRain) {
		want, ok := rainListOracle(many, 0.75, count)
		wantThat(t, ok, true, "there is the rain of many storms")
		wantRainList(t, many, 0.75, count, want, true)
	}
	for _, count := range ints(-1, impl.MaxRain+1, math.MaxInt64, math.MinInt64, 1<<32) {
		wantRainList(t, many, 1, count, nil, false)
		wantRainList(t, nil, 1, count, nil, false)
	}
	wantRainList(t, append(many, storm(0, 1, 1, 0.5)), 1, 1, nil, false)
	for _, tick := range append(invalidNumbers(), 0, minusZero) {
		for _, count := range ints(0, 1, 5) {
			wantRainList(t, nil, tick, count, nil, false)
			wantRainList(t, many[:1], tick, count, nil, false)
		}
	}
	for i := range many {
		wrong := slices.Clone(many)
		wrong[i].Peak = 1
		wantRainList(t, wrong, 1, 0, nil, false)
		wantRainList(t, wrong, 1, 3, nil, false)
	}
}

func TestTimesMustBeFinite(t *testing.T) {
	for _, list := range [][]impl.Storm{nil, {storm(0, 1, 1, 0.5)}} {
		for _, c := range []struct {
			tick  float32
			count int64
			ok    bool
		}{
			{greatest, 0, true}, {greatest, 1, true}, {greatest, 2, false}, {greatest, impl.MaxRain, false}, {greatest / 2, 2, true}, {greatest / 2, 3, false}, {1e38, 3, true}, {1e38, 4, false},
			{greatest / 128, 128, true}, {number(bits(greatest/128) + 1), 127, true}, {number(bits(greatest/128) + 1), 128, false}, {greatest / 64, 64, true}, {greatest / 64, 65, false},
		} {
			_, ok := impl.RainList(list, c.tick, c.count)
			wantThat(t, ok, c.ok, "RainList", list, c.tick, c.count)
			for workers := int64(1); workers <= impl.MaxWorkers; workers++ {
				_, ok := impl.RainShared(list, c.tick, c.count, workers)
				wantThat(t, ok, c.ok, "RainShared", list, c.tick, c.count, workers)
			}
		}
	}
}

func TestRainListsOfAllKinds(t *testing.T) {
	d := drawer(311)
	made := 0
	for range 600 {
		kinds := tame + int(d.next()%4)
		list := d.storms(int(d.next()%25), kinds)
		tick, count := d.length(kinds), int64(d.next()%129)
		want, ok := rainListOracle(list, tick, count)
		if ok {
			made++
		}
		wantRainList(t, list, tick, count, want, ok)
	}
	wantThat(t, made > 300 && made < 600, true, "RainList is tried with rain that there is, and that there is not", made)
}

func TestWorkers(t *testing.T) {
	list := []impl.Storm{storm(0, 2, 4, 0.5)}
	for _, workers := range ints(0, -1, impl.MaxWorkers+1, math.MaxInt64, math.MinInt64, 1<<32+1) {
		for _, count := range ints(0, 1, 20) {
			wantResults(t, all(impl.RainShared(list, 1, count, workers)), all(noFloats, false), "RainShared", count, workers)
			wantResults(t, all(impl.RainShared(nil, 1, count, workers)), all(noFloats, false), "RainShared without storms", count, workers)
		}
	}
	// more workers than ticks
	for count := int64(0); count <= impl.MaxWorkers+1; count++ {
		want, ok := rainListOracle(list, 0.25, count)
		wantRainList(t, list, 0.25, count, want, ok)
	}
}

func TestWorkersAreAtAnEndWithTheCall(t *testing.T) {
	d := drawer(312)
	list := d.storms(impl.MaxStorms, tame)
	before := runtime.NumGoroutine()
	for range 100 {
		impl.RainShared(list, 0.5, impl.MaxRain, impl.MaxWorkers)
		impl.RainShared([]impl.Storm{storm(0, 1, 3e38, 0.5), storm(0, 1, 3e38, 0.5)}, 1, impl.MaxRain, impl.MaxWorkers)
		impl.RainShared(nil, 1, 0, impl.MaxWorkers)
	}
	wantNoMoreWorkers(t, before)
}

// wantNoMoreWorkers checks that there are no more goroutines than before.
func wantNoMoreWorkers(t *testing.T, before int) {
	t.Helper()
	// A goroutine that has told that it is at an end may still be there for a moment.
	for range 500 {
		if runtime.NumGoroutine() <= before {
			return
		}
		time.Sleep(10 * time.Millisecond)
	}
	t.Errorf("%d goroutines are left, %d were there before", runtime.NumGoroutine(), before)
}

func TestRainIsSharedByManyCallersAtOnce(t *testing.T) {
	d := drawer(313)
	list := d.storms(impl.MaxStorms, tame)
	want, ok := impl.RainList(list, 0.5, impl.MaxRain)
	wantThat(t, ok, true, "RainList")
	var callers sync.WaitGroup
	for n := range 16 {
		callers.Go(func() {
			wantResults(t, all(impl.RainShared(list, 0.5, impl.MaxRain, int64(n%8+1))), all(want, true), "RainShared beside others", n)
		})
	}
	callers.Wait()
}

// The ticks bring together what the storms bring.
func TestTicksBringWhatFalls(t *testing.T) {
	d := drawer(314)
	for range 300 {
		list := d.storms(int(d.next()%25), tame)
		rain, ok := impl.RainList(list, 1.5, 100)
		fallen := noFloats
		for _, s := range list {
			x, _ := impl.FallenBy(s, 150)
			fallen = append(fallen, x)
		}
		if !ok || !isNear(wideSum(rain), wideSum(fallen), wideSum(fallen)) {
			t.Errorf("%v bring %v in ticks, but %v have fallen", list, wideSum(rain), wideSum(fallen))
		}
	}
}

func TestIsRain(t *testing.T) {
	for _, rain := range [][]float32{nil, {}, {0}, {minusZero}, {tiniest, greatest, 1}, make([]float32, impl.MaxRain)} {
		wantThat(t, impl.IsRain(rain), true, "IsRain", rain)
	}
	wantThat(t, impl.IsRain(make([]float32, impl.MaxRain+1)), false, "IsRain of too many numbers")
	for _, x := range invalidNumbers() {
		for i := range 3 {
			rain := floats(1, 2, 3)
			rain[i] = x
			wantThat(t, impl.IsRain(rain), false, "IsRain", rain)
		}
		wantThat(t, impl.IsRain(append(make([]float32, impl.MaxRain-1), x)), false, "IsRain of MaxRain numbers", x)
	}
}

func TestDryRun(t *testing.T) {
	for _, c := range []struct {
		rain         []float32
		level        float32
		begins, long int64
	}{
		{floats(1, 0, 0, 2, 0), 0.5, 1, 2}, {nil, 1, 0, 0}, {floats(0), 0, 0, 1}, {floats(1), 0, 0, 0}, {floats(0, 0, 0), 0, 0, 3}, {floats(1, 2, 3), 3, 0, 3}, {floats(1, 2, 3), 2, 0, 2}, {floats(3, 2, 1), 2, 1, 2}, {floats(3, 2, 1), 1, 2, 1},
		{floats(0, 1, 0), 0, 0, 1}, {floats(1, 0, 1, 0), 0, 1, 1}, {floats(0, 0, 1, 0, 0, 1, 0), 0, 0, 2}, {floats(0, 1, 0, 0, 1, 0, 0), 0, 2, 2}, {floats(0, 1, 0, 0, 1, 0, 0, 0), 0, 5, 3}, // the first one of equal ones, and the last one
		{floats(minusZero, 0), 0, 0, 2}, {floats(minusZero, 0), minusZero, 0, 2}, {floats(0, tiniest), 0, 0, 1}, {floats(0, tiniest), minusZero, 0, 1}, {floats(tiniest, 0), tiniest, 0, 2},
		{floats(0, 0), -tiniest, 0, 0}, {floats(0, 0), -1, 0, 0}, {floats(0, 0), minusInf, 0, 0}, {floats(0, greatest), infinity, 0, 2}, {floats(0, greatest), greatest, 0, 2},
		{floats(0, 0), notANumber, 0, 0}, {floats(0, 0), number(0xff800001), 0, 0}, {nil, notANumber, 0, 0},
		{make([]float32, impl.MaxRain), 0, 0, impl.MaxRain}, {append(floats(1), make([]float32, impl.MaxRain-1)...), 0, 1, impl.MaxRain - 1},
	} {
		wantResults(t, all(impl.DryRun(c.rain, c.level)), all(c.begins, c.long, true), "DryRun", c.rain, c.level)
	}
	wantResults(t, all(impl.DryRun(make([]float32, impl.MaxRain+1), 0)), all(0, 0, false), "DryRun of too many numbers")
	for _, x := range invalidNumbers() {
		wantResults(t, all(impl.DryRun(floats(0, x), 0)), all(0, 0, false), "DryRun", x)
	}
}

func TestDryRunsOfAllKinds(t *testing.T) {
	d := drawer(315)
	for range 1500 {
		rain := d.rain(int(d.next()%20), 2)
		for _, level := range floats(0, 1, 2, 0.7, notANumber) {
			begins, long := dryOracle(rain, level)
			wantResults(t, all(impl.DryRun(rain, level)), all(begins, long, true), "DryRun", rain, level)
		}
	}
}

func TestNearRainByHand(t *testing.T) {
	for _, c := range []struct {
		places []complex64
		falls  []float32
		at     complex64
		want   float32
	}{
		{[]complex64{0, 2}, floats(1, 3), 1, 2}, {[]complex64{0, 2}, floats(1, 3), 2, 3}, {[]complex64{0, 2}, floats(1, 3), 0, 1}, {[]complex64{0, 2}, floats(1, 3), complex(1, 5), 2},
		{[]complex64{0, 3}, floats(5, 0), 1, 4}, {[]complex64{0, 3i}, floats(5, 0), 1i, 4}, {[]complex64{0, 3}, floats(-5, 0), 1, -4}, {[]complex64{1}, floats(7), complex(100, -3), 7}, {[]complex64{1}, floats(minusZero), complex(100, -3), 0},
		// at a place itself, with zeros of any sign
		{[]complex64{1}, floats(minusZero), 1, minusZero}, {[]complex64{complex(minusZero, 0), 1}, floats(4, 9), complex(0, minusZero), 4}, {[]complex64{1, complex(0, minusZero)}, floats(4, 9), complex(minusZero, 0), 9}, {[]complex64{1, 2, 3}, floats(greatest, greatest, -2), 3, -2},
		{[]complex64{complex(1, tiniest), complex(1, 0)}, floats(4, 9), 1, 9},
		// a place that is so near that its weight is infinite counts only if it is another one
		{[]complex64{complex(tiniest, 0), 0}, floats(4, 9), 0, 9},
		// places that are so far away that they have no weight
		{[]complex64{complex(1e30, 0), 1}, floats(greatest, 9), 0, 9}, {[]complex64{complex(greatest, greatest), 1}, floats(-greatest, 9), complex(-1, 0), 9},
		{[]complex64{complex(greatest, 0), complex(-1e19, 0)}, floats(-greatest, 9), complex(-1e18, 0), 9},
	} {
		wantResults(t, all(impl.NearRain(c.places, c.falls, c.at)), all(c.want, true), "NearRain", c.places, c.falls, c.at)
	}
}

func TestNearRainFails(t *testing.T) {
	many := make([]complex64, impl.MaxStorms+1)
	for i := range many {
		many[i] = complex(float32(i), 1)
	}
	good, ok := impl.NearRain(many[:impl.MaxStorms], evenList(impl.MaxStorms, 3), 0)
	wantThat(t, ok && good > 2.99 && good < 3.01, true, "NearRain of MaxStorms places", good)
	type call struct {
		places []complex64
		falls  []float32
		at     complex64
	}
	calls := []call{
		{nil, nil, 0}, {many, evenList(impl.MaxStorms+1, 3), 0}, {many, evenList(impl.MaxStorms+1, 3), many[0]}, {many[:2], floats(1), 0}, {many[:1], floats(1, 2), 0}, {nil, floats(1), 0}, {many[:1], nil, 0},
		{[]complex64{1, 1}, floats(1, 3), 1}, {[]complex64{1, 1}, floats(1, 1), 5}, {[]complex64{1, 2, 3i, 2}, floats(1, 1, 1, 1), 1}, {[]complex64{complex(0, 1), complex(minusZero, 1)}, floats(1, 3), 9}, {[]complex64{complex(1, minusZero), 5, complex(1, 0)}, floats(1, 3, 3), 5}, {[]complex64{0, complex(minusZero, minusZero)}, floats(1, 3), 0},
		// weights that are not finite
		{[]complex64{complex(tiniest, 0)}, floats(1), 0}, {[]complex64{complex(1e-20, 0), 1}, floats(1, 2), 0}, {[]complex64{complex(1e-20, 0), 1}, floats(0, 0), 0}, {[]complex64{complex(1e-30, 1e-30)}, floats(minusZero), 0},
		// places that are all too far away
		{[]complex64{complex(greatest, 0)}, floats(1), complex(-greatest, 0)}, {[]complex64{complex(1e30, 0)}, floats(1), 0}, {[]complex64{complex(0, 1e23), complex(0, -1e25)}, floats(1, 1), 0},
		// sums that are not finite
		{[]complex64{1, 2}, floats(greatest, greatest), 1.5}, {[]complex64{1, -1}, floats(greatest, greatest), 0}, {[]complex64{0.5, 1}, floats(greatest, -greatest), 0},
	}
	for _, x := range floats(notANumber, number(0xffc00001), infinity, minusInf) {
		for _, place := range []complex64{complex(x, 0), complex(0, x), complex(x, x)} {
			calls = append(calls, call{[]complex64{place, 1}, floats(1, 2), 1}, call{[]complex64{1, place}, floats(1, 2), 1}, call{[]complex64{2, place}, floats(1, 2), 1}, call{[]complex64{1, 2}, floats(1, 2), place})
		}
		calls = append(calls, call{[]complex64{1, 2}, floats(x, 1), 2}, call{[]complex64{1, 2}, floats(1, x), 1}, call{[]complex64{1, 2}, floats(1, x), 7})
	}
	for _, c := range calls {
		wantResults(t, all(impl.NearRain(c.places, c.falls, c.at)), all(float32(0), false), "NearRain", c.places, c.falls, c.at)
	}
}

// place draws a place: on a small grid, somewhere, very near to 0, or far away.
func (d *drawer) place() complex64 {
	switch d.next() % 8 {
	case 0, 1, 2:
		return complex(float32(d.next()%5)-2, float32(d.next()%5)-2)
	case 3:
		return complex(d.moderate()*1e-22, d.moderate()*1e-21)
	case 4:
		return complex(d.moderate()*1e17, d.moderate()*1e20)
	}
	return complex(d.moderate(), d.moderate())
}

func TestNearRainOfAllKinds(t *testing.T) {
	d := drawer(316)
	made, failed := 0, 0
	for range 6000 {
		var places []complex64
		var falls []float32
		for range 1 + d.next()%10 {
			if place := d.place(); !slices.Contains(places, place) {
				places = append(places, place)
				falls = append(falls, d.amount(tame)-d.amount(tame))
			}
		}
		at := d.place()
		want, ok := nearOracle(places, falls, at)
		if ok {
			made++
		} else {
			failed++
		}
		wantResults(t, all(impl.NearRain(places, falls, at)), all(want, ok), "NearRain", places, falls, at)
	}
	wantThat(t, made > 3000 && failed > 100, true, "NearRain is tried with means that there are, and that there are not", made, failed)
}
