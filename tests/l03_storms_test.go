package tests

import (
	"math"
	"testing"

	"loop.example/g01302/impl"
)

func TestValidStorms(t *testing.T) {
	for _, x := range sampleNumbers(200) {
		for _, s := range []impl.Storm{storm(x, 1, 1, 0.5), storm(1, x, 1, 0.5), storm(1, 1, x, 0.5), storm(1, 1, 1, x)} {
			wantThat(t, impl.ValidStorm(s), validStormOracle(s), "ValidStorm", s)
		}
	}
	for _, s := range []impl.Storm{storm(0, tiniest, 0, tiniest), storm(minusZero, greatest, minusZero, number(0x3f7fffff)), storm(greatest, 1, greatest, 0.5)} {
		wantThat(t, impl.ValidStorm(s), true, "ValidStorm", s)
	}
	for _, s := range []impl.Storm{{}, storm(0, 0, 0, 0.5), storm(0, 1, 0, 0), storm(0, 1, 0, minusZero), storm(0, 1, 0, 1), storm(0, 1, 0, notANumber), storm(0, 1, notANumber, 0.5), storm(-1, 1, 1, 0.5), storm(infinity, 1, 1, 0.5)} {
		wantThat(t, impl.ValidStorm(s), false, "ValidStorm", s)
	}
}

func TestSameStorms(t *testing.T) {
	a := []impl.Storm{storm(1, 2, 3, 4), storm(notANumber, infinity, minusZero, 0)}
	same := []impl.Storm{storm(1, 2, 3, 4), storm(number(0xff800001), infinity, minusZero, 0)}
	wantThat(t, impl.SameStorms(a, same), true, "SameStorms with other not-a-numbers")
	for _, other := range [][]impl.Storm{
		nil, a[:1], append(same[:2:2], storm(0, 0, 0, 0)), {a[1], a[0]},
		{a[0], storm(notANumber, infinity, 0, 0)}, {a[0], storm(notANumber, infinity, minusZero, minusZero)}, {a[0], storm(notANumber, minusInf, minusZero, 0)}, {a[0], storm(1, infinity, minusZero, 0)},
		{storm(2, 2, 3, 4), a[1]}, {storm(1, 1, 3, 4), a[1]}, {storm(1, 2, 4, 4), a[1]}, {storm(1, 2, 3, 3), a[1]}, {storm(2, 1, 3, 4), a[1]}, {storm(1, 2, 4, 3), a[1]},
	} {
		wantThat(t, impl.SameStorms(a, other) || impl.SameStorms(other, a), false, "SameStorms", a, other)
	}
	wantThat(t, impl.SameStorms(nil, noStorms) && impl.SameStorms(nil, []impl.Storm{}), true, "SameStorms of no storms")
	many := make([]impl.Storm, 1000)
	others := make([]impl.Storm, 1000)
	wantThat(t, impl.SameStorms(many, others), true, "SameStorms of many that are not valid")
	others[999].Peak = minusZero
	wantThat(t, impl.SameStorms(many, others), false, "SameStorms of many, of which the last one differs")
}

// stormTimes are times before, at and behind the start, the peak and the end of
// a storm, and far ones.
func stormTimes(s impl.Storm) []float32 {
	list := floats(0, minusZero, -1, tiniest, -greatest, greatest)
	for _, share := range floats(0, 0.3, s.Peak, 0.5, 0.8, 1, 1.5) {
		at := plus(s.Start, times(s.Long, share))
		list = append(list, at, math.Nextafter32(at, minusInf), math.Nextafter32(at, infinity))
	}
	return list
}

func TestStormsByHand(t *testing.T) {
	even := storm(0, 2, 4, 0.5)
	late := storm(3, 8, 6, 0.25)
	for _, c := range []struct {
		s                  impl.Storm
		time, fast, fallen float32
	}{
		{even, -1, 0, 0}, {even, minusZero, minusZero, 0}, {even, 0, 0, 0}, {even, 0.5, 2, 0.5}, {even, 1, 4, 2}, {even, 1.5, 2, 3.5}, {even, 2, 0, 4}, {even, 3, 0, 4}, {even, greatest, 0, 4}, {even, -greatest, 0, 0},
		{late, 0, 0, 0}, {late, 2.9999998, 0, 0}, {late, 3, 0, 0}, {late, 4, 0.75, 0.375}, {late, 5, 1.5, 1.5}, {late, 8, 0.75, 4.875}, {late, 11, 0, 6}, {late, 11.000001, 0, 6},
		// storms of no rain
		{storm(0, 2, 0, 0.5), 0.5, 0, 0}, {storm(0, 2, 0, 0.5), 1, 0, 0}, {storm(0, 2, 0, 0.5), 2, 0, 0}, {storm(0, 2, 0, 0.5), 5, 0, 0},
		{storm(1, 2, minusZero, 0.5), 0.5, 0, 0}, {storm(1, 2, minusZero, 0.5), 1, minusZero, 0}, {storm(1, 2, minusZero, 0.5), 1.5, minusZero, minusZero}, {storm(1, 2, minusZero, 0.5), 2.5, minusZero, minusZero}, {storm(1, 2, minusZero, 0.5), 3, minusZero, minusZero}, {storm(1, 2, minusZero, 0.5), 9, 0, minusZero},
		// very small and very great ones
		{storm(0, 2, greatest, 0.5), 3, 0, greatest}, {storm(greatest, greatest, 1, 0.5), 1, 0, 0}, {storm(greatest, 1, 1, 0.5), greatest, 0, 0},
		{storm(0, 4, tiniest, 0.5), 2, 0, 0}, {storm(0, 1, tiniest, 0.5), 0.5, number(2), 0}, {storm(0, tiniest, 0, 0.5), tiniest, 0, 0},
		{storm(0, 1, number(8), 0.5), 0.5, number(16), number(4)}, {storm(0, 1, 1, tiniest), 0.5, 1, 0.75}, {storm(0, 1, 1, tiniest), tiniest, 2, 0},
	} {
		wantResults(t, all(impl.RainAt(c.s, c.time)), all(c.fast, true), "RainAt", c.s, c.time)
		wantResults(t, all(impl.FallenBy(c.s, c.time)), all(c.fallen, true), "FallenBy", c.s, c.time)
	}
}

func TestStormsThatRainTooFast(t *testing.T) {
	for _, s := range []impl.Storm{storm(0, 2, greatest, 0.5), storm(0, 0.5, 3e38, 0.5), storm(0, tiniest*4, 1, 0.5)} {
		for _, share := range floats(0, 0.25, 0.5, 0.75, 1) {
			wantResults(t, all(impl.RainAt(s, s.Long*share)), all(float32(0), false), "RainAt", s, share)
		}
		wantResults(t, all(impl.RainAt(s, -1)), all(float32(0), true), "RainAt before", s)
		wantResults(t, all(impl.RainAt(s, 3)), all(float32(0), true), "RainAt behind", s)
		wantResults(t, all(impl.FallenBy(s, s.Long/2)), all(s.Size/2, true), "FallenBy at the Peak of", s)
	}
	// Twice this Size is just finite.
	s := storm(0, 2, 1.7e38, 0.5)
	wantResults(t, all(impl.RainAt(s, 1)), all(float32(1.7e38), true), "RainAt", s)
}

func TestWrongStormsAndTimesFail(t *testing.T) {
	var wrong []impl.Storm
	for _, x := range invalidNumbers() {
		wrong = append(wrong, storm(x, 2, 4, 0.5), storm(0, x, 4, 0.5), storm(0, 2, x, 0.5), storm(0, 2, 4, x))
	}
	for _, x := range floats(0, minusZero) {
		wrong = append(wrong, storm(0, x, 4, 0.5), storm(0, 2, 4, x))
	}
	for _, s := range append(wrong, impl.Storm{}, storm(0, 2, 4, 1), storm(0, 2, 4, 1.5)) {
		for _, time := range floats(-1, 0, 0.5, 1, 1.5, 2, 3) {
			wantResults(t, all(impl.RainAt(s, time)), all(float32(0), false), "RainAt", s, time)
			wantResults(t, all(impl.FallenBy(s, time)), all(float32(0), false), "FallenBy", s, time)
		}
	}
	for _, time := range floats(notANumber, number(0xff800001), infinity, minusInf) {
		for _, s := range []impl.Storm{storm(0, 2, 4, 0.5), storm(0, 2, 0, 0.5)} {
			wantResults(t, all(impl.RainAt(s, time)), all(float32(0), false), "RainAt", s, time)
			wantResults(t, all(impl.FallenBy(s, time)), all(float32(0), false), "FallenBy", s, time)
		}
	}
}

func TestStormsOfAllKinds(t *testing.T) {
	d := drawer(301)
	for range 4000 {
		s := d.storm(amountKinds)
		for _, time := range append(stormTimes(s), d.amount(amountKinds), d.moderate()) {
			if !finite(time) {
				wantResults(t, all(impl.RainAt(s, time)), all(float32(0), false), "RainAt", s, time)
				wantResults(t, all(impl.FallenBy(s, time)), all(float32(0), false), "FallenBy", s, time)
				continue
			}
			fast, ok := fastOracle(s, time)
			wantResults(t, all(impl.RainAt(s, time)), all(fast, ok), "RainAt", s, time)
			wantResults(t, all(impl.FallenBy(s, time)), all(fallenOracle(s, time), true), "FallenBy", s, time)
		}
	}
}

func TestStormsGrowToTheirSize(t *testing.T) {
	d := drawer(302)
	for range 300 {
		s := d.storm(tame)
		before := float32(0)
		for n := range 41 {
			time := s.Start + s.Long*float32(n)/40
			fallen, ok := impl.FallenBy(s, time)
			if !ok || fallen < before && !isNear(float64(fallen), float64(before), float64(s.Size)) || fallen > s.Size {
				t.Errorf("FallenBy%v at %v is %v, behind %v", s, time, fallen, before)
			}
			before = fallen
		}
	}
}

func TestStormsOf(t *testing.T) {
	for _, c := range []struct {
		count     int64
		gap, size float32
		seed      int64
		want      []impl.Storm
		last      int64
	}{
		{0, 1, 1, 0, nil, 0}, {0, greatest, tiniest, 2147483647, nil, 2147483647},
		{2, 1, 1, 0, []impl.Storm{storm(number(0x38000000), number(0x3f27ba00), number(0x3e9c1400), number(0x3f166600)), storm(number(0x3f431200), number(0x3f044000), number(0x3efab800), number(0x3f0d1e00))}, 1293799192},
		{2, 0.1, 3.7, 2147483647, []impl.Storm{storm(number(0x3d472000), number(0x3c5c8000), number(0x3f8e8d1a), number(0x3f285f00)), storm(number(0x3db59666), number(0x3db06b33), number(0x3f833fb3), number(0x3f3d4000))}, 2101342199},
	} {
		wantResults(t, all(impl.StormsOf(c.count, c.gap, c.size, c.seed)), all(c.want, c.last, true), "StormsOf", c.count, c.gap, c.size, c.seed)
	}
	storms, seed, ok := impl.StormsOf(24, 7.3, 1e-3, 12345)
	wantThat(t, ok && len(storms) == 24 && seed == 1952263385, true, "StormsOf draws MaxStorms")
	wantThat(t, stormsText(storms[23:]), stormsText([]impl.Storm{storm(number(0x431e7fe9), number(0x40955447), number(0x3925999a), number(0x3f345e00))}), "the last one of MaxStorms")
}

func TestStormsOfAllSeeds(t *testing.T) {
	d := drawer(303)
	seeds := ints(0, 1, 2147483647, 2147483646, 65535, 65536, 1<<30)
	for range 200 {
		seeds = append(seeds, int64(d.next()&0x7fffffff))
	}
	sizes := floats(1, 0.1, 100, tiniest, number(100), 1e-37, 3e37, 3e38, greatest)
	drawn, failed := 0, 0
	for _, seed := range seeds {
		for range 12 {
			count, gap, size := int64(d.next()%25), sizes[d.next()%9], sizes[d.next()%9]
			want, last, ok := stormsOracle(count, gap, size, seed)
			if !ok {
				last = 0
				failed++
			} else {
				drawn++
			}
			wantResults(t, all(impl.StormsOf(count, gap, size, seed)), all(want, last, ok), "StormsOf", count, gap, size, seed)
		}
	}
	wantThat(t, drawn > 500 && failed > 100, true, "StormsOf is tried with storms that there are, and that there are not", drawn, failed)
}

// The time behind the last storm is told by nothing that is returned.
func TestOnlyTheEndOfTheLastStormMayBeInfinite(t *testing.T) {
	for seed := int64(0); seed < 50; seed++ {
		one, _, ok := impl.StormsOf(1, greatest, 1, seed)
		wantThat(t, ok && len(one) == 1, true, "StormsOf one with the greatest gap", seed)
		if end := one[0].Start + one[0].Long; !finite(end) {
			wantResults(t, all(impl.StormsOf(2, greatest, 1, seed)), all(noStorms, int64(0), false), "StormsOf two", seed)
			return
		}
	}
	t.Error("no storm ends behind all times")
}

func TestStormsOfFails(t *testing.T) {
	for _, count := range ints(-1, 25, math.MaxInt64, math.MinInt64, 1<<32) {
		wantResults(t, all(impl.StormsOf(count, 1, 1, 1)), all(noStorms, int64(0), false), "StormsOf", count)
	}
	for _, seed := range ints(-1, 2147483648, math.MaxInt64, math.MinInt64, 1<<32) {
		for _, count := range ints(0, 1) {
			wantResults(t, all(impl.StormsOf(count, 1, 1, seed)), all(noStorms, int64(0), false), "StormsOf with the seed", seed)
		}
	}
	for _, x := range append(invalidNumbers(), 0, minusZero) {
		for _, count := range ints(0, 1) {
			wantResults(t, all(impl.StormsOf(count, x, 1, 1)), all(noStorms, int64(0), false), "StormsOf with the gap", x)
			wantResults(t, all(impl.StormsOf(count, 1, x, 1)), all(noStorms, int64(0), false), "StormsOf with the size", x)
		}
	}
	// So short that Long becomes 0.
	wantResults(t, all(impl.StormsOf(24, tiniest, 1, 1)), all(noStorms, int64(0), false), "StormsOf with the least gap")
	// So small that Size becomes 0, which is one of a storm.
	storms, _, ok := impl.StormsOf(24, 1, tiniest, 1)
	wantThat(t, ok && len(storms) == 24, true, "StormsOf with the least size")
}
