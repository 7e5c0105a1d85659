package tests

import "loop.example/g01302/impl"

// These functions tell the results of chapter 3 in another way than the program:
// the ticks of one storm, or of one bucket, come before those of the next one,
// and places, runs and products are found by trying all. The operations are
// those of l02_oracle_test.go.

func amountOracle(x float32) bool { return finite(x) && !(x < 0) }

func amountsOracle(list []float32) bool {
	for _, x := range list {
		if !amountOracle(x) {
			return false
		}
	}
	return true
}

func validStormOracle(s impl.Storm) bool {
	return amountsOracle(floats(s.Start, s.Long, s.Size, s.Peak)) && s.Long != 0 && s.Peak != 0 && s.Peak < 1
}

func validSoilOracle(s impl.Soil) bool {
	return amountsOracle(floats(s.Take, s.Suck, s.Hold, s.Drain, s.Wet)) && !(s.Wet > s.Hold)
}

func validSnowOracle(s impl.Snow) bool {
	return amountsOracle(floats(s.Melt, s.Keep, s.Ice, s.Water)) && !(s.Keep > 1)
}

func fastOracle(s impl.Storm, time float32) (float32, bool) {
	u := over(less(time, s.Start), s.Long)
	if u < 0 || u > 1 {
		return 0, true
	}
	side := over(u, s.Peak)
	if u > s.Peak {
		side = over(less(1, u), less(1, s.Peak))
	}
	fast := times(over(times(2, s.Size), s.Long), side)
	if !finite(fast) {
		return 0, false
	}
	return fast, true
}

func fallenOracle(s impl.Storm, time float32) float32 {
	u := over(less(time, s.Start), s.Long)
	if u >= 1 {
		return s.Size
	}
	if u > s.Peak {
		v := less(1, u)
		return times(s.Size, less(1, over(times(v, v), less(1, s.Peak))))
	}
	if u > 0 {
		return times(s.Size, over(times(u, u), s.Peak))
	}
	return 0
}

// drawOracle draws a number: a seed has 31 bits, which is what is left of 32.
func drawOracle(seed *int64) float32 {
	*seed = int64((uint32(*seed)*1103515245 + 12345) & 0x7fffffff)
	return float32(float64(*seed>>16+1) / 32768)
}

func stormsOracle(count int64, gap, size float32, seed int64) ([]impl.Storm, int64, bool) {
	list := []impl.Storm{}
	ends := float32(0)
	for range count {
		first, second, third, fourth := drawOracle(&seed), drawOracle(&seed), drawOracle(&seed), drawOracle(&seed)
		s := storm(plus(ends, times(gap, first)), times(gap, second), times(size, third), plus(times(fourth, 0.5), 0.25))
		if !validStormOracle(s) {
			return nil, 0, false
		}
		ends = plus(s.Start, s.Long)
		list = append(list, s)
	}
	return list, seed, true
}

func rainListOracle(list []impl.Storm, tick float32, count int64) ([]float32, bool) {
	rain := make([]float32, count)
	for _, s := range list {
		for k := range rain {
			from, to := times(float32(k), tick), times(float32(k+1), tick)
			if fall := less(fallenOracle(s, to), fallenOracle(s, from)); fall > 0 {
				rain[k] = plus(rain[k], fall)
			}
		}
	}
	for k := range rain {
		if !finite(times(float32(k+1), tick)) {
			return nil, false
		}
	}
	if !amountsOracle(rain) {
		return nil, false
	}
	return rain, true
}

// dryOracle tries all runs, the longest ones first.
func dryOracle(rain []float32, level float32) (int64, int64) {
	isDry := func(run []float32) bool {
		for _, x := range run {
			if x > level || level != level {
				return false
			}
		}
		return true
	}
	for long := len(rain); long > 0; long-- {
		for begins := 0; begins+long <= len(rain); begins++ {
			if isDry(rain[begins : begins+long]) {
				return int64(begins), int64(long)
			}
		}
	}
	return 0, 0
}

func nearOracle(places []complex64, falls []float32, at complex64) (float32, bool) {
	for i, place := range places {
		if real(place) == real(at) && imag(place) == imag(at) {
			return falls[i], true
		}
	}
	dividend, divisor := float32(0), float32(0)
	for i, place := range places {
		x, y := less(real(at), real(place)), less(imag(at), imag(place))
		weight := over(1, float32(powerOracle(complex(x, y))))
		dividend = plus(dividend, times(weight, falls[i]))
		divisor = plus(divisor, weight)
	}
	mean := over(dividend, divisor)
	if !finite(mean) {
		return 0, false
	}
	return mean, true
}

func canTakeOracle(s impl.Soil) (float32, bool) {
	fast := times(s.Take, plus(1, over(s.Suck, plus(1, s.Wet))))
	if !finite(fast) {
		return 0, false
	}
	return fast, true
}

func stepSoilOracle(s impl.Soil, fall, tick float32) (impl.Soil, float32, float32, bool) {
	fast, ok := canTakeOracle(s)
	if !ok {
		return impl.Soil{}, 0, 0, false
	}
	could, room := times(fast, tick), less(s.Hold, s.Wet)
	taken := room
	if fall <= could && fall <= room {
		taken = fall
	} else if could <= room {
		taken = could
	}
	wet := plus(s.Wet, taken)
	if wet > s.Hold {
		wet = s.Hold
	}
	gone := times(times(wet, s.Drain), tick)
	if gone > wet {
		gone = wet
	}
	return soil(s.Take, s.Suck, s.Hold, s.Drain, less(wet, gone)), less(fall, taken), gone, true
}

func runSoilOracle(s impl.Soil, rain []float32, tick float32) (impl.Soil, []float32, []float32, bool) {
	offs, lets := []float32{}, []float32{}
	for _, fall := range rain {
		next, off, gone, ok := stepSoilOracle(s, fall, tick)
		if !ok {
			return impl.Soil{}, nil, nil, false
		}
		s, offs, lets = next, append(offs, off), append(lets, gone)
	}
	return s, offs, lets, true
}

func curveOracle(fall, hold float32) (float32, bool) {
	e := less(fall, times(number(0x3e4ccccd), hold))
	if e <= 0 {
		return 0, true
	}
	runs := over(times(e, e), plus(fall, times(number(0x3f4ccccd), hold)))
	if !finite(runs) {
		return 0, false
	}
	return runs, true
}

func stepSnowOracle(s impl.Snow, fall, warm, tick float32) (impl.Snow, float32, bool) {
	ice, water := plus(s.Ice, fall), s.Water
	if warm > 0 {
		melted := times(times(s.Melt, warm), tick)
		if melted > s.Ice {
			melted = s.Ice
		}
		ice, water = less(s.Ice, melted), plus(s.Water, plus(melted, fall))
	}
	out, kept := float32(0), times(s.Keep, ice)
	if less(water, kept) > 0 {
		out, water = less(water, kept), kept
	}
	if !amountsOracle(floats(ice, water, out)) {
		return impl.Snow{}, 0, false
	}
	return snow(s.Melt, s.Keep, ice, water), out, true
}

func runSnowOracle(s impl.Snow, rain, warms []float32, tick float32) (impl.Snow, []float32, bool) {
	outs := []float32{}
	for k, fall := range rain {
		next, out, ok := stepSnowOracle(s, fall, warms[k], tick)
		if !ok {
			return impl.Snow{}, nil, false
		}
		s, outs = next, append(outs, out)
	}
	return s, outs, true
}

// goneOracle tells which share of its store a bucket lets go.
func goneOracle(rate, tick float32) float32 {
	power := times(rate, tick)
	if power > 200 {
		return 1
	}
	return less(1, expOracle(-power))
}

// bucketsOracle lets all the rain go through one bucket before the next one.
func bucketsOracle(stores []float32, rate, tick float32, rain []float32) ([]float32, []float32, bool) {
	share := goneOracle(rate, tick)
	flow, ends := rain, []float32{}
	for _, store := range stores {
		lets := []float32{}
		for _, gets := range flow {
			store = plus(store, gets)
			gone := times(store, share)
			store = less(store, gone)
			lets = append(lets, gone)
		}
		flow, ends = lets, append(ends, store)
	}
	if !amountsOracle(ends) || !amountsOracle(flow) {
		return nil, nil, false
	}
	return ends, flow, true
}

func unitOracle(buckets int64, rate, tick float32, count int64) []float32 {
	rain := append(floats(1), make([]float32, count-1)...)
	_, lets, _ := bucketsOracle(make([]float32, buckets), rate, tick, rain)
	return lets
}

func spreadOracle(rain, unit []float32) ([]float32, bool) {
	spread := make([]float32, len(rain))
	for i, fall := range rain {
		for n, part := range unit {
			if i+n < len(rain) {
				spread[i+n] = plus(spread[i+n], times(fall, part))
			}
		}
	}
	if !amountsOracle(spread) {
		return nil, false
	}
	return spread, true
}
