package tests

import "loop.example/g01302/impl"

// These functions tell the results of chapter 5 in another way than the program:
// all reaches route one tick before the next one, all intervals of a lake are
// tried, and rows are solved from the first one inwards. As in chapter 4, what
// fails is no number, which goes on through all operations.

func validReachOracle(r impl.Reach) bool {
	return amountsOracle(floats(r.Delay, r.Lean)) && r.Delay != 0 && !(r.Lean > 0.5)
}

// keptAll are some numbers, or none of them if one cannot be returned.
func keptAll(list ...float32) []float32 {
	if !allFinite(list) {
		return evenList(len(list), notANumber)
	}
	return list
}

func sharesOracle(r impl.Reach, tick float32) (float32, float32, float32) {
	double := need(times(2, r.Delay), r.Delay, tick)
	if !validReachOracle(r) {
		double = notANumber
	}
	k, m := times(double, r.Lean), times(double, less(1, r.Lean))
	d := plus(m, tick)
	list := keptAll(over(less(tick, k), d), over(plus(tick, k), d), over(less(m, tick), d))
	return list[0], list[1], list[2]
}

func insOracle(ins []float32) bool { return len(ins) > 0 && len(ins) < 129 && allFinite(ins) }

// routeOracle routes ins through some reaches, where it is told what comes out of
// each one first. A tick has what flows in, and what flows out of each reach.
func routeOracle(list []impl.Reach, ins []float32, tick float32, firsts []float32) ([]float32, bool) {
	if len(list) == 0 || len(list) > 12 || !insOracle(ins) {
		return nil, false
	}
	outs, before := floats(), floats()
	for k, in := range ins {
		now := floats(in)
		for i, r := range list {
			a, b, c := sharesOracle(r, tick)
			out := firsts[i]
			if k > 0 {
				out = plus(plus(times(a, now[i]), times(b, before[i])), times(c, before[i+1]))
			}
			if a != a {
				out = notANumber
			}
			now = append(now, out)
		}
		if !allFinite(now) {
			return nil, false
		}
		outs, before = append(outs, now[len(list)]), now
	}
	return outs, true
}

func reachesOracle(list []impl.Reach, ins []float32, tick float32) ([]float32, bool) {
	if len(ins) == 0 {
		return nil, false
	}
	return routeOracle(list, ins, tick, evenList(len(list), ins[0]))
}

func sharedOracle(list []impl.Reach, many [][]float32, tick float32) ([][]float32, bool) {
	routed := [][]float32{}
	for _, ins := range many {
		outs, ok := reachesOracle(list, ins, tick)
		if !ok {
			return nil, false
		}
		routed = append(routed, outs)
	}
	return routed, true
}

func heldOracle(r impl.Reach, in, out float32) float32 {
	if !validReachOracle(r) || !allFinite(floats(in, out)) {
		return notANumber
	}
	return kept(times(r.Delay, plus(times(r.Lean, in), times(less(1, r.Lean), out))))
}

func validLakeOracle(l impl.Lake) bool {
	if len(l.Stores) < 2 || len(l.Stores) > 16 || len(l.Outs) != len(l.Stores) || !amountsOracle(l.Stores) || !amountsOracle(l.Outs) {
		return false
	}
	for i, store := range l.Stores {
		for k := range i {
			if !(l.Stores[k] < store) || l.Outs[k] > l.Outs[i] {
				return false
			}
		}
	}
	return true
}

func lakeOracle(l impl.Lake, store float32) float32 {
	if !validLakeOracle(l) || !finite(store) {
		return notANumber
	}
	last := len(l.Stores) - 1
	if store >= l.Stores[last] {
		return l.Outs[last]
	}
	out := l.Outs[0]
	for i, low := range l.Stores[:last] {
		if store > low {
			part := over(less(store, low), less(l.Stores[i+1], low))
			out = kept(plus(l.Outs[i], times(part, less(l.Outs[i+1], l.Outs[i]))))
		}
	}
	return out
}

func stepLakeOracle(l impl.Lake, store, in, next, tick float32) float32 {
	out, part := lakeOracle(l, store), times(0.5, tick)
	if out != out || !amountsOracle(floats(in, next, tick)) || tick == 0 || store < l.Stores[0] || store > l.Stores[len(l.Stores)-1] {
		return notANumber
	}
	goal := plus(less(store, times(part, out)), times(part, plus(in, next)))
	if goal != goal {
		goal = infinity // nothing is greater than either
	}
	low, _ := searchOracle(l.Stores[0], l.Stores[len(l.Stores)-1], 40, func(m float32) (float32, float32) {
		flows := l.Outs[len(l.Outs)-1]
		if finite(m) {
			flows = lakeOracle(l, m)
		}
		return plus(m, times(part, flows)), goal
	})
	return kept(low)
}

func routeLakeOracle(l impl.Lake, store float32, ins []float32, tick float32) ([]float32, []float32, bool) {
	if !validLakeOracle(l) || !insOracle(ins) || !amountsOracle(ins) || !amountOracle(tick) || tick == 0 {
		return nil, nil, false
	}
	if !(l.Stores[0] <= store) || !(store <= l.Stores[len(l.Stores)-1]) {
		return nil, nil, false
	}
	stores, outs := floats(store), floats(lakeOracle(l, store))
	for i, in := range ins[1:] {
		stores = append(stores, stepLakeOracle(l, stores[i], ins[i], in, tick))
		outs = append(outs, lakeOracle(l, stores[i+1]))
	}
	if !allFinite(stores) || !allFinite(outs) {
		return nil, nil, false
	}
	return stores, outs, true
}

func waveOracle(rate, area float32) float32 {
	if !amountOracle(area) {
		return notANumber
	}
	return kept(need(times(times(rate, area), root(area)), rate))
}

func slopeOracle(areas []float32) bool {
	return len(areas) > 0 && len(areas) < 49 && amountsOracle(areas)
}

// lengthOracle tells how far a wave runs, which can be no number without an area.
func lengthOracle(rate, area, tick float32) float32 {
	return times(times(times(1.5, rate), root(area)), tick)
}

// stepWaveOracle goes from the last area to the first one.
func stepWaveOracle(areas []float32, in, rate, step, tick float32) ([]float32, float32, bool) {
	if !slopeOracle(areas) || !amountOracle(in) || need(1, rate, step, tick) != 1 {
		return nil, 0, false
	}
	next := make([]float32, len(areas))
	for i := len(areas) - 1; i >= 0; i-- {
		comes := in
		if i > 0 {
			comes = waveOracle(rate, areas[i-1])
		}
		next[i] = plus(areas[i], times(over(tick, step), less(comes, waveOracle(rate, areas[i]))))
		if next[i] < 0 {
			next[i] = 0
		}
		if lengthOracle(rate, areas[i], tick) > step {
			next[i] = notANumber
		}
	}
	out := waveOracle(rate, areas[len(areas)-1])
	if !amountsOracle(next) || !finite(out) {
		return nil, 0, false
	}
	return next, out, true
}

func runWaveOracle(areas, ins []float32, rate, step, tick float32) ([]float32, []float32, bool) {
	outs, out, ok := floats(), float32(0), insOracle(ins)
	for _, in := range ins {
		if ok {
			areas, out, ok = stepWaveOracle(areas, in, rate, step, tick)
			outs = append(outs, out)
		}
	}
	if !ok {
		return nil, nil, false
	}
	return areas, outs, true
}

func validCanalOracle(c impl.Canal) bool {
	return amountsOracle(floats(c.Step, c.Deep, c.Drag)) && c.Step != 0 && c.Deep != 0 &&
		len(c.Highs) > 0 && len(c.Highs) < 49 && len(c.Flows) == len(c.Highs) && allFinite(c.Highs) && allFinite(c.Flows)
}

// stepCanalOracle has a cell of the sea before the canal, and one behind it
// through whose side nothing flows.
func stepCanalOracle(c impl.Canal, sea, tick float32) (impl.Canal, bool) {
	if !validCanalOracle(c) || !finite(sea) || need(1, tick) != 1 {
		return impl.Canal{}, false
	}
	highs := append(floats(sea), c.Highs...)
	flows := floats()
	for i, flow := range c.Flows {
		pull := times(times(times(tick, number(gravityBits)), c.Deep), over(less(highs[i+1], highs[i]), c.Step))
		flows = append(flows, over(less(flow, pull), plus(1, times(tick, c.Drag))))
	}
	flows = append(flows, 0)
	for i := range c.Highs {
		highs[i] = plus(highs[i+1], times(tick, over(less(flows[i], flows[i+1]), c.Step)))
	}
	next := canal(c.Step, c.Deep, c.Drag, highs[:len(c.Highs)], flows[:len(c.Highs)])
	if !validCanalOracle(next) {
		return impl.Canal{}, false
	}
	return next, true
}

func runCanalOracle(c impl.Canal, seas []float32, tick float32) (impl.Canal, []float32, bool) {
	ends, ok := floats(), validCanalOracle(c) && len(seas) < 129 && need(1, tick) == 1
	for _, sea := range seas {
		if ok {
			c, ok = stepCanalOracle(c, sea, tick)
		}
		if ok {
			ends = append(ends, c.Highs[len(c.Highs)-1])
		}
	}
	if !ok {
		return impl.Canal{}, nil, false
	}
	return c, ends, true
}

func energyOracle(c impl.Canal) float32 {
	if !validCanalOracle(c) {
		return notANumber
	}
	var sum float32
	for i, high := range c.Highs {
		lifted := times(times(0.5, number(gravityBits)), times(high, high))
		moved := over(times(0.5, times(c.Flows[i], c.Flows[i])), c.Deep)
		sum = plus(sum, times(c.Step, plus(lifted, moved)))
	}
	return kept(sum)
}

func plusPairs(x, y complex64) complex64 {
	return complex(plus(real(x), real(y)), plus(imag(x), imag(y)))
}

// lessProduct is x less the product of y and z.
func lessProduct(x, y, z complex64) complex64 {
	re, im := productOracle(y, z)
	return complex(less(real(x), float32(re)), less(imag(x), float32(im)))
}

func quotientOracle(x, y complex64) complex64 {
	re, im := productOracle(x, complex(real(y), -imag(y)))
	power := powerOracle(y)
	return complex(float32(re/power), float32(im/power))
}

const fullTurnBits = 0x40c90fdb

// tidesOracle solves the first row with a middle and a right side that are told,
// after it has solved all others, for which it takes the first one out of them.
func tidesOracle(c impl.Canal, rate float32) ([]complex64, bool) {
	if !validCanalOracle(c) || !amountOracle(rate) {
		return nil, false
	}
	w := times(number(fullTurnBits), rate)
	own := complex(number(bits(times(w, w))^1<<31), times(w, c.Drag))
	k := over(times(number(gravityBits), c.Deep), times(c.Step, c.Step))
	beside := complex(number(bits(k)^1<<31), minusZero)
	middleOf := func(i int) complex64 {
		if i == len(c.Highs)-1 {
			return plusPairs(own, complex(k, 0))
		}
		return plusPairs(own, complex(times(2, k), 0))
	}
	var solve func(i int, middle, right complex64) []complex64
	solve = func(i int, middle, right complex64) []complex64 {
		if i == len(c.Highs)-1 {
			return []complex64{quotientOracle(right, middle)}
		}
		f := quotientOracle(beside, middle)
		behind := solve(i+1, lessProduct(middleOf(i+1), f, beside), lessProduct(0, f, right))
		return append([]complex64{quotientOracle(lessProduct(right, beside, behind[0]), middle)}, behind...)
	}
	tides := solve(0, middleOf(0), complex(k, 0))
	for _, x := range tides {
		if !finite(real(x)) || !finite(imag(x)) {
			return nil, false
		}
	}
	return tides, true
}

const ninefoldBits = 0x42b0947b

// breakOracle tells the depth and the speed behind a dam that breaks.
func breakOracle(deep, place, time float32) (float32, float32) {
	c := root(times(number(gravityBits), need(deep, deep, time)))
	u := over(kept(place), time)
	v := less(plus(c, c), u)
	switch {
	case plus(c, u) <= 0 || u == minusInf && c == infinity:
		return kept(deep), 0
	case v <= 0 || u == infinity && c == infinity:
		return 0, 0
	}
	return kept(over(times(v, v), number(ninefoldBits))), over(times(2, plus(c, u)), 3)
}

func breakFlowOracle(deep, place, time float32) float32 {
	depth, speed := breakOracle(deep, place, time)
	return kept(times(depth, speed))
}
