package tests

import "loop.example/g01302/impl"

// These functions tell the numbers of chapter 4 in another way than the
// program: what fails is no number, which goes on through all operations and
// comparisons. The operations are those of l02_oracle_test.go, and logarithms
// and powers of e those of chapter 1.

// kept is a number that may be returned.
func kept(x float32) float32 {
	if !finite(x) {
		return notANumber
	}
	return x
}

// need is x if all others are finite and greater than 0.
func need(x float32, others ...float32) float32 {
	for _, other := range others {
		if !amountOracle(other) || other == 0 {
			return notANumber
		}
	}
	return x
}

func validSectionOracle(s impl.Section) bool {
	return amountsOracle(floats(s.Wide, s.Bank, s.Slope, s.Rough)) && s.Slope != 0 && s.Rough != 0 && !(s.Wide == 0 && s.Bank == 0)
}

// atOracle is the depth, if there can be one.
func atOracle(s impl.Section, depth float32) float32 {
	if !validSectionOracle(s) {
		return notANumber
	}
	return need(depth, depth)
}

func areaOracle(s impl.Section, depth float32) float32 {
	d := atOracle(s, depth)
	return kept(times(d, plus(s.Wide, times(s.Bank, d))))
}

func wetOracle(s impl.Section, depth float32) float32 {
	d := atOracle(s, depth)
	return kept(plus(s.Wide, times(times(2, d), root(plus(1, times(s.Bank, s.Bank))))))
}

func topOracle(s impl.Section, depth float32) float32 {
	d := atOracle(s, depth)
	return kept(plus(s.Wide, times(times(2, s.Bank), d)))
}

func middleOracle(s impl.Section, depth float32) float32 {
	return kept(over(areaOracle(s, depth), wetOracle(s, depth)))
}

// powerBits is a power with the bits of an exponent.
func powerBits(x float32, exponent uint32) float32 {
	return impl.ExpNumber(times(number(exponent), impl.LogNumber(x)))
}

const (
	twoThirdsBits  = 0x3f2aaaab
	fourThirdsBits = 0x3faaaaab
	gravityBits    = 0x411cf5c3
	doubleBits     = 0x419cf5c3
	quarterPiBits  = 0x3f490fdb
)

func carriedOracle(s impl.Section, depth float32) float32 {
	x := times(areaOracle(s, depth), powerBits(middleOracle(s, depth), twoThirdsBits))
	return kept(over(times(x, root(s.Slope)), s.Rough))
}

func speedOracle(s impl.Section, depth, flow float32) float32 {
	return kept(over(need(flow, flow), areaOracle(s, depth)))
}

func swiftOracle(s impl.Section, depth, flow float32) float32 {
	long := over(areaOracle(s, depth), topOracle(s, depth))
	return kept(over(speedOracle(s, depth, flow), root(times(number(gravityBits), long))))
}

func headOracle(s impl.Section, depth, flow float32) float32 {
	v := speedOracle(s, depth, flow)
	return kept(plus(depth, over(times(v, v), number(doubleBits))))
}

func pushOracle(s impl.Section, depth, flow float32) float32 {
	z := times(times(depth, depth), plus(over(s.Wide, 2), over(times(s.Bank, depth), 3)))
	return kept(plus(times(number(gravityBits), z), times(flow, speedOracle(s, depth, flow))))
}

func steepOracle(s impl.Section, depth, flow float32) float32 {
	f := times(s.Rough, speedOracle(s, depth, flow))
	return kept(over(times(f, f), powerBits(middleOracle(s, depth), fourThirdsBits)))
}

// searchOracle tells the ends of the last range. The upper half of a range is
// left out if the first side is greater than the second one in the middle.
func searchOracle(low, high float32, rounds int, sides func(x float32) (float32, float32)) (float32, float32) {
	if rounds == 0 {
		return low, high
	}
	x := over(plus(low, high), 2)
	a, b := sides(x)
	switch {
	case a != a || b != b:
		return notANumber, notANumber
	case a > b:
		return searchOracle(low, x, rounds-1, sides)
	}
	return searchOracle(x, high, rounds-1, sides)
}

func normalOracle(s impl.Section, flow float32) float32 {
	_, high := searchOracle(0, 1000, 40, func(c float32) (float32, float32) {
		return carriedOracle(s, c), need(flow, flow)
	})
	return high
}

// heavyOracle tells both sides that are equal at the critical depth. The third power
// is one number, and gravity multiplies it last.
func heavyOracle(s impl.Section, c, flow float32) (float32, float32) {
	a := areaOracle(s, c)
	return times(number(gravityBits), times(times(a, a), a)), times(times(flow, need(flow, flow)), topOracle(s, c))
}

func criticalOracle(s impl.Section, flow float32) float32 {
	_, high := searchOracle(0, 1000, 40, func(c float32) (float32, float32) { return heavyOracle(s, c, flow) })
	return high
}

func otherOracle(s impl.Section, depth, flow float32, of func(s impl.Section, depth, flow float32) float32) float32 {
	c, same := criticalOracle(s, flow), of(s, depth, flow)
	if c != c || same != same {
		return notANumber
	}
	if depth < c {
		low, _ := searchOracle(c, 1000, 40, func(x float32) (float32, float32) { return of(s, x, flow), same })
		return low
	}
	_, high := searchOracle(number(0x3a83126f), c, 40, func(x float32) (float32, float32) { return same, of(s, x, flow) })
	return high
}

func lossOracle(s impl.Section, depth, flow float32) float32 {
	if !(depth < criticalOracle(s, flow)) {
		return notANumber
	}
	behind := otherOracle(s, depth, flow, pushOracle)
	return kept(less(headOracle(s, depth, flow), headOracle(s, behind, flow)))
}

// heightsOracle tells both sides that are equal a length upwards of a depth.
func heightsOracle(s impl.Section, depth, flow, length, x float32) (float32, float32) {
	steep := over(plus(steepOracle(s, depth, flow), steepOracle(s, x, flow)), 2)
	return plus(headOracle(s, x, flow), times(s.Slope, length)), plus(headOracle(s, depth, flow), times(length, steep))
}

func backOracle(s impl.Section, depth, flow, length float32) float32 {
	c := criticalOracle(s, flow)
	if !(depth > c) {
		return notANumber
	}
	_, high := searchOracle(c, 1000, 40, func(x float32) (float32, float32) {
		return heightsOracle(s, depth, flow, need(length, length), x)
	})
	return high
}

func waterOracle(s impl.Section, depth, flow, length float32, count int64) ([]float32, bool) {
	depths := floats()
	for range count {
		depth = backOracle(s, depth, flow, length)
		if depth != depth {
			return nil, false
		}
		depths = append(depths, depth)
	}
	return depths, true
}

func weirOracle(size, crest, level, below float32) float32 {
	u := less(level, crest)
	if !amountOracle(size) || !allFinite(floats(crest, level, below)) {
		return notANumber
	}
	if u <= 0 {
		return 0
	}
	flow := times(times(size, u), root(u))
	if below <= crest {
		return kept(flow)
	}
	if r := over(less(below, crest), u); r < 1 {
		return kept(times(flow, root(less(1, times(r, r)))))
	}
	return 0
}

func gateOracle(size, open, level, below float32) float32 {
	if !amountOracle(size) || !amountOracle(open) || !allFinite(floats(level, below)) {
		return notANumber
	}
	u := less(level, below)
	if over(open, 2) > below {
		u = less(level, over(open, 2))
	}
	if u <= 0 {
		return 0
	}
	return kept(times(times(size, open), root(times(number(doubleBits), u))))
}

func culvertOracle(size, crest, open, level, below float32) float32 {
	weir := weirOracle(size, crest, level, below)
	gate := need(gateOracle(size, open, less(level, crest), less(below, crest)), open)
	if weir != weir || gate != gate {
		return notANumber
	}
	if gate < weir {
		return gate
	}
	return weir
}

func levelOracle(size, crest, flow float32) float32 {
	return kept(need(plus(kept(crest), powerBits(over(flow, size), twoThirdsBits)), size, flow))
}

func pipeLossOracle(flow, wide, long, rough float32) float32 {
	v := over(kept(flow), times(times(number(quarterPiBits), wide), wide))
	size := number(bits(v) &^ (1 << 31)) // of -0, it is +0
	drop := over(times(times(times(rough, over(long, wide)), v), size), number(doubleBits))
	return kept(need(drop, wide, long, rough))
}

func pipeFlowOracle(drop, wide, long, rough float32) float32 {
	if !amountOracle(drop) {
		return notANumber
	}
	fast := root(over(times(times(number(doubleBits), drop), wide), times(rough, long)))
	return kept(need(times(times(times(number(quarterPiBits), wide), wide), fast), wide, long, rough))
}
