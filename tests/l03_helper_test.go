package tests

import (
	"fmt"

	"loop.example/g01302/impl"
)

func storm(start, long, size, peak float32) impl.Storm {
	return impl.Storm{Start: start, Long: long, Size: size, Peak: peak}
}

func soil(take, suck, hold, drain, wet float32) impl.Soil {
	return impl.Soil{Take: take, Suck: suck, Hold: hold, Drain: drain, Wet: wet}
}

func snow(melt, keep, ice, water float32) impl.Snow {
	return impl.Snow{Melt: melt, Keep: keep, Ice: ice, Water: water}
}

func stormsText(list []impl.Storm) string {
	text := ""
	for _, s := range list {
		text += fmt.Sprintf("%08x", bitsOfAll(floats(s.Start, s.Long, s.Size, s.Peak)))
	}
	return text
}

func soilText(s impl.Soil) string {
	return fmt.Sprintf("%08x", bitsOfAll(floats(s.Take, s.Suck, s.Hold, s.Drain, s.Wet)))
}

func snowText(s impl.Snow) string {
	return fmt.Sprintf("%08x", bitsOfAll(floats(s.Melt, s.Keep, s.Ice, s.Water)))
}

// evenList is a list of the same numbers.
func evenList(count int, x float32) []float32 {
	list := make([]float32, count)
	for i := range list {
		list[i] = x
	}
	return list
}

var (
	noStorms []impl.Storm
	noFloats []float32
)

// invalidNumbers are those that are no amounts of water.
func invalidNumbers() []float32 {
	return floats(notANumber, number(0xffc00001), infinity, minusInf, -1, -tiniest, -greatest)
}

// amountsFrom are the kinds of amounts that are drawn: small integers, with
// zeros of both signs, shares, moderate ones, subnormal ones, and great ones.
var amountsFrom = []func(d *drawer) float32{
	func(d *drawer) float32 { return float32(d.next() % 4) },
	func(d *drawer) float32 { return []float32{minusZero, 0, minusZero, 1, 2, 0.5}[d.next()%6] },
	func(d *drawer) float32 { return float32(d.next()%1000) / 1000 },
	func(d *drawer) float32 { return float32(d.next()%1000000) / 1700 },
	func(d *drawer) float32 { return number(uint32(d.next()) & 0x00000fff) },
	func(d *drawer) float32 { return float32(d.next()%1000) * 3e35 },
	func(d *drawer) float32 { return number(uint32(d.next()) % 0x7f800000) },
}

// amount draws an amount of one of the first kinds, or of any of them.
func (d *drawer) amount(kinds int) float32 {
	return amountsFrom[d.next()%uint64(kinds)](d)
}

// share draws a number from 0 to 1.
func (d *drawer) share() float32 {
	return floats(0, minusZero, 1, 0.5, tiniest, number(0x3f7fffff), float32(d.next()%999)/999)[d.next()%7]
}

// length draws a number greater than 0.
func (d *drawer) length(kinds int) float32 {
	x := d.amount(kinds)
	if x > 0 {
		return x
	}
	return floats(1, 0.25, 3)[d.next()%3]
}

// storm draws a valid storm.
func (d *drawer) storm(kinds int) impl.Storm {
	peak := d.share()
	if !(peak > 0 && peak < 1) {
		peak = floats(0.5, 0.1, 0.7)[d.next()%3]
	}
	return storm(d.amount(kinds), d.length(kinds), d.amount(kinds), peak)
}

// soil draws a valid soil. A third of them are full.
func (d *drawer) soil(kinds int) impl.Soil {
	s := soil(d.amount(kinds), d.amount(kinds), d.amount(kinds), d.amount(kinds), 0)
	s.Wet = times(s.Hold, d.share())
	if d.next()%3 == 0 {
		s.Wet = s.Hold
	}
	return s
}

// snow draws a valid snow.
func (d *drawer) snow(kinds int) impl.Snow {
	return snow(d.amount(kinds), d.share(), d.amount(kinds), d.amount(kinds))
}

// rain draws so many amounts.
func (d *drawer) rain(count, kinds int) []float32 {
	list := make([]float32, count)
	for i := range list {
		list[i] = d.amount(kinds)
	}
	return list
}

// storms draws so many valid storms.
func (d *drawer) storms(count, kinds int) []impl.Storm {
	list := make([]impl.Storm, count)
	for i := range list {
		list[i] = d.storm(kinds)
	}
	return list
}

// amountKinds is how many kinds of amounts there are, and tame how many of them
// stay finite where some of them are multiplied.
const (
	amountKinds = 7
	tame        = 4
)

// wideSum is a sum that is rounded so little that others can be held against it.
func wideSum(lists ...[]float32) float64 {
	sum := 0.0
	for _, list := range lists {
		for _, x := range list {
			sum += float64(x)
		}
	}
	return sum
}

// isNear reports whether two sums differ by less than a few roundings of their
// parts.
func isNear(a, b, parts float64) bool {
	return a-b <= parts*1e-5 && b-a <= parts*1e-5
}
