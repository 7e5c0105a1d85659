package tests

import (
	"fmt"
	"slices"

	"loop.example/g01302/impl"
)

func reach(delay, lean float32) impl.Reach { return impl.Reach{Delay: delay, Lean: lean} }

func lake(stores, outs []float32) impl.Lake { return impl.Lake{Stores: stores, Outs: outs} }

func canal(step, deep, drag float32, highs, flows []float32) impl.Canal {
	return impl.Canal{Step: step, Deep: deep, Drag: drag, Highs: highs, Flows: flows}
}

// canalOf is an ordinary canal with these highs, and nothing that flows.
func canalOf(highs ...float32) impl.Canal {
	return canal(2, 1, 0.5, highs, make([]float32, len(highs)))
}

// rows collects lists.
func rows(lists ...[]float32) [][]float32 { return lists }

func rowsText(lists [][]float32) string {
	text := ""
	for _, list := range lists {
		text += fmt.Sprintf("%08x", bitsOfAll(list))
	}
	return text
}

func canalText(c impl.Canal) string {
	return fmt.Sprintf("%08x ", bitsOfAll(floats(c.Step, c.Deep, c.Drag))) + rowsText(rows(c.Highs, c.Flows))
}

var (
	noCanal impl.Canal
	noRows  [][]float32
	noPairs []complex64
)

// alike is a list of the same things.
func alike[T any](count int, x T) []T { return slices.Repeat([]T{x}, count) }

// with is a copy of a list with another thing at a place.
func with[T any](list []T, i int, x T) []T {
	list = slices.Clone(list)
	list[i] = x
	return list
}

// rising is a list of so many numbers from 0 on.
func rising(count int) []float32 {
	list := make([]float32, count)
	for i := range list {
		list[i] = float32(i)
	}
	return list
}

// signed draws a number of the first kinds, with any sign.
func (d *drawer) signed(kinds int) float32 {
	if d.next()%2 == 0 {
		return -d.amount(kinds)
	}
	return d.amount(kinds)
}

// row draws so many numbers with any signs.
func (d *drawer) row(count, kinds int) []float32 {
	list := make([]float32, count)
	for i := range list {
		list[i] = d.signed(kinds)
	}
	return list
}

// reach draws a valid reach.
func (d *drawer) reach(kinds int) impl.Reach {
	return reach(d.length(kinds), times(d.share(), 0.5))
}

func (d *drawer) reaches(count, kinds int) []impl.Reach {
	list := make([]impl.Reach, count)
	for i := range list {
		list[i] = d.reach(kinds)
	}
	return list
}

// lake draws a valid lake.
func (d *drawer) lake(kinds int) impl.Lake {
	count := 2 + int(d.next()%(impl.MaxLake-1))
	stores, outs := d.rain(count, kinds), d.rain(count, kinds)
	slices.Sort(stores)
	slices.Sort(outs)
	for i := 1; i < count; i++ {
		if stores[i] <= stores[i-1] {
			stores[i] = above(stores[i-1] + 0)
		}
	}
	return lake(stores, outs)
}

// storeIn draws a store of a lake: at its ends, at one of its stores, or between.
func (d *drawer) storeIn(l impl.Lake) float32 {
	i := int(d.next() % uint64(len(l.Stores)))
	if i == 0 || d.next()%3 == 0 {
		return l.Stores[i]
	}
	part := times(d.share(), less(l.Stores[i], l.Stores[i-1]))
	return min(plus(l.Stores[i-1], part), l.Stores[i])
}

// canal draws a valid canal.
func (d *drawer) canal(count, kinds int) impl.Canal {
	return canal(d.length(kinds), d.length(kinds), d.amount(kinds), d.row(count, kinds), d.row(count, kinds))
}

// calmCanal draws a canal as there are on maps, and a tick that it stands.
func (d *drawer) calmCanal() (impl.Canal, float32) {
	count := 1 + int(d.next()%impl.MaxCanal)
	c := canal(d.between(5, 50), d.between(1, 10), d.between(0, 0.1), make([]float32, count), make([]float32, count))
	for i := range count {
		c.Highs[i], c.Flows[i] = d.between(-1, 1), d.between(-3, 3)
	}
	return c, over(times(c.Step, d.between(0.1, 0.9)), root(times(number(gravityBits), c.Deep)))
}

// tickFor draws a tick in which the waves of a slope run nearly as far as they
// can, or less, or too far.
func (d *drawer) tickFor(areas []float32, rate, step float32) float32 {
	fast := lengthOracle(rate, slices.Max(areas), 1)
	if !(fast > 0) {
		return 1
	}
	tick := times(over(step, fast), d.between(0.2, 1.02))
	if tick > 0 && finite(tick) {
		return tick
	}
	return 1
}
