package tests

import (
	"fmt"
	"math"
	"strings"
	"testing"

	"loop.example/g01302/impl"
)

func hill(wide, high int64, heights ...float32) impl.Hill {
	return impl.Hill{Wide: wide, High: high, Heights: heights}
}

// evenHill is a hill of the same heights.
func evenHill(wide, high int64, height float32) impl.Hill {
	h := hill(wide, high, make([]float32, wide*high)...)
	for i := range h.Heights {
		h.Heights[i] = height
	}
	return h
}

func hillText(h impl.Hill) string {
	return fmt.Sprintf("%dx%d %08x", h.Wide, h.High, bitsOfAll(h.Heights))
}

// wantResults compares all results of a call with others.
func wantResults(t *testing.T, got, want []any, what string, args ...any) {
	t.Helper()
	if told(got...) != told(want...) {
		t.Errorf("%s%v: got %s, want %s", what, args, told(got...), told(want...))
	}
}

// all collects the results of a call.
func all(results ...any) []any { return results }

// ints is a list of integers.
func ints(list ...int64) []int64 { return list }

// floats is a list of numbers.
func floats(list ...float32) []float32 { return list }

var noHill impl.Hill

// sides are the sides of hills that the tests use: of one row, of one column, of
// one cell, without inner cells, and of the greatest ones.
var sides = [][2]int64{{1, 1}, {2, 1}, {1, 2}, {16, 1}, {1, 16}, {5, 1}, {1, 7}, {2, 2}, {2, 5}, {6, 2}, {3, 3}, {4, 3}, {3, 5}, {5, 5}, {7, 6}, {9, 9}, {16, 3}, {4, 16}, {16, 16}}

// heightsFrom are the kinds of heights that are drawn: with many equal ones,
// zeros of both signs, moderate ones, subnormal ones, and great ones of which
// differences stay finite.
var heightsFrom = []func(d *drawer) float32{
	func(d *drawer) float32 { return float32(d.next() % 2) },
	func(d *drawer) float32 { return float32(d.next()%4) - 1 },
	func(d *drawer) float32 { return []float32{minusZero, 0, minusZero, 1, -1}[d.next()%5] },
	func(d *drawer) float32 { return []float32{minusZero, 0, tiniest, -tiniest}[d.next()%4] },
	(*drawer).moderate,
	func(d *drawer) float32 { return number(uint32(d.next()) & 0x80000fff) },
	func(d *drawer) float32 { return d.moderate() * 3e35 },
}

func drawnHill(d *drawer, side [2]int64, draw func(d *drawer) float32) impl.Hill {
	h := evenHill(side[0], side[1], 0)
	for i := range h.Heights {
		h.Heights[i] = draw(d)
	}
	return h
}

// sampleHills are drawn hills of all kinds and sides, and even ones.
func sampleHills(seed uint64) []impl.Hill {
	d := drawer(seed)
	list := []impl.Hill{evenHill(16, 16, 0), evenHill(16, 16, minusZero), evenHill(5, 4, -7.5), spiralHill(), evenHill(3, 3, greatest)}
	for _, side := range sides {
		for _, draw := range heightsFrom {
			list = append(list, drawnHill(&d, side, draw))
		}
	}
	return list
}

// spiralHill has a long flat valley that leads out of its middle, between walls.
func spiralHill() impl.Hill {
	rows := []string{
		"#########",
		"#.......#",
		"#.#####.#",
		"#.#...#.#",
		"#.#.#.#.#",
		"#.#.###.#",
		"#.#.....#",
		"#.#######",
		".########",
	}
	h := evenHill(9, 9, 3)
	for i, c := range strings.Join(rows, "") {
		if c == '.' {
			h.Heights[i] = 1
		}
	}
	return h
}

// drawnWays are ways of a hill that need not go down: with the cells in a drawn
// order, each one leads to a neighbour before it, or nowhere.
func drawnWays(d *drawer, h impl.Hill, ends uint64) []int64 {
	rank := make([]uint64, len(h.Heights))
	for i := range rank {
		rank[i] = d.next()
	}
	ways := make([]int64, len(rank))
	for i := range ways {
		cells, _ := besideOracle(h, i)
		ways[i] = -1
		for _, k := range cells {
			if rank[k] < rank[i] && d.next()%ends != 0 {
				ways[i] = int64(k)
			}
		}
	}
	return ways
}

// invalidHills are hills that are not valid.
func invalidHills() []impl.Hill {
	list := []impl.Hill{
		{}, {Wide: 1, High: 1}, {Wide: 0, High: 1}, {Wide: 1, High: 0}, {Wide: 0, High: 0, Heights: []float32{1}}, {Wide: 1, Heights: []float32{1}}, {High: 1, Heights: []float32{1}},
		hill(2, 1, 1), hill(2, 1, 1, 2, 3), hill(-1, -1, 1), hill(-2, -3, make([]float32, 6)...), hill(17, 1, make([]float32, 17)...), hill(1, 17, make([]float32, 17)...),
		hill(16, 17, make([]float32, 272)...), hill(17, 16, make([]float32, 272)...), hill(16, 16, make([]float32, 255)...), hill(16, 16, make([]float32, 257)...),
		hill(1<<32, 1<<32), hill(1<<62, 4), hill(math.MinInt64, 2), hill(math.MaxInt64, math.MaxInt64, 1), hill(math.MinInt64, math.MinInt64, 1), hill(32, 8, make([]float32, 256)...),
	}
	for _, x := range []float32{notANumber, number(0xffc00001), infinity, minusInf} {
		for i := range 4 {
			h := evenHill(2, 2, 1)
			h.Heights[i] = x
			list = append(list, h)
		}
	}
	last := evenHill(16, 16, 1)
	last.Heights[255] = infinity
	return append(list, last)
}
