package tests

import (
	"math"
	"slices"

	"loop.example/g01302/impl"
)

// These functions tell the results of chapter 2 in another way than the program:
// by trying all heights, by walking each way, and by going over all cells until
// nothing changes. Each operation is a 64-bit one that is narrowed, which leads
// to the same as the 32-bit one, and cannot be fused with another one.

func plus(a, b float32) float32  { return float32(float64(a) + float64(b)) }
func less(a, b float32) float32  { return float32(float64(a) - float64(b)) }
func times(a, b float32) float32 { return float32(float64(a) * float64(b)) }
func over(a, b float32) float32  { return float32(float64(a) / float64(b)) }
func root(a float32) float32     { return float32(math.Sqrt(float64(a))) }

func allFinite(list []float32) bool {
	return !slices.ContainsFunc(list, func(x float32) bool { return !finite(x) })
}

// besideOracle returns the neighbours of a cell, and how far they are away.
func besideOracle(h impl.Hill, i int) (cells []int, far []float32) {
	x, y := i%int(h.Wide), i/int(h.Wide)
	for _, place := range [][2]int{{x, y - 1}, {x + 1, y - 1}, {x + 1, y}, {x + 1, y + 1}, {x, y + 1}, {x - 1, y + 1}, {x - 1, y}, {x - 1, y - 1}} {
		if place[0] < 0 || place[1] < 0 || place[0] >= int(h.Wide) || place[1] >= int(h.High) {
			continue
		}
		cells = append(cells, place[1]*int(h.Wide)+place[0])
		if place[0] == x || place[1] == y {
			far = append(far, 1)
		} else {
			far = append(far, number(0x3fb504f3))
		}
	}
	return cells, far
}

func edgeOracle(h impl.Hill, i int) bool {
	x, y := int64(i)%h.Wide, int64(i)/h.Wide
	return x == 0 || y == 0 || x == h.Wide-1 || y == h.High-1
}

// fillOracle tries all heights, the least ones first: a cell is filled to the
// first one at which the edge is reached over cells that are not higher.
func fillOracle(h impl.Hill) []float32 {
	filled := slices.Clone(h.Heights)
	done := make([]bool, len(filled))
	levels := slices.Clone(h.Heights)
	slices.Sort(levels)
	for _, level := range levels {
		reached := make([]bool, len(filled))
		var visit func(i int)
		visit = func(i int) {
			if reached[i] || h.Heights[i] > level {
				return
			}
			reached[i] = true
			cells, _ := besideOracle(h, i)
			for _, k := range cells {
				visit(k)
			}
		}
		for i := range filled {
			if edgeOracle(h, i) {
				visit(i)
			}
		}
		for i := range filled {
			if !reached[i] || done[i] {
				continue
			}
			done[i] = true
			if level > h.Heights[i] {
				filled[i] = plus(level, 0)
			}
		}
	}
	return filled
}

func hollowOracle(h impl.Hill) (float32, bool) {
	var sum float32
	for i, x := range fillOracle(h) {
		if x > h.Heights[i] {
			sum = plus(sum, less(x, h.Heights[i]))
		}
	}
	if !finite(sum) {
		return 0, false
	}
	return sum, true
}

func fallOracle(h impl.Hill, i int) (int64, float32, bool) {
	to, steepest := int64(-1), float32(0)
	cells, far := besideOracle(h, i)
	for n, k := range cells {
		if fall := over(less(h.Heights[i], h.Heights[k]), far[n]); fall > steepest {
			to, steepest = int64(k), fall
		}
	}
	if !finite(steepest) {
		return 0, 0, false
	}
	return to, steepest, true
}

func downOracle(h impl.Hill) ([]int64, bool) {
	ways := make([]int64, len(h.Heights))
	for i := range ways {
		to, _, ok := fallOracle(h, i)
		if !ok {
			return nil, false
		}
		ways[i] = to
	}
	return ways, true
}

// runOracle lets the numbers of steps become less until none does.
func runOracle(h impl.Hill) ([]int64, bool) {
	filled := impl.Hill{Wide: h.Wide, High: h.High, Heights: fillOracle(h)}
	ways, ok := downOracle(filled)
	if !ok {
		return nil, false
	}
	steps := make([]int, len(ways))
	for i := range steps {
		if ways[i] == -1 && !edgeOracle(h, i) {
			steps[i] = 1000000
		}
	}
	best := func(i int) (least int, at int64) {
		least, at = 1000000, -1
		cells, _ := besideOracle(filled, i)
		for _, k := range cells {
			if filled.Heights[k] == filled.Heights[i] && steps[k] < least {
				least, at = steps[k], int64(k)
			}
		}
		return least, at
	}
	for changed := true; changed; {
		changed = false
		for i := range steps {
			if least, _ := best(i); least+1 < steps[i] {
				steps[i] = least + 1
				changed = true
			}
		}
	}
	for i := range ways {
		if steps[i] > 0 {
			_, ways[i] = best(i)
		}
	}
	return ways, true
}

// walk returns the path from a cell, or nil if it leads around.
func walk(ways []int64, i int) []int64 {
	var path []int64
	for at := int64(i); at != -1; at = ways[at] {
		if len(path) > len(ways) {
			return nil
		}
		path = append(path, at)
	}
	return path
}

func areWaysOracle(h impl.Hill, ways []int64) bool {
	if len(ways) != len(h.Heights) {
		return false
	}
	for i, way := range ways {
		cells, _ := besideOracle(h, i)
		if way != -1 && !slices.Contains(cells, int(way)) {
			return false
		}
	}
	for i := range ways {
		if walk(ways, i) == nil {
			return false
		}
	}
	return true
}

func catchmentsOracle(ways []int64) []int64 {
	counts := make([]int64, len(ways))
	for i := range ways {
		for _, k := range walk(ways, i) {
			counts[k]++
		}
	}
	return counts
}

func throughOracle(ways []int64, rain []float32, i int) float32 {
	sum := rain[i]
	for k, way := range ways {
		if way == int64(i) {
			sum = plus(sum, throughOracle(ways, rain, k))
		}
	}
	return sum
}

func rainOracle(ways []int64, rain []float32) ([]float32, bool) {
	through := make([]float32, len(ways))
	for i := range through {
		through[i] = throughOracle(ways, rain, i)
	}
	if !allFinite(through) {
		return nil, false
	}
	return through, true
}

func basinsOracle(ways []int64) ([]int64, int64) {
	numbers := map[int64]int64{}
	basins := make([]int64, len(ways))
	for i := range ways {
		path := walk(ways, i)
		end := path[len(path)-1]
		if _, ok := numbers[end]; !ok {
			numbers[end] = int64(len(numbers))
		}
		basins[i] = numbers[end]
	}
	return basins, int64(len(numbers))
}

func orderOracle(ways []int64, i int) int64 {
	var orders []int64
	for k, way := range ways {
		if way == int64(i) {
			orders = append(orders, orderOracle(ways, k))
		}
	}
	if len(orders) == 0 {
		return 1
	}
	slices.Sort(orders)
	slices.Reverse(orders)
	if len(orders) > 1 && orders[0] == orders[1] {
		return orders[0] + 1
	}
	return orders[0]
}

func ordersOracle(ways []int64) []int64 {
	orders := make([]int64, len(ways))
	for i := range orders {
		orders[i] = orderOracle(ways, i)
	}
	return orders
}

func longestOracle(ways []int64) []int64 {
	longest := walk(ways, 0)
	for i := range ways {
		if path := walk(ways, i); len(path) > len(longest) {
			longest = path
		}
	}
	return longest
}

func ridgesOracle(h impl.Hill, ways []int64) []int64 {
	ridges := []int64{}
	basins, _ := basinsOracle(ways)
	for i := range basins {
		cells, _ := besideOracle(h, i)
		if slices.ContainsFunc(cells, func(k int) bool { return basins[k] != basins[i] }) {
			ridges = append(ridges, int64(i))
		}
	}
	return ridges
}

func tiltOracle(h impl.Hill, i int) (complex64, bool) {
	wide, high := int(h.Wide), int(h.High)
	x, y := i%wide, i/wide
	at := func(x, y int) float32 { return h.Heights[y*wide+x] }
	var east, south float32
	switch {
	case wide == 1:
	case x == 0:
		east = less(at(1, y), at(0, y))
	case x == wide-1:
		east = less(at(x, y), at(x-1, y))
	default:
		east = over(less(at(x+1, y), at(x-1, y)), 2)
	}
	switch {
	case high == 1:
	case y == 0:
		south = less(at(x, 1), at(x, 0))
	case y == high-1:
		south = less(at(x, y), at(x, y-1))
	default:
		south = over(less(at(x, y+1), at(x, y-1)), 2)
	}
	if !finite(east) || !finite(south) {
		return 0, false
	}
	return complex(east, south), true
}

func shadeOracle(h impl.Hill, turn, steep float32) ([]float32, bool) {
	shades := make([]float32, len(h.Heights))
	sun := phasorOracle(float64(turn))
	for i := range shades {
		tilt, ok := tiltOracle(h, i)
		if !ok {
			return nil, false
		}
		against := plus(times(real(tilt), real(sun)), times(imag(tilt), imag(sun)))
		long := times(root(plus(float32(powerOracle(tilt)), 1)), root(plus(times(steep, steep), 1)))
		if bright := over(less(steep, against), long); bright > 0 {
			shades[i] = bright
		}
	}
	return shades, true
}

func seesOracle(h impl.Hill, i, k int, eye float32) (sees, ok bool) {
	wide := int(h.Wide)
	x, y := i%wide, i/wide
	east, south := k%wide-x, k/wide-y
	if (east == 0) == (south == 0) {
		return false, false
	}
	far := max(east, -east, south, -south)
	start := plus(h.Heights[i], eye)
	lines, over1 := []float32{start}, []bool{}
	for n := 1; n < far; n++ {
		line := plus(start, times(over(float32(n), float32(far)), less(h.Heights[k], start)))
		lines = append(lines, line)
		over1 = append(over1, h.Heights[(y+south/far*n)*wide+x+east/far*n] > line)
	}
	if !allFinite(lines) {
		return false, false
	}
	return !slices.Contains(over1, true), true
}
