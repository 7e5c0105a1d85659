package tests

import (
	"math"
	"math/cmplx"
	"testing"

	"loop.example/g01302/impl"
)

// pairs is a list of complex numbers.
func pairs(list ...complex64) []complex64 { return list }

// heavy is a canal of so many cells for which 9.81 times Deep is Step times Step.
func heavy(count int, drag float32) impl.Canal {
	return canal(4, over(16, number(gravityBits)), drag, make([]float32, count), make([]float32, count))
}

// swing is a rate for which w times w is nearly x.
func swing(x float32) float32 { return over(root(x), number(fullTurnBits)) }

func TestTidesByHand(t *testing.T) {
	wantNumber(t, times(number(gravityBits), heavy(1, 0).Deep), 16, "9.81 times Deep")
	still := func(count int) []complex64 { return alike(count, complex64(1)) }
	for _, c := range []struct {
		c    impl.Canal
		rate float32
		want []complex64
	}{
		// at the rate 0, the canal is as high as the sea
		{heavy(1, 0), 0, still(1)}, {heavy(1, 0), minusZero, still(1)}, {heavy(1, minusZero), 0, still(1)}, {heavy(1, minusZero), minusZero, still(1)}, {heavy(1, 2), 0, still(1)}, {heavy(2, 0), 0, still(2)}, {heavy(2, 0), minusZero, still(2)}, {heavy(2, 3), minusZero, still(2)}, {heavy(2, minusZero), minusZero, still(2)}, {heavy(1, greatest), 0, still(1)},
		// the square of a small rate is nothing, but its product with the drag is not
		{heavy(1, 0), 1e-30, still(1)}, {heavy(2, 1), tiniest, pairs(complex(1, -13*tiniest), complex(1, -20*tiniest))}, {heavy(1, 1), tiniest, pairs(complex(1, -6*tiniest))},
		// one cell: k / (k - w w + w Drag i), with k = 1
		{heavy(1, 0), swing(0.5), pairs(complex(over(1, less(1, times(times(swing(0.5), number(fullTurnBits)), times(swing(0.5), number(fullTurnBits))))), 0))}, {heavy(1, 0), 1, pairs(quotientOracle(1, complex(less(1, times(number(fullTurnBits), number(fullTurnBits))), 0)))}, {heavy(1, 2), 1, pairs(quotientOracle(1, complex(less(1, times(number(fullTurnBits), number(fullTurnBits))), 2*number(fullTurnBits))))},
		// nothing pulls at the water: k is 0
		{canal(1e20, 1, 0, floats(5), floats(0)), 1, pairs(complex(0, minusZero))}, {canal(1e20, 1, 1, floats(5), floats(0)), 1, pairs(complex(0, minusZero))}, {canal(1e20, 1, 1, floats(5), floats(0)), 0, nil}, {canal(1e15, 1e-20, 0, floats(5, 5), floats(0, 0)), 0, nil},
		// k is infinite, or no number
		{canal(1e-20, 1e10, 1, floats(5), floats(0)), 0, nil}, {canal(1e-30, 1, 1, floats(5), floats(0)), 0, nil}, {canal(1, 1e38, 1, floats(5), floats(0)), 0, nil}, {canal(1e30, 1e38, 1, floats(5), floats(0)), 1, nil}, {canal(1e-30, 1e-45, 1, floats(5), floats(0)), 1, nil},
		// very great rates: w times w, or w itself, or w times Drag is infinite
		{heavy(1, 0), 1e18, pairs(quotientOracle(1, complex(-times(times(number(fullTurnBits), 1e18), times(number(fullTurnBits), 1e18)), 0)))}, {heavy(1, 0), 1e20, nil}, {heavy(2, 1), 1e20, nil}, {heavy(1, 0), greatest, nil}, {heavy(1, 1), greatest, nil}, {heavy(3, minusZero), greatest, nil}, {heavy(1, 1e38), 1e5, nil}, {heavy(1, greatest), 1, nil},
	} {
		wantResults(t, all(impl.TidesOf(c.c, c.rate)), all(c.want, len(c.want) > 0), "TidesOf", c.c, c.rate)
	}
}

// Where w times w is k, one cell without drag has the middle 0, and of two of
// them, the first one.
func TestTidesWithoutAMiddle(t *testing.T) {
	zeros := 0
	for n := range 2000 {
		rate := number(bits(0.05) + uint32(n*997))
		w := times(number(fullTurnBits), rate)
		for _, part := range floats(1, 2) {
			// With the Step 1, k is 9.81 times Deep.
			deep := over(over(times(w, w), part), number(gravityBits))
			k := times(number(gravityBits), deep)
			if times(part, k) != times(w, w) {
				continue
			}
			zeros++
			cells := make([]float32, int(part))
			_, ok := impl.TidesOf(canal(1, deep, 0, cells, cells), rate)
			wantThat(t, ok, false, "TidesOf with the middle 0", deep, rate, part)
			_, ok = impl.TidesOf(canal(1, deep, 0.001, cells, cells), rate)
			wantThat(t, ok, true, "TidesOf with drag", deep, rate, part)
			_, ok = impl.TidesOf(canal(1, deep, 0, cells, cells), times(rate, 1.01))
			wantThat(t, ok, true, "TidesOf beside the middle 0", deep, rate, part)
		}
	}
	wantThat(t, zeros > 500, true, "TidesOf is tried with the middle 0", zeros)
}

func TestTidesFail(t *testing.T) {
	for _, c := range []impl.Canal{heavy(1, 0), heavy(2, 1), heavy(impl.MaxCanal, 0.5)} {
		for _, rate := range invalidNumbers() {
			wantResults(t, all(impl.TidesOf(c, rate)), all(noPairs, false), "TidesOf with the rate", len(c.Highs), rate)
		}
	}
}

// What is in a canal does not matter, but how many cells it has.
func TestTidesDoNotDependOnWater(t *testing.T) {
	d := drawer(540)
	for range 300 {
		c, _ := d.calmCanal()
		rate := d.between(0, 0.2)
		still := canal(c.Step, c.Deep, c.Drag, make([]float32, len(c.Highs)), make([]float32, len(c.Highs)))
		want, ok := impl.TidesOf(still, rate)
		wantThat(t, ok && len(want) == len(c.Highs), true, "TidesOf", still, rate)
		wantResults(t, all(impl.TidesOf(c, rate)), all(want, true), "TidesOf", c, rate)
	}
}

func TestTidesOfAllKinds(t *testing.T) {
	d := drawer(541)
	failed, counts := 0, []int{1, 2, 3, 5, 8, impl.MaxCanal}
	for n := range 6000 {
		kinds := tame + n%4
		c, rate := d.canal(counts[n%len(counts)], kinds), d.amount(kinds)
		if n%5 == 0 {
			rate = floats(0, minusZero)[d.next()%2]
		}
		if n%2 == 0 {
			c.Deep, rate = times(c.Deep, 0.1), times(rate, 0.03)
			if c.Deep == 0 {
				c.Deep = tiniest
			}
		}
		want, ok := tidesOracle(c, rate)
		wantResults(t, all(impl.TidesOf(c, rate)), all(want, ok), "TidesOf", c, rate)
		if !ok {
			failed++
		}
	}
	wantThat(t, failed > 500 && failed < 4000, true, "TidesOf is tried with canals that fail, and that do not", failed)
}

// The rows hold, nearly, of the numbers that solve them.
func TestTidesSolveTheirRows(t *testing.T) {
	d := drawer(542)
	for range 500 {
		c, _ := d.calmCanal()
		c.Drag = d.between(0.02, 0.2)
		rate := d.between(0, 0.05)
		tides, ok := impl.TidesOf(c, rate)
		wantThat(t, ok && len(tides) == len(c.Highs), true, "TidesOf", c, rate)
		w := 2 * math.Pi * float64(rate)
		k := 9.81 * float64(c.Deep) / float64(c.Step) / float64(c.Step)
		for i, x := range tides {
			before, next := complex128(1), complex128(x)
			if i > 0 {
				before = complex128(tides[i-1])
			}
			if i+1 < len(tides) {
				next = complex128(tides[i+1])
			}
			size := cmplx.Abs(before) + 2*cmplx.Abs(complex128(x)) + cmplx.Abs(next)
			left := complex(-w*w, w*float64(c.Drag))*complex128(x) + complex(k, 0)*(2*complex128(x)-before-next)
			wantThat(t, cmplx.Abs(left) < 1e-4*size*(k+w*w), true, "TidesOf", c, rate, i, left)
		}
	}
}

// A canal into which the sea swings in small ticks comes to swing as told.
func TestCanalsSwingAsTold(t *testing.T) {
	for _, rate := range []float64{0.005, 0.01, 0.02} {
		c := canal(20, 4, 0.05, make([]float32, 12), make([]float32, 12))
		tides, ok := impl.TidesOf(c, float32(rate))
		wantThat(t, ok, true, "TidesOf")
		const tick = 0.25
		worst := 0.0
		for n := 1; n <= 8000; n++ {
			turn := 2 * math.Pi * rate * tick * float64(n)
			c, ok = impl.StepCanal(c, float32(math.Cos(turn)), tick)
			wantThat(t, ok, true, "StepCanal")
			for i, tide := range tides {
				if n > 6000 {
					want := real(complex128(tide) * cmplx.Exp(complex(0, turn)))
					worst = max(worst, math.Abs(want-float64(c.Highs[i]))/cmplx.Abs(complex128(tide)))
				}
			}
		}
		wantThat(t, worst < 0.05, true, "StepCanal as TidesOf tells", rate, worst)
	}
}
