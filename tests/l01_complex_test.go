package tests

import (
	"math"
	"testing"

	"loop.example/g01302/impl"
)

// Products of 32-bit numbers are exact in 64-bit ones, so these sums of two of
// them are the same whether they are fused or not.

func productOracle(x, y complex64) (float64, float64) {
	a, b, c, d := float64(real(x)), float64(imag(x)), float64(real(y)), float64(imag(y))
	return a*c - b*d, a*d + b*c
}

func powerOracle(x complex64) float64 {
	a, b := float64(real(x)), float64(imag(x))
	return a*a + b*b
}

func TestMulComplexNarrowsOnlyInTheEnd(t *testing.T) {
	list := sampleComplex(60)
	for _, x := range list {
		for _, y := range list {
			re, im := productOracle(x, y)
			wantComplex(t, impl.MulComplex(x, y), complex(float32(re), float32(im)), "MulComplex", x, y)
		}
	}
	// As 32-bit numbers, both products of the real part would be 16785408, and their difference 0.
	x, y := complex64(complex(4097, 4096)), complex64(complex(4097, 4098))
	wantComplex(t, impl.MulComplex(x, y), complex(4097*4097-4096*4098, float32(4097*4098+4096*4097)), "MulComplex", x, y)
	wantComplex(t, impl.MulComplex(complex(greatest, greatest), complex(greatest, greatest)), complex(0, infinity), "MulComplex of the greatest")
	wantComplex(t, impl.MulComplex(complex(infinity, 0), complex(0, 1)), complex(notANumber, infinity), "MulComplex of infinity and i")
	wantComplex(t, impl.MulComplex(complex(minusZero, 0), complex(1, 0)), complex(minusZero, 0), "MulComplex of -0 and 1")
	wantComplex(t, impl.MulComplex(complex(tiniest, 0), complex(0.5, 0)), 0, "MulComplex of the tiniest and 1/2")
}

func TestProductsOfSmallIntegersAreExact(t *testing.T) {
	for a := int64(-6); a <= 6; a++ {
		for b := int64(-6); b <= 6; b++ {
			for c := int64(-6); c <= 6; c++ {
				for d := int64(-6); d <= 6; d++ {
					x, y := complex(float32(a), float32(b)), complex(float32(c), float32(d))
					p := impl.MulComplex(x, y)
					if float64(real(p)) != float64(a*c-b*d) || float64(imag(p)) != float64(a*d+b*c) {
						t.Fatalf("MulComplex of %v and %v: %v", x, y, p)
					}
				}
			}
		}
	}
}

func TestScaleComplexRoundsBothParts(t *testing.T) {
	for _, x := range sampleComplex(60) {
		for _, by := range edgeNumbers() {
			want := complex(float32(float64(real(x))*float64(by)), float32(float64(imag(x))*float64(by)))
			wantComplex(t, impl.ScaleComplex(x, by), want, "ScaleComplex", x, by)
		}
	}
	wantComplex(t, impl.ScaleComplex(complex(infinity, minusZero), 2), complex(infinity, minusZero), "ScaleComplex of infinity")
	wantComplex(t, impl.ScaleComplex(complex(infinity, 1), 0), complex(notANumber, 0), "ScaleComplex by 0")
	wantComplex(t, impl.ScaleComplex(complex(1, -1), minusZero), complex(minusZero, 0), "ScaleComplex by -0")
}

func TestConjugateOf(t *testing.T) {
	for _, x := range sampleComplex(500) {
		want := complex(real(x), number(math.Float32bits(imag(x))^0x80000000))
		wantComplex(t, impl.ConjugateOf(x), want, "ConjugateOf", x)
	}
	wantComplex(t, impl.ConjugateOf(complex(minusZero, 0)), complex(minusZero, minusZero), "ConjugateOf of zeros")
	wantComplex(t, impl.ConjugateOf(complex(1, minusZero)), 1, "ConjugateOf of 1 - 0 i")
	wantComplex(t, impl.ConjugateOf(complex(1, minusInf)), complex(1, infinity), "ConjugateOf of 1 - infinity i")
}

func TestPowerOfAndLongOf(t *testing.T) {
	for _, x := range sampleComplex(3000) {
		power := powerOracle(x)
		wantNumber(t, impl.PowerOf(x), float32(power), "PowerOf", x)
		wantNumber(t, impl.LongOf(x), float32(math.Sqrt(power)), "LongOf", x)
	}
	for _, c := range []struct {
		x           complex64
		power, long float32
	}{
		{0, 0, 0}, {complex(minusZero, minusZero), 0, 0}, {complex(3, -4), 25, 5},
		{complex(1e30, 0), infinity, 1e30}, {complex(0, 1e-30), 0, 1e-30}, {complex(tiniest, 0), 0, tiniest},
		{complex(greatest, greatest), infinity, infinity}, {complex(minusInf, 1), infinity, infinity}, {complex(infinity, notANumber), notANumber, notANumber},
	} {
		wantNumber(t, impl.PowerOf(c.x), c.power, "PowerOf", c.x)
		wantNumber(t, impl.LongOf(c.x), c.long, "LongOf", c.x)
	}
}

func TestQuotientOfDividesWideParts(t *testing.T) {
	list := sampleComplex(60)
	for _, x := range list {
		for _, y := range list {
			re, im := productOracle(x, complex(real(y), -imag(y)))
			power := powerOracle(y)
			wantComplex(t, impl.QuotientOf(x, y), complex(float32(re/power), float32(im/power)), "QuotientOf", x, y)
		}
	}
	for _, c := range []struct{ x, y, want complex64 }{
		{complex(5, 5), complex(3, -1), complex(1, 2)},
		{1, 0, complex(notANumber, notANumber)}, {complex(-1, 2), complex(minusZero, 0), complex(notANumber, notANumber)}, {0, 0, complex(notANumber, notANumber)},
		{complex(0, 4), 2, complex(0, 2)}, {1, complex(tiniest, 0), complex(infinity, 0)}, {-1, complex(0, tiniest), complex(0, infinity)},
		{complex(1e-30, 0), complex(1e-30, 0), 1}, {complex(1e30, 1e30), complex(0, 1e30), complex(1, -1)},
		{1, complex(infinity, 0), complex(notANumber, notANumber)},
	} {
		wantComplex(t, impl.QuotientOf(c.x, c.y), c.want, "QuotientOf", c.x, c.y)
	}
}

func TestRootNumber(t *testing.T) {
	for _, x := range sampleNumbers(3000) {
		wantNumber(t, impl.RootNumber(x), float32(math.Sqrt(float64(x))), "RootNumber", x)
	}
	for _, c := range []struct{ x, want float32 }{
		{0, 0}, {minusZero, minusZero}, {9, 3}, {2, number(0x3fb504f3)}, {tiniest, number(0x1a3504f3)}, {infinity, infinity},
		{-tiniest, notANumber}, {-1, notANumber}, {minusInf, notANumber}, {notANumber, notANumber},
	} {
		wantNumber(t, impl.RootNumber(c.x), c.want, "RootNumber", c.x)
	}
}
