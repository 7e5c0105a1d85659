package tests

import (
	"math"
	"math/big"
	"testing"

	"loop.example/g01302/impl"
)

func TestSameNumberComparesBits(t *testing.T) {
	list := sampleNumbers(100)
	for _, a := range list {
		for _, b := range list {
			wantThat(t, impl.SameNumber(a, b), bits(a) == bits(b), "SameNumber", a, b)
		}
	}
	wantThat(t, impl.SameNumber(0, minusZero), false, "SameNumber of both zeros")
	wantThat(t, impl.SameNumber(minusZero, minusZero), true, "SameNumber of -0 twice")
	wantThat(t, impl.SameNumber(notANumber, number(0xff800001)), true, "SameNumber of not-a-numbers")
	wantThat(t, impl.SameNumber(notANumber, infinity), false, "SameNumber of no number and infinity")
}

func TestSameComplexComparesBothParts(t *testing.T) {
	list := sampleComplex(20)
	for _, a := range list {
		for _, b := range list {
			wantThat(t, impl.SameComplex(a, b), complexBits(a) == complexBits(b), "SameComplex", a, b)
		}
	}
	wantThat(t, impl.SameComplex(complex(1, 0), complex(1, minusZero)), false, "SameComplex with zeros")
	wantThat(t, impl.SameComplex(complex(notANumber, 1), complex(number(0xffc00001), 1)), true, "SameComplex with not-a-numbers")
}

func TestIsFinite(t *testing.T) {
	for _, x := range sampleNumbers(2000) {
		want := !math.IsNaN(float64(x)) && !math.IsInf(float64(x), 0)
		wantThat(t, impl.IsFinite(x), want, "IsFinite", x)
	}
	for _, x := range sampleComplex(500) {
		want := impl.IsFinite(real(x)) && impl.IsFinite(imag(x))
		wantThat(t, impl.IsFiniteComplex(x), want, "IsFiniteComplex", x)
	}
	wantThat(t, impl.IsFiniteComplex(complex(1, infinity)), false, "IsFiniteComplex of 1 + infinity i")
	wantThat(t, impl.IsFiniteComplex(complex(notANumber, 1)), false, "IsFiniteComplex of a real part that is none")
	wantThat(t, impl.IsFiniteComplex(complex(greatest, tiniest)), true, "IsFiniteComplex at the bounds")
}

func TestBitsOf(t *testing.T) {
	for _, x := range sampleNumbers(2000) {
		wantThat(t, impl.BitsOf(x), int64(bits(x)), "BitsOf", x)
	}
	for _, c := range []struct {
		x    float32
		want int64
	}{
		{0, 0}, {minusZero, 2147483648}, {1, 1065353216}, {-2, 3221225472}, {tiniest, 1}, {-tiniest, 2147483649},
		{greatest, 2139095039}, {infinity, 2139095040}, {minusInf, 4286578688},
		{notANumber, 2143289344}, {number(0xffc00000), 2143289344}, {number(0x7f800001), 2143289344}, {number(0xffffffff), 2143289344},
	} {
		wantThat(t, impl.BitsOf(c.x), c.want, "BitsOf", c.x)
	}
}

func TestFromBits(t *testing.T) {
	for _, n := range []int64{-1, 4294967296, math.MinInt64, math.MaxInt64, -2147483648, 1 << 32 * 3} {
		x, ok := impl.FromBits(n)
		wantNumber(t, x, 0, "FromBits that fails", n)
		wantThat(t, ok, false, "FromBits", n)
	}
	d := drawer(7)
	list := []int64{0, 1, 2147483647, 2147483648, 4294967295, 2139095040, 2139095041, 2143289344, 4286578688, 4286578689}
	for range 3000 {
		list = append(list, int64(uint32(d.next())))
	}
	for _, n := range list {
		x, ok := impl.FromBits(n)
		wantThat(t, ok, true, "FromBits", n)
		wantNumber(t, x, number(uint32(n)), "FromBits", n)
	}
}

func TestNumbersComeBackFromTheirBits(t *testing.T) {
	for _, x := range sampleNumbers(2000) {
		y, ok := impl.FromBits(impl.BitsOf(x))
		wantThat(t, ok, true, "FromBits of BitsOf", x)
		wantNumber(t, y, x, "FromBits of BitsOf", x)
	}
}

func TestNarrowNumberRoundsToEven(t *testing.T) {
	for _, c := range []struct {
		x    float64
		want uint32
	}{
		{0, 0}, {math.Copysign(0, -1), 0x80000000}, {math.Inf(1), 0x7f800000}, {math.Inf(-1), 0xff800000}, {math.NaN(), 0x7fc00000},
		{0.5, 0x3f000000}, {0.1, 0x3dcccccd}, {-0.1, 0xbdcccccd},
		{0x1.000001p0, 0x3f800000}, {0x1.000003p0, 0x3f800002}, {0x1.0000010000001p0, 0x3f800001}, {0x1.0000030000001p0, 0x3f800002}, {0x1.000002ffffffp0, 0x3f800001},
		{0x1.fffffep127, 0x7f7fffff}, {0x1.fffffefffffffp127, 0x7f7fffff}, {0x1.ffffffp127, 0x7f800000}, {-0x1.ffffffp127, 0xff800000}, {math.MaxFloat64, 0x7f800000},
		{0x1p-149, 1}, {0x1p-150, 0}, {-0x1p-150, 0x80000000}, {0x1.0000000000001p-150, 1}, {-0x1.0000000000001p-150, 0x80000001}, {0x1.8p-149, 2}, {0x1.4p-148, 2},
		{0x1p-126, 0x00800000}, {0x1.fffffcp-127, 0x007fffff}, {0x1.fffffep-127, 0x00800000}, {math.SmallestNonzeroFloat64, 0}, {-math.SmallestNonzeroFloat64, 0x80000000},
	} {
		wantNumber(t, impl.NarrowNumber(c.x), number(c.want), "NarrowNumber", c.x)
	}
	d := drawer(99)
	for range 4000 {
		exponent := int(d.next()%300) - 160
		x := math.Ldexp(1+float64(d.next()>>12)/(1<<52), exponent)
		want, _ := big.NewFloat(x).Float32()
		wantNumber(t, impl.NarrowNumber(x), want, "NarrowNumber", x)
		wantComplex(t, impl.NarrowComplex(complex(x, -x)), complex(want, -want), "NarrowComplex", x, -x)
		wantComplex(t, impl.NarrowComplex(complex(1, x)), complex(1, want), "NarrowComplex", 1, x)
	}
	wantComplex(t, impl.NarrowComplex(complex(math.Copysign(0, -1), math.NaN())), complex(minusZero, notANumber), "NarrowComplex of -0 and none")
}

func TestSubnormalNumbers(t *testing.T) {
	for _, x := range sampleNumbers(2000) {
		small := x != 0 && math.Abs(float64(x)) < 0x1p-126
		wantThat(t, impl.IsSubnormal(x), small, "IsSubnormal", x)
		want := x
		if small {
			want = float32(math.Copysign(0, float64(x)))
		}
		wantNumber(t, impl.FlushNumber(x), want, "FlushNumber", x)
	}
	for _, c := range []struct {
		x    uint32
		is   bool
		want uint32
	}{
		{0, false, 0}, {0x80000000, false, 0x80000000}, {1, true, 0}, {0x80000001, true, 0x80000000},
		{0x007fffff, true, 0}, {0x807fffff, true, 0x80000000}, {0x00800000, false, 0x00800000}, {0x80800000, false, 0x80800000},
		{0x7f800000, false, 0x7f800000}, {0xff800000, false, 0xff800000}, {0x7f800001, false, 0x7fc00000}, {0xff800001, false, 0x7fc00000},
	} {
		wantThat(t, impl.IsSubnormal(number(c.x)), c.is, "IsSubnormal of bits", c.x)
		wantNumber(t, impl.FlushNumber(number(c.x)), number(c.want), "FlushNumber of bits", c.x)
	}
}
