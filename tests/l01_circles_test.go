package tests

import (
	"math"
	"testing"

	"loop.example/g01302/impl"
)

func finite(x float32) bool { return !math.IsNaN(float64(x)) && !math.IsInf(float64(x), 0) }

func TestSineTurnsToTheLastBit(t *testing.T) {
	for _, c := range [][2]uint32{
		{0x00000000, 0x00000000}, {0x80000000, 0x80000000}, // zeros
		{0x00000001, 0x00000006}, {0x80000001, 0x80000000}, {0x800116c2, 0x80000000}, // subnormal
		{0x3e000000, 0x3f3504f3}, {0x3e800000, 0x3f800000}, {0x3eaaaaab, 0x3f5db3d7}, {0x3f000000, 0x80000000}, {0x3f400000, 0xbf800000}, {0x3f800000, 0x00000000},
		{0xbe000000, 0xbf3504f3}, {0xbf000000, 0x80000000}, {0xbf800000, 0x00000000}, {0x3effffff, 0x34490fdb}, {0x3a83126f, 0x3bcde2d6}, {0x42f6e979, 0x3e8bbf57}, {0xb089705f, 0xb1d7e37b},
		{0x4a7fffff, 0xbf800000}, {0x597fffff, 0x00000000}, {0x59800000, 0x00000000}, {0xd9800000, 0x00000000}, {0x7f7fffff, 0x00000000}, {0xff7fffff, 0x00000000},
		{0x7f800000, 0x7fc00000}, {0xff800000, 0x7fc00000}, {0x7f800001, 0x7fc00000}, {0xffc00000, 0x7fc00000},
	} {
		wantNumber(t, impl.SineTurns(number(c[0])), number(c[1]), "SineTurns of bits", c[0])
	}
	for _, x := range sampleNumbers(1500) {
		if !finite(x) || math.Abs(float64(x)) >= 1<<52 {
			continue
		}
		wantNumber(t, impl.SineTurns(x), sineOracle(float64(x)).narrow(), "SineTurns", x)
	}
	for k := range 4096 {
		x := float32(k-2048) / 512
		wantNumber(t, impl.SineTurns(x), sineOracle(float64(x)).narrow(), "SineTurns", x)
	}
}

func TestSineTurnsIsNearTheSine(t *testing.T) {
	for k := range 2000 {
		x := float32(k-1000) / 333
		near := math.Sin(2 * math.Pi * float64(x))
		if math.Abs(float64(impl.SineTurns(x))-near) > 1e-6 {
			t.Errorf("SineTurns(%v) = %v, not near %v", x, impl.SineTurns(x), near)
		}
	}
}

func TestPhasorOfToTheLastBit(t *testing.T) {
	for _, c := range []struct {
		turns  float64
		re, im uint32
	}{
		{0, 0x3f800000, 0}, {math.Copysign(0, -1), 0x3f800000, 0x80000000}, {0.125, 0x3f3504f3, 0x3f3504f3}, {1e-17, 0x3f800000, 0x2490e161}, {0.24999999999999997, 0x25490fdb, 0x3f800000}, // q = 0
		{0.25, 0, 0x3f800000}, {0.3, 0xbe9e377a, 0x3f737871}, {1000000.3, 0xbe9e377a, 0x3f737871}, // q = 1
		{0.5, 0xbf800000, 0}, {0.7, 0xbe9e377a, 0xbf737871}, {0x1p51 + 0.5, 0xbf800000, 0}, {-0x1p51 - 0.5, 0xbf800000, 0}, // q = 2
		{0.75, 0, 0xbf800000}, {0.9, 0x3f4f1bbd, 0xbf167918}, {-0.1, 0x3f4f1bbd, 0xbf167918}, {-0.25, 0, 0xbf800000}, {0.9999999999999999, 0x3f800000, 0xa6490fdb}, {-1e-16, 0x3f800000, 0xa6490fdb}, // q = 3
		{-1e-17, 0x3f800000, 0}, {-1e-40, 0x3f800000, 0}, {-math.SmallestNonzeroFloat64, 0x3f800000, 0}, // q = 4
		{1, 0x3f800000, 0}, {-1, 0x3f800000, 0}, {0x1p52 - 0.5, 0xbf800000, 0}, {0x1p52, 0x3f800000, 0}, {-0x1p52, 0x3f800000, 0}, {math.MaxFloat64, 0x3f800000, 0}, {-math.MaxFloat64, 0x3f800000, 0},
		{math.Inf(1), 0x7fc00000, 0x7fc00000}, {math.Inf(-1), 0x7fc00000, 0x7fc00000}, {math.NaN(), 0x7fc00000, 0x7fc00000},
	} {
		wantComplex(t, impl.PhasorOf(c.turns), complex(number(c.re), number(c.im)), "PhasorOf", c.turns)
	}
	d := drawer(5)
	for range 3000 {
		turns := math.Ldexp(float64(d.next()>>11), int(d.next()%70)-90)
		if d.next()%2 == 0 {
			turns = -turns
		}
		wantComplex(t, impl.PhasorOf(turns), phasorOracle(turns), "PhasorOf", turns)
	}
	for k := range 4096 {
		turns := float64(k-2048) / 1024
		wantComplex(t, impl.PhasorOf(turns), phasorOracle(turns), "PhasorOf", turns)
	}
}

func TestAngleTurnsToTheLastBit(t *testing.T) {
	for _, c := range [][3]uint32{ // y, x, and the angle
		{0, 0, 0}, {0x80000000, 0, 0}, {0, 0x80000000, 0}, {0x80000000, 0x80000000, 0}, // both zeros
		{0, 0x3f800000, 0}, {0x80000000, 0x3f800000, 0}, {0, 0xbf800000, 0x3f000000}, {0x80000000, 0xbf800000, 0x3f000000}, // the axes
		{0x3f800000, 0, 0x3e800000}, {0x3f800000, 0x80000000, 0x3e800000}, {0xbf800000, 0, 0xbe800000}, {0xbf800000, 0x80000000, 0xbe800000},
		{0x3f800000, 0x3f800000, 0x3e000000}, {0x3f800000, 0xbf800000, 0x3ec00000}, {0xbf800000, 0x3f800000, 0xbe000000}, {0xbf800000, 0xbf800000, 0xbec00000},
		{0x3f800000, 0x40000000, 0x3d972029}, {0x40000000, 0x3f800000, 0x3e346fec}, {0xc0400000, 0x40800000, 0xbdd1bfae},
		{0x00000001, 0x7f7fffff, 0}, {0x80000001, 0x7f7fffff, 0x80000000}, {0x00000001, 0xff7fffff, 0x3f000000}, {0x80000001, 0xff7fffff, 0xbf000000},
		{0x7f7fffff, 0x00000001, 0x3e800000}, {0x7f7fffff, 0x80000001, 0x3e800000}, {0x00000001, 0x00000001, 0x3e000000},
		{0x7f800000, 0x3f800000, 0x7fc00000}, {0x3f800000, 0xff800000, 0x7fc00000}, {0x7fc00000, 0, 0x7fc00000}, {0, 0xffc00000, 0x7fc00000}, {0x7f800000, 0x7f800000, 0x7fc00000},
	} {
		wantNumber(t, impl.AngleTurns(number(c[0]), number(c[1])), number(c[2]), "AngleTurns of bits", c[0], c[1])
	}
	list := sampleNumbers(1000)
	d := drawer(31)
	for _, y := range list {
		x := list[d.next()%uint64(len(list))]
		if !finite(x) || !finite(y) || x == 0 && y == 0 {
			continue
		}
		want := angleOracle(y, x)
		wantNumber(t, impl.AngleTurns(y, x), want, "AngleTurns", y, x)
		wantNumber(t, impl.AngleOf(complex(x, y)), want, "AngleOf", x, y)
	}
	for range 3000 {
		y, x := d.moderate(), d.moderate()
		wantNumber(t, impl.AngleTurns(y, x), angleOracle(y, x), "AngleTurns", y, x)
	}
}

func TestAngleOfIsTheAngleOfTheParts(t *testing.T) {
	for _, x := range sampleComplex(500) {
		wantNumber(t, impl.AngleOf(x), impl.AngleTurns(imag(x), real(x)), "AngleOf", x)
	}
	wantNumber(t, impl.AngleOf(complex(0, 1)), 0.25, "AngleOf i")
	wantNumber(t, impl.AngleOf(-1), 0.5, "AngleOf -1")
	wantNumber(t, impl.AngleOf(complex(1, infinity)), notANumber, "AngleOf 1 + infinity i")
}

func TestAnglesLeadBackToTheirPhasors(t *testing.T) {
	for k := range 999 {
		turns := float64(k-499) / 1000
		angle := impl.AngleOf(impl.PhasorOf(turns))
		if math.Abs(float64(angle)-turns) > 1e-6 {
			t.Errorf("the angle of the phasor of %v turns is %v", turns, angle)
		}
	}
}
