package tests

import (
	"math"
	"testing"

	"loop.example/g01302/impl"
)

// positiveNumbers are finite numbers greater than 0 over the whole range.
func positiveNumbers() []float32 {
	var list []float32
	for _, x := range sampleNumbers(1500) {
		if x > 0 && x < infinity {
			list = append(list, x)
		}
	}
	for exponent := -149; exponent < 128; exponent++ {
		for _, m := range []float64{1, 1.25, 1.5, 1.9} {
			list = append(list, float32(math.Ldexp(m, exponent)))
		}
	}
	for b := uint32(0x3f7d1100); b < 0x3f7d1200; b++ { // near the bound between -1 and 0 tenths
		list = append(list, number(b))
	}
	return list
}

func TestTenthsOf(t *testing.T) {
	for _, x := range []float32{0, minusZero, -1, -tiniest, infinity, minusInf, notANumber, number(0xffc00000)} {
		n, ok := impl.TenthsOf(x)
		wantThat(t, n, 0, "TenthsOf that fails", x)
		wantThat(t, ok, false, "TenthsOf", x)
	}
	for _, c := range []struct {
		bits uint32
		want int64
	}{
		{0x00000001, -4485}, {0x007fffff, -3793}, {0x00800000, -3793}, {0x7f7fffff, 3853}, {0x3f800000, 0}, {0x40000000, 30}, {0x3f000000, -30},
		{0x41200000, 100}, {0x42c80000, 200}, {0x3dcccccd, -100}, {0x2edbe6ff, -1000}, {0x7149f2ca, 3000},
		{0x3f7d11d0, -1}, {0x3f7d11d1, 0}, {0x3f817b6f, 0}, {0x3f817b70, 1},
	} {
		n, ok := impl.TenthsOf(number(c.bits))
		wantThat(t, n, c.want, "TenthsOf bits", c.bits)
		wantThat(t, ok, true, "TenthsOf bits", c.bits)
	}
	for _, x := range positiveNumbers() {
		n, ok := impl.TenthsOf(x)
		wantThat(t, n, tenthsOracle(x), "TenthsOf", x)
		wantThat(t, ok, true, "TenthsOf", x)
		if near := math.Log10(float64(x)) * 100; math.Abs(float64(n)-near) > 0.51 {
			t.Errorf("TenthsOf(%v) = %v, not near %v", x, n, near)
		}
	}
}

func TestLogNumberToTheLastBit(t *testing.T) {
	for _, c := range [][2]uint32{
		{0x3f800000, 0}, {0x40000000, 0x3f317218}, {0x3f000000, 0xbf317218}, {0x41200000, 0x40135d8e}, {0x402df854, 0x3f7fffff},
		{0x3f400000, 0xbe934b11}, {0x3f3fffff, 0xbe934b13}, {0x3fc00000, 0x3ecf991f}, {0x3fbfffff, 0x3ecf991d},
		{0x00000001, 0xc2ce8ed0}, {0x000116c2, 0xc2b834f2}, {0x7e967699, 0x42aeff18}, {0x7f7fffff, 0x42b17218},
		{0x00000000, 0xff800000}, {0x80000000, 0xff800000}, {0x7f800000, 0x7f800000},
		{0xff800000, 0x7fc00000}, {0xbf800000, 0x7fc00000}, {0x80000001, 0x7fc00000}, {0xff7fffff, 0x7fc00000}, {0x7fc00000, 0x7fc00000}, {0xff800001, 0x7fc00000},
	} {
		wantNumber(t, impl.LogNumber(number(c[0])), number(c[1]), "LogNumber of bits", c[0])
	}
	for _, x := range positiveNumbers() {
		got := impl.LogNumber(x)
		wantNumber(t, got, logOracle(x).narrow(), "LogNumber", x)
		if near := math.Log(float64(x)); math.Abs(float64(got)-near) > 1e-6*(1+math.Abs(near)) {
			t.Errorf("LogNumber(%v) = %v, not near %v", x, got, near)
		}
		if x != 1 {
			wantNumber(t, impl.LogNumber(-x), notANumber, "LogNumber", -x)
		}
	}
}

func TestExpNumberToTheLastBit(t *testing.T) {
	for _, c := range [][2]uint32{
		{0, 0x3f800000}, {0x80000000, 0x3f800000}, {0x3f800000, 0x402df854}, {0xbf800000, 0x3ebc5ab2}, {0x3f000000, 0x3fd3094c}, {0x00000001, 0x3f800000}, {0x80000001, 0x3f800000},
		{0x41200000, 0x46ac14ee}, {0xc1200000, 0x383e6bce}, {0x42b00000, 0x7ef882b7}, {0x42b17217, 0x7f7fff84}, {0x42b17218, 0x7f800000},
		{0xc2af0000, 0x006cb2bc}, {0xc2ce0000, 0x00000001}, {0xc2cff0a4, 0x00000001}, {0xc2cff5c3, 0}, {0xc2d00000, 0},
		{0x43160000, 0x7f800000}, {0x43480000, 0x7f800000}, {0x43480001, 0x7f800000}, {0xc3480000, 0}, {0xc3480001, 0},
		{0x7f7fffff, 0x7f800000}, {0xff7fffff, 0}, {0x7f800000, 0x7f800000}, {0xff800000, 0}, {0x7fc00000, 0x7fc00000}, {0xff800001, 0x7fc00000},
	} {
		wantNumber(t, impl.ExpNumber(number(c[0])), number(c[1]), "ExpNumber of bits", c[0])
	}
	d := drawer(17)
	list := sampleNumbers(500)
	for range 4000 {
		list = append(list, d.moderate()/4)
	}
	for _, x := range list {
		if !finite(x) || x > 200 || x < -200 {
			continue
		}
		got := impl.ExpNumber(x)
		wantNumber(t, got, expOracle(x), "ExpNumber", x)
		if near := math.Exp(float64(x)); x < 88 && math.Abs(float64(got)-near) > 1e-6*near+1e-44 {
			t.Errorf("ExpNumber(%v) = %v, not near %v", x, got, near)
		}
	}
}
