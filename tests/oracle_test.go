package tests

import (
	"math"
	"math/big"
)

// wide is a finite 64-bit number each operation on which is rounded on its
// own: math/big does not know the machine's own floats, which may be fused.
type wide struct{ f *big.Float }

func blank() *big.Float { return new(big.Float).SetPrec(53).SetMode(big.ToNearestEven) }

func wideOf(x float64) wide { return wide{blank().SetFloat64(x)} }

func (a wide) plus(b wide) wide  { return wide{blank().Add(a.f, b.f)} }
func (a wide) less(b wide) wide  { return wide{blank().Sub(a.f, b.f)} }
func (a wide) times(b wide) wide { return wide{blank().Mul(a.f, b.f)} }
func (a wide) over(b wide) wide  { return wide{blank().Quo(a.f, b.f)} }
func (a wide) opposite() wide    { return wide{blank().Neg(a.f)} }

func (a wide) below(x float64) bool { return a.f.Cmp(big.NewFloat(x)) < 0 }

func (a wide) root() wide {
	x, _ := a.f.Float64()
	return wideOf(math.Sqrt(x))
}

func (a wide) narrow() float32 {
	x, _ := a.f.Float32()
	return x
}

func partOracle(turns float64) wide {
	whole, _ := big.NewFloat(turns).Int(nil)
	f := wideOf(turns).less(wide{blank().SetInt(whole)})
	if f.below(0) {
		f = f.plus(wideOf(1))
	}
	return f
}

func sineOracle(turns float64) wide {
	f := partOracle(turns)
	turned := !f.below(0.5)
	if turned {
		f = f.less(wideOf(0.5))
	}
	if f.f.Cmp(big.NewFloat(0.25)) > 0 {
		f = wideOf(0.5).less(f)
	}
	z := f.times(wideOf(6.283185307179586))
	u := z.times(z)
	p := wideOf(1)
	for k := 8; k >= 1; k-- {
		p = wideOf(1).less(u.times(p).over(wideOf(float64(2 * k * (2*k + 1)))))
	}
	if turned {
		return z.times(p).opposite()
	}
	return z.times(p)
}

func phasorOracle(turns float64) complex64 {
	f := partOracle(turns)
	q := 0
	for !f.below(0.25) {
		f = f.less(wideOf(0.25))
		q++
	}
	part, _ := f.f.Float64()
	rest, _ := wideOf(0.25).less(f).f.Float64()
	c, s, zero := sineOracle(rest), sineOracle(part), wideOf(0)
	switch q {
	case 1:
		return complex(zero.less(s).narrow(), c.narrow())
	case 2:
		return complex(zero.less(c).narrow(), zero.less(s).narrow())
	case 3:
		return complex(s.narrow(), zero.less(c).narrow())
	}
	return complex(c.narrow(), s.narrow())
}

func angleOracle(y, x float32) float32 {
	a, b := wideOf(math.Abs(float64(y))), wideOf(math.Abs(float64(x)))
	steep := a.f.Cmp(b.f) > 0
	if steep {
		a, b = b, a
	}
	t := a.over(b)
	for range 3 {
		t = t.over(wideOf(1).plus(wideOf(1).plus(t.times(t)).root()))
	}
	u := t.times(t)
	p := wideOf(0)
	for k := 15; k > 0; k -= 2 {
		p = wideOf(1).over(wideOf(float64(k))).less(u.times(p))
	}
	angle := wideOf(8).times(t.times(p)).over(wideOf(6.283185307179586))
	if steep {
		angle = wideOf(0.25).less(angle)
	}
	if x < 0 {
		angle = wideOf(0.5).less(angle)
	}
	if y < 0 {
		angle = angle.opposite()
	}
	return angle.narrow()
}

func logOracle(power float32) wide {
	x := wideOf(float64(power))
	e := 0
	for ; !x.below(1.5); e++ {
		x = x.over(wideOf(2))
	}
	for ; x.below(0.75); e-- {
		x = x.times(wideOf(2))
	}
	s := x.less(wideOf(1)).over(x.plus(wideOf(1)))
	u := s.times(s)
	q := wideOf(0)
	for k := 25; k > 0; k -= 2 {
		q = wideOf(1).over(wideOf(float64(k))).plus(u.times(q))
	}
	return wideOf(2).times(s.times(q)).plus(wideOf(float64(e)).times(wideOf(0.6931471805599453)))
}

func tenthsOracle(power float32) int64 {
	x := logOracle(power).times(wideOf(43.42944819032518)).plus(wideOf(0.5))
	n, _ := x.f.Int64()
	if x.f.Sign() < 0 && !x.f.IsInt() {
		n--
	}
	return n
}

func expOracle(x float32) float32 {
	t := wideOf(float64(x)).over(wideOf(256))
	p := wideOf(1)
	for k := 12; k > 0; k-- {
		p = wideOf(1).plus(t.times(p).over(wideOf(float64(k))))
	}
	for range 8 {
		p = p.times(p)
	}
	return p.narrow()
}
