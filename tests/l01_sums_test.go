package tests

import (
	"testing"

	"loop.example/g01302/impl"
)

func TestSumNumbersGoesFromLeftToRight(t *testing.T) {
	for _, c := range []struct {
		list []float32
		want float32
	}{
		{nil, 0}, {[]float32{}, 0}, {[]float32{1, 2, 3.5}, 6.5},
		{[]float32{minusZero}, 0}, {[]float32{minusZero, minusZero}, 0}, {[]float32{1, -1, minusZero}, 0}, // +0 comes first
		{[]float32{1e8, 1, -1e8}, 0}, {[]float32{1e8, -1e8, 1}, 1}, {[]float32{16777216, 1, 1}, 16777216}, {[]float32{1, 1, 16777216}, 16777218},
		{[]float32{greatest, greatest, -greatest}, infinity}, {[]float32{greatest, -greatest, greatest}, greatest},
		{[]float32{tiniest, tiniest}, number(2)}, {[]float32{infinity, 1, minusInf}, notANumber}, {[]float32{notANumber, 1}, notANumber}, {[]float32{minusInf, 1}, minusInf},
	} {
		sum, ok := impl.SumNumbers(c.list)
		wantNumber(t, sum, c.want, "SumNumbers", c.list)
		wantThat(t, ok, true, "SumNumbers", c.list)
	}
	d := drawer(3)
	for length := range 60 {
		list := make([]float32, length)
		var want float32
		for i := range list {
			list[i] = d.moderate()
			want = float32(float64(want) + float64(list[i]))
		}
		sum, ok := impl.SumNumbers(list)
		wantNumber(t, sum, want, "SumNumbers of drawn numbers", length)
		wantThat(t, ok, true, "SumNumbers of drawn numbers", length)
	}
}

func TestDotNumbersRoundsEachProduct(t *testing.T) {
	a := number(0x3f800800) // 1 + 2 to the power of -12: its square needs more than 24 digits
	for _, c := range []struct {
		a, b []float32
		want float32
	}{
		{nil, nil, 0}, {nil, []float32{}, 0}, {[]float32{1, 2}, []float32{3, 4}, 11},
		{[]float32{-1, a}, []float32{number(0x3f801000), a}, 0}, {[]float32{a, -1}, []float32{a, number(0x3f801000)}, 0},
		{[]float32{0}, []float32{-1}, 0}, {[]float32{1e30, 1}, []float32{1e30, -1}, infinity}, {[]float32{1e30, 1e30}, []float32{1e30, -1e30}, notANumber},
		{[]float32{tiniest}, []float32{0.5}, 0}, {[]float32{tiniest, tiniest}, []float32{0.75, 0.75}, number(2)}, {[]float32{0}, []float32{infinity}, notANumber},
		{[]float32{1e8, 1, -1e8}, []float32{1, 1, 1}, 0},
	} {
		dot, ok := impl.DotNumbers(c.a, c.b)
		wantNumber(t, dot, c.want, "DotNumbers", c.a, c.b)
		wantThat(t, ok, true, "DotNumbers", c.a, c.b)
	}
	d := drawer(4)
	for length := range 60 {
		a, b := make([]float32, length), make([]float32, length)
		var want float32
		for i := range a {
			a[i], b[i] = d.moderate(), d.moderate()
			product := float32(float64(a[i]) * float64(b[i]))
			want = float32(float64(want) + float64(product))
		}
		dot, ok := impl.DotNumbers(a, b)
		wantNumber(t, dot, want, "DotNumbers of drawn numbers", length)
		wantThat(t, ok, true, "DotNumbers of drawn numbers", length)
	}
}

func TestSumComplexGoesFromLeftToRight(t *testing.T) {
	negative := complex(minusZero, minusZero)
	for _, c := range []struct {
		list []complex64
		want complex64
	}{
		{nil, 0}, {[]complex64{1, complex(2, 3)}, complex(3, 3)}, {[]complex64{negative}, 0}, {[]complex64{negative, complex(1, minusZero)}, 1},
		{[]complex64{complex(1e8, 1), complex(1, 1e8), complex(-1e8, -1e8)}, 0}, {[]complex64{complex(infinity, 1), complex(minusInf, 2)}, complex(notANumber, 3)},
		{[]complex64{complex(greatest, tiniest), complex(greatest, tiniest)}, complex(infinity, number(2))},
	} {
		sum, ok := impl.SumComplex(c.list)
		wantComplex(t, sum, c.want, "SumComplex", c.list)
		wantThat(t, ok, true, "SumComplex", c.list)
	}
}

func TestDotComplexAddsNarrowedProducts(t *testing.T) {
	for _, c := range []struct{ a, b, dot, conjugate complex64 }{
		{complex(0, 1), complex(0, 1), -1, 1}, {complex(1, 2), complex(3, -1), complex(5, 5), complex(1, -7)},
		{complex(4097, 4096), complex(4097, 4098), complex(1, 33570816), complex(33570816, 8194)},
		{complex(1e30, 0), complex(1e30, 0), complex(infinity, 0), complex(infinity, 0)}, {complex(infinity, 0), complex(0, 1), complex(notANumber, infinity), complex(notANumber, infinity)},
		{complex(minusZero, 0), 1, 0, 0}, {complex(1, notANumber), 0, complex(notANumber, notANumber), complex(notANumber, notANumber)},
	} {
		dot, ok := impl.DotComplex([]complex64{c.a}, []complex64{c.b})
		wantComplex(t, dot, c.dot, "DotComplex", c.a, c.b)
		wantThat(t, ok, true, "DotComplex", c.a, c.b)
		dot, ok = impl.DotConjugate([]complex64{c.a}, []complex64{c.b})
		wantComplex(t, dot, c.conjugate, "DotConjugate", c.a, c.b)
		wantThat(t, ok, true, "DotConjugate", c.a, c.b)
	}
	d := drawer(6)
	for length := range 60 {
		a, b := make([]complex64, length), make([]complex64, length)
		var sum, other, plain complex64
		for i := range a {
			a[i], b[i] = complex(d.moderate(), d.moderate()), complex(d.moderate(), d.moderate())
			re, im := productOracle(a[i], b[i])
			sum += complex(float32(re), float32(im))
			re, im = productOracle(complex(real(a[i]), -imag(a[i])), b[i])
			other += complex(float32(re), float32(im))
			plain += a[i]
		}
		dot, one := impl.DotComplex(a, b)
		wantComplex(t, dot, sum, "DotComplex of drawn numbers", length)
		dot, two := impl.DotConjugate(a, b)
		wantComplex(t, dot, other, "DotConjugate of drawn numbers", length)
		dot, three := impl.SumComplex(a)
		wantComplex(t, dot, plain, "SumComplex of drawn numbers", length)
		wantThat(t, one && two && three, true, "sums of drawn numbers", length)
	}
}

func TestPowersOfNarrowsInTheEnd(t *testing.T) {
	for _, c := range []struct {
		list []complex64
		want float32
	}{
		{nil, 0}, {[]complex64{complex(3, 4), 1}, 26}, {[]complex64{complex(minusZero, minusZero)}, 0}, {[]complex64{complex(4097, 0), complex(0, 1)}, 16785410},
		{[]complex64{4096, 1, 1}, 16777218}, {[]complex64{complex(greatest, 0)}, infinity}, {[]complex64{complex(1e-30, 1e-30)}, 0},
		{[]complex64{complex(minusInf, 1)}, infinity}, {[]complex64{1, complex(infinity, notANumber)}, notANumber},
	} {
		sum, ok := impl.PowersOf(c.list)
		wantNumber(t, sum, c.want, "PowersOf", c.list)
		wantThat(t, ok, true, "PowersOf", c.list)
	}
	d := drawer(8)
	for length := range 60 {
		list := make([]complex64, length)
		want := 0.0
		for i := range list {
			list[i] = complex(d.moderate(), d.moderate())
			want += powerOracle(list[i])
		}
		sum, ok := impl.PowersOf(list)
		wantNumber(t, sum, float32(want), "PowersOf drawn numbers", length)
		wantThat(t, ok, true, "PowersOf drawn numbers", length)
	}
}

func TestSumsTakeMaxNumbers(t *testing.T) {
	a, b := numbers(0), complexes(0)
	_, one := impl.SumNumbers(a)
	_, two := impl.DotNumbers(a, a)
	_, three := impl.SumComplex(b)
	_, four := impl.DotComplex(b, b)
	_, five := impl.DotConjugate(b, b)
	_, six := impl.PowersOf(b)
	wantThat(t, [6]bool{one, two, three, four, five, six}, [6]bool{true, true, true, true, true, true}, "sums of MaxNumbers")
}

// failed checks that a sum failed, with a zero value.
func failed(t *testing.T, what string, sum complex64, ok bool) {
	t.Helper()
	wantComplex(t, sum, 0, what)
	wantThat(t, ok, false, what)
}

func TestSumsOfWrongListsFail(t *testing.T) {
	a, b := numbers(1), complexes(1)
	x, ok := impl.SumNumbers(a)
	failed(t, "SumNumbers of too many", complex(x, 0), ok)
	x, ok = impl.DotNumbers(a, a)
	failed(t, "DotNumbers of too many", complex(x, 0), ok)
	x, ok = impl.PowersOf(b)
	failed(t, "PowersOf too many", complex(x, 0), ok)
	y, ok := impl.SumComplex(b)
	failed(t, "SumComplex of too many", y, ok)
	y, ok = impl.DotComplex(b, b)
	failed(t, "DotComplex of too many", y, ok)
	y, ok = impl.DotConjugate(b, b)
	failed(t, "DotConjugate of too many", y, ok)
	for _, c := range [][2]int{{1, 0}, {0, 1}, {3, 2}, {2, 3}, {impl.MaxNumbers, impl.MaxNumbers + 1}, {impl.MaxNumbers + 1, impl.MaxNumbers}} {
		x, ok = impl.DotNumbers(a[:c[0]], a[:c[1]])
		failed(t, "DotNumbers of lists of other lengths", complex(x, 0), ok)
		y, ok = impl.DotComplex(b[:c[0]], b[:c[1]])
		failed(t, "DotComplex of lists of other lengths", y, ok)
		y, ok = impl.DotConjugate(b[:c[0]], b[:c[1]])
		failed(t, "DotConjugate of lists of other lengths", y, ok)
	}
}
