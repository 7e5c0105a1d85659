package tests

import (
	"fmt"
	"math"
	"strings"
	"testing"

	"loop.example/g01302/impl"
)

// The tests compare numbers by bits that they take themselves, so that a
// mistake in BitsOf or SameNumber cannot hide another one.

var (
	minusZero  = float32(math.Copysign(0, -1))
	infinity   = float32(math.Inf(1))
	minusInf   = float32(math.Inf(-1))
	notANumber = float32(math.NaN())
	greatest   = float32(math.MaxFloat32)
	tiniest    = float32(math.SmallestNonzeroFloat32)
)

func number(bits uint32) float32 { return math.Float32frombits(bits) }

func bits(x float32) uint32 {
	if x != x {
		return 0x7fc00000
	}
	return math.Float32bits(x)
}

func complexBits(x complex64) [2]uint32 { return [2]uint32{bits(real(x)), bits(imag(x))} }

func wantNumber(t *testing.T, got, want float32, what string, args ...any) {
	t.Helper()
	if bits(got) != bits(want) {
		t.Errorf("%s%v: got %08x (%v), want %08x (%v)", what, args, bits(got), got, bits(want), want)
	}
}

func wantComplex(t *testing.T, got, want complex64, what string, args ...any) {
	t.Helper()
	if complexBits(got) != complexBits(want) {
		t.Errorf("%s%v: got %08x (%v), want %08x (%v)", what, args, complexBits(got), got, complexBits(want), want)
	}
}

// told is a text of results that has numbers as bits.
func told(results ...any) string {
	var out strings.Builder
	for _, r := range results {
		switch v := r.(type) {
		case float32:
			r = bits(v)
		case complex64:
			r = complexBits(v)
		case []float32:
			r = bitsOfAll(v)
		case []complex64:
			r = bitsOfAllComplex(v)
		case impl.Hill:
			r = hillText(v)
		case []impl.Storm:
			r = stormsText(v)
		case impl.Soil:
			r = soilText(v)
		case impl.Snow:
			r = snowText(v)
		case [][]float32:
			r = rowsText(v)
		case impl.Canal:
			r = canalText(v)
		case impl.Record:
			r = recordsText(records(v))
		case []impl.Record:
			r = recordsText(v)
		case impl.Section:
			r = sectionBits(v)
		case impl.Desk:
			r = deskBits(v)
		case string:
			r = fmt.Sprintf("%q", v)
		case []string:
			r = fmt.Sprintf("%q", v)
		}
		fmt.Fprint(&out, r, "; ")
	}
	return out.String()
}

// wantThat is for results that are compared with ==.
func wantThat[T comparable](t *testing.T, got, want T, what string, args ...any) {
	t.Helper()
	if got != want {
		t.Errorf("%s%v: got %v, want %v", what, args, got, want)
	}
}

// edgeNumbers are zeros, subnormal numbers, infinities, not-a-numbers, and
// numbers at the bounds that the document names.
func edgeNumbers() []float32 {
	list := []float32{notANumber, number(0xffc00000), number(0x7f800001), number(0xffffffff)}
	for _, b := range []uint32{
		0, 1, 2, 0x00400000, 0x007fffff, 0x00800000, 0x00800001, // subnormal and near it
		0x7f7fffff, 0x7f800000, // great
		0x3f7fffff, 0x3f800000, 0x3f800001, 0x40000000, 0x40400000, // 1 and others
		0x3e7fffff, 0x3e800000, 0x3e800001, 0x3f000000, 0x3f400000, // quarters
		0x3f3fffff, 0x3fbfffff, 0x3fc00000, 0x3fc00001, // 0.75 and 1.5
		0x4347ffff, 0x43480000, 0x43480001, // 200
		0x42b17217, 0x42b17218, 0x42cff1b4, 0x42cff1b5, // where e to a power leaves the range
		0x4affffff, 0x4b000000, 0x597fffff, 0x59800000, 0x59800001, // 2 to the power of 52
	} {
		list = append(list, number(b), number(b|0x80000000))
	}
	return list
}

// drawer draws numbers from a seed.
type drawer uint64

func (d *drawer) next() uint64 {
	*d ^= *d << 13
	*d ^= *d >> 7
	*d ^= *d << 17
	return uint64(*d)
}

// bitwise draws any bits.
func (d *drawer) bitwise() float32 { return number(uint32(d.next() >> 16)) }

// moderate draws a number from -500 to 500.
func (d *drawer) moderate() float32 {
	return float32(float64(int64(d.next()%1000001)-500000) / 1000)
}

// sampleNumbers are the edge numbers, and drawn ones behind them.
func sampleNumbers(count int) []float32 {
	list := edgeNumbers()
	d := drawer(88172645463325252)
	for range count {
		list = append(list, d.bitwise(), d.moderate())
	}
	return list
}

// sampleComplex are complex numbers of all pairs of some edge numbers, and
// drawn ones behind them.
func sampleComplex(count int) []complex64 {
	var list []complex64
	parts := []float32{0, minusZero, 1, -1, 3, -0.1, tiniest, -greatest, infinity, minusInf, notANumber}
	for _, a := range parts {
		for _, b := range parts {
			list = append(list, complex(a, b))
		}
	}
	d := drawer(362436069)
	for range count {
		list = append(list, complex(d.bitwise(), d.bitwise()), complex(d.moderate(), d.moderate()))
	}
	return list
}

func bitsOfAll(list []float32) []uint32 {
	out := make([]uint32, len(list))
	for i, x := range list {
		out[i] = bits(x)
	}
	return out
}

func bitsOfAllComplex(list []complex64) [][2]uint32 {
	out := make([][2]uint32, len(list))
	for i, x := range list {
		out[i] = complexBits(x)
	}
	return out
}

// numbers is a list of MaxNumbers numbers and more.
func numbers(more int) []float32 {
	list := make([]float32, impl.MaxNumbers+more)
	for i := range list {
		list[i] = float32(i%7) - 2.5
	}
	return list
}

// complexes is a list of MaxNumbers complex numbers and more.
func complexes(more int) []complex64 {
	list := make([]complex64, impl.MaxNumbers+more)
	for i := range list {
		list[i] = complex(float32(i%5)-1.5, float32(i%3)+0.25)
	}
	return list
}
