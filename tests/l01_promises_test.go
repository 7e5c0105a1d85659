package tests

import (
	"fmt"
	"math"
	"slices"
	"strings"
	"testing"

	"loop.example/g01302/impl"
)

// callAll calls each function of chapter 1 with what it takes of the
// arguments, and returns the results as a text. Numbers are told by bits.
func callAll(x, y float32, wide float64, n int64, s string, reals, others []float32, list, more []complex64, whole []int64) string {
	var out strings.Builder
	tell := func(results ...any) { out.WriteString(told(results...)) }
	two := func(a any, ok bool) { tell(a, ok) }
	a, b := complex(x, y), complex(y, float32(wide))
	tell(impl.SameNumber(x, y), impl.IsFinite(x), impl.BitsOf(x), impl.NarrowNumber(wide), impl.IsSubnormal(x), impl.FlushNumber(x))
	tell(impl.SameComplex(a, b), impl.IsFiniteComplex(a), impl.NarrowComplex(complex(wide, float64(x))), impl.MulComplex(a, b), impl.ScaleComplex(a, y))
	tell(impl.ConjugateOf(a), impl.PowerOf(a), impl.LongOf(a), impl.QuotientOf(a, b), impl.PhasorOf(wide), impl.AngleOf(a), impl.SineTurns(x), impl.AngleTurns(y, x))
	tell(impl.RootNumber(x), impl.ExpNumber(x), impl.LogNumber(x), impl.IsName(s), impl.Decimal(n))
	v, ok := impl.FromBits(n)
	two(v, ok)
	tenths, ok := impl.TenthsOf(x)
	two(tenths, ok)
	v, ok = impl.SumNumbers(reals)
	two(v, ok)
	v, ok = impl.DotNumbers(reals, others)
	two(v, ok)
	c, ok := impl.SumComplex(list)
	two(c, ok)
	c, ok = impl.DotComplex(list, more)
	two(c, ok)
	c, ok = impl.DotConjugate(list, more)
	two(c, ok)
	v, ok = impl.PowersOf(list)
	two(v, ok)
	text, ok := impl.NumbersText(reals)
	two(text, ok)
	text, ok = impl.ComplexText(list)
	two(text, ok)
	text, ok = impl.ListText(whole)
	two(text, ok)
	read, ok := impl.ReadNumbers(s)
	two(read, ok)
	pairs, ok := impl.ReadComplex(s)
	two(pairs, ok)
	integers, ok := impl.ReadList(s)
	two(integers, ok)
	k, ok := impl.ReadDecimal(s)
	two(k, ok)
	k, ok = impl.CheckOf(n, s)
	two(k, ok)
	return out.String()
}

// roomy returns a copy of a list with unused capacity that is filled.
func roomy[T any](list []T, fill T) []T {
	all := append(slices.Clone(list), fill, fill, fill)
	return all[:len(list)]
}

func TestFunctionsReturnForAllArgumentsAndChangeNone(t *testing.T) {
	texts := []string{"", "none", "ring", "3f800000,c0000000", "3f80000000000000", "1,-2,3", "\xff\xfe", ",", "7fc00001", strings.Repeat("0", 9999), strings.Repeat("1,", 999)}
	wides := []float64{0, math.Copysign(0, -1), 0.3, -1e-40, 1e300, math.Inf(-1), math.NaN(), 0x1p52, math.SmallestNonzeroFloat64}
	integers := []int64{0, -1, 1, 65002, 65003, 4294967295, 4294967296, math.MinInt64, math.MaxInt64}
	reals := [][]float32{nil, {}, {1}, {1, notANumber, minusZero}, numbers(0), numbers(1), numbers(900)}
	pairs := [][]complex64{nil, {}, {complex(1, -2)}, {complex(notANumber, infinity), 0, 1}, complexes(0), complexes(1), complexes(900)}
	wholes := [][]int64{nil, {}, {5}, {math.MinInt64, math.MaxInt64}, make([]int64, 64), make([]int64, 65), make([]int64, 900)}
	edges := edgeNumbers()
	d := drawer(41)
	pick := func(n int) int { return int(d.next() % uint64(n)) }
	for range 400 {
		x, y := edges[pick(len(edges))], edges[pick(len(edges))]
		wide, n, s := wides[pick(len(wides))], integers[pick(len(integers))], texts[pick(len(texts))]
		one, other := roomy(reals[pick(len(reals))], -7), roomy(reals[pick(len(reals))], 7)
		list, more := roomy(pairs[pick(len(pairs))], -7), roomy(pairs[pick(len(pairs))], 7)
		whole := roomy(wholes[pick(len(wholes))], 7)
		before := fmt.Sprint(bitsOfAll(one[:cap(one)]), bitsOfAll(other[:cap(other)]), bitsOfAllComplex(list[:cap(list)]), bitsOfAllComplex(more[:cap(more)]), whole[:cap(whole)])
		first := callAll(x, y, wide, n, s, one, other, list, more, whole)
		callAll(y, x, -wide, -n, s+",", other, one, more, list, whole)
		second := callAll(x, y, wide, n, s, one, other, list, more, whole)
		after := fmt.Sprint(bitsOfAll(one[:cap(one)]), bitsOfAll(other[:cap(other)]), bitsOfAllComplex(list[:cap(list)]), bitsOfAllComplex(more[:cap(more)]), whole[:cap(whole)])
		if first != second {
			t.Fatalf("the same arguments had other results: %s and %s", first, second)
		}
		if before != after {
			t.Fatalf("an argument was changed: %s to %s", before, after)
		}
	}
}

func TestReadListsAreNewEachTime(t *testing.T) {
	a, _ := impl.ReadNumbers("3f800000,c0000000")
	b, _ := impl.ReadComplex("3f80000000000000")
	c, _ := impl.ReadList("1,2")
	a[0], b[0], c[0] = 9, 9, 9
	a, _ = impl.ReadNumbers("3f800000,c0000000")
	b, _ = impl.ReadComplex("3f80000000000000")
	c, _ = impl.ReadList("1,2")
	wantThat(t, a[0] == 1 && b[0] == 1 && c[0] == 1, true, "lists that are read again")
}

func TestAllNotANumbersAreOneValue(t *testing.T) {
	other := []float32{number(0xffc00000), number(0x7f800001), number(0xff800001), number(0x7fffffff), number(0xffffffff)}
	list := []complex64{complex(1, 2), complex(notANumber, 1)}
	want := callAll(notANumber, 1, 2, 3, "a", []float32{notANumber, 1}, []float32{1, notANumber}, list, list, nil)
	for _, x := range other {
		list = []complex64{complex(1, 2), complex(x, 1)}
		got := callAll(x, 1, 2, 3, "a", []float32{x, 1}, []float32{1, x}, list, list, nil)
		wantThat(t, got, want, "all functions with the bits", math.Float32bits(x))
	}
}

func TestExamplesOfChapter1(t *testing.T) {
	wantComplex(t, impl.MulComplex(complex(1, 2), complex(3, -1)), complex(5, 5), "the product of 1 + 2 i and 3 - i")
	wantComplex(t, impl.QuotientOf(complex(0, 4), 2), complex(0, 2), "the quotient of 4 i and 2")
	wantComplex(t, impl.PhasorOf(0.25), complex(0, 1), "the phasor of 0.25 turns")
	wantNumber(t, impl.AngleOf(impl.PhasorOf(0.25)), 0.25, "the angle of this phasor")
	text, ok := impl.ComplexText([]complex64{1})
	wantThat(t, text == "3f80000000000000" && ok, true, "the text of 1")
	tenths, ok := impl.TenthsOf(1)
	wantThat(t, tenths == 0 && ok, true, "the tenths of decibels of 1")
}

func TestLimitsOfChapter1(t *testing.T) {
	got := [4]int64{impl.MaxNumbers, impl.MaxValue, impl.MaxItems, impl.CheckSize}
	wantThat(t, got, [4]int64{256, 1000000000000000, 64, 65003}, "limits")
}
