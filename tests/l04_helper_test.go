package tests

import (
	"testing"

	"loop.example/g01302/impl"
)

func section(wide, bank, slope, rough float32) impl.Section {
	return impl.Section{Wide: wide, Bank: bank, Slope: slope, Rough: rough}
}

// ditch is an ordinary channel without banks: it is mild for small flows.
func ditch() impl.Section { return section(2, 0, 0.0009765625, 0.03125) }

// wantTold compares the results of a function of one number with what the
// oracle tells: it fails where this is no number.
func wantTold(t *testing.T, got []any, want float32, what string, args ...any) {
	t.Helper()
	ok := want == want
	if !ok {
		want = 0
	}
	wantResults(t, got, all(want, ok), what, args...)
}

// above and under are the numbers next to one that is greater than 0.
func above(x float32) float32 { return number(bits(x) + 1) }
func under(x float32) float32 { return number(bits(x) - 1) }

// nonPositive are numbers that no depth, flow and length can be.
func nonPositive() []float32 { return append(invalidNumbers(), 0, minusZero) }

// notFinite are numbers that nothing can be.
func notFinite() []float32 {
	return floats(notANumber, number(0xffc00001), number(0x7f800001), infinity, minusInf)
}

// invalidSections have one number that is wrong, or neither a bottom nor banks.
func invalidSections() []impl.Section {
	list := []impl.Section{{}, section(0, 0, 1, 1), section(minusZero, 0, 1, 1), section(0, minusZero, 1, 1), section(minusZero, minusZero, 1, 1)}
	for _, x := range invalidNumbers() {
		list = append(list, section(x, 1, 1, 1), section(1, x, 1, 1), section(x, 0, 1, 1), section(0, x, 1, 1))
	}
	for _, x := range nonPositive() {
		list = append(list, section(1, 1, x, 1), section(1, 1, 1, x), section(2, 0, x, 0.5), section(0, 2, 0.5, x))
	}
	return list
}

// section draws a valid section. Some have no banks, and some no bottom.
func (d *drawer) section(kinds int) impl.Section {
	s := section(d.amount(kinds), d.amount(kinds), d.length(kinds), d.length(kinds))
	switch d.next() % 6 {
	case 0:
		s.Bank = floats(0, minusZero)[d.next()%2]
	case 1:
		s.Wide = floats(0, minusZero)[d.next()%2]
	}
	if s.Wide == 0 && s.Bank == 0 {
		s = section(2, s.Bank, s.Slope, s.Rough)
	}
	return s
}

// between draws a number from low to high.
func (d *drawer) between(low, high float64) float32 {
	return float32(low + (high-low)*float64(d.next()%1000001)/1000000)
}

// channel draws a section as there are on maps.
func (d *drawer) channel() impl.Section {
	s := section(d.between(1, 20), d.between(0, 3), d.between(0.0001, 0.02), d.between(0.01, 0.06))
	switch d.next() % 4 {
	case 0:
		s.Bank = 0
	case 1:
		s.Wide, s.Bank = 0, d.between(0.5, 3)
	}
	return s
}

// orOdd draws a number at a bound in place of one of a dozen.
func (d *drawer) orOdd(x float32) float32 {
	if d.next()%12 > 0 {
		return x
	}
	odd := edgeNumbers()
	return odd[d.next()%uint64(len(odd))]
}

// pick draws one of some integers.
func (d *drawer) pick(list []int64) int64 { return list[d.next()%uint64(len(list))] }

// isClose reports whether two numbers differ by a small part of them.
func isClose(a, b, part float32) bool {
	size := max(a, -a, b, -b)
	return a-b <= part*size && b-a <= part*size
}

// must returns the number of a call that succeeds, and no number otherwise.
func must(x float32, ok bool) float32 {
	if !ok {
		return notANumber
	}
	return x
}
