package tests

import (
	"fmt"
	"math"
	"slices"

	"loop.example/g01302/impl"
)

func record(name string, start, step int64, values ...float32) impl.Record {
	return impl.Record{Name: name, Start: start, Step: step, Values: values}
}

// withValues is a record with other values.
func withValues(r impl.Record, values []float32) impl.Record {
	return record(r.Name, r.Start, r.Step, values...)
}

// records collects records.
func records(list ...impl.Record) []impl.Record { return list }

func recordsText(list []impl.Record) string {
	text := ""
	for _, r := range list {
		text += fmt.Sprintf("%q %d %d %08x, ", r.Name, r.Start, r.Step, bitsOfAll(r.Values))
	}
	return text
}

var (
	noRecord  impl.Record
	noRecords []impl.Record
)

const (
	lastStart = 4294967295
	lastStep  = 65535
)

// unequalPairs are pairs of lists of unequal lengths, or of none, or of too many
// numbers.
func unequalPairs() [][2][]float32 {
	all := evenList(impl.MaxGauge+1, 3)
	var pairs [][2][]float32
	for _, counts := range [][2]int{{0, 0}, {0, 1}, {1, 0}, {1, 2}, {2, 1}, {2, 3}, {3, 2}, {impl.MaxGauge - 1, impl.MaxGauge}, {impl.MaxGauge, impl.MaxGauge - 1}, {impl.MaxGauge, impl.MaxGauge + 1}, {impl.MaxGauge + 1, impl.MaxGauge}, {impl.MaxGauge + 1, impl.MaxGauge + 1}} {
		pairs = append(pairs, [2][]float32{all[:counts[0]], all[:counts[1]]})
	}
	return append(pairs, [2][]float32{rising(2 * impl.MaxGauge), rising(2 * impl.MaxGauge)})
}

// wrongGauges are no gauges.
func wrongGauges() [][]float32 {
	list := rows(nil, floats(), evenList(impl.MaxGauge+1, 1), evenList(2*impl.MaxGauge, 0), evenList(300, 2))
	for _, x := range invalidNumbers() {
		list = append(list, floats(x), floats(x, 1), floats(1, x), floats(2, x, 1), with(evenList(impl.MaxGauge, 1), 0, x), with(evenList(impl.MaxGauge, 1), impl.MaxGauge-1, x))
	}
	return list
}

// sampleGauges are drawn gauges of all kinds, and some by hand: of one number,
// of two, of equal ones, of zeros of both signs, and of the greatest ones.
func sampleGauges(seed uint64, count int) [][]float32 {
	list := rows(floats(0), floats(minusZero), floats(5), floats(greatest), floats(tiniest), floats(1, 2), floats(2, 1), floats(2, 2), floats(0, minusZero), floats(minusZero, 0), floats(minusZero, minusZero), floats(greatest, 0, greatest), floats(tiniest, 0, tiniest, minusZero), floats(0, minusZero, 0, minusZero, 1, minusZero, 0), evenList(impl.MaxGauge, 7), evenList(impl.MaxGauge, greatest), rising(impl.MaxGauge), evenList(impl.MaxGauge, minusZero))
	d := drawer(seed)
	for n := range count {
		list = append(list, d.gauge(1+n%amountKinds))
	}
	return list
}

// gauge draws a gauge.
func (d *drawer) gauge(kinds int) []float32 { return d.rain(d.gaugeCount(), kinds) }

// gaugeCount draws how many numbers a gauge has, mostly few ones.
func (d *drawer) gaugeCount() int {
	switch d.next() % 12 {
	case 0:
		return impl.MaxGauge
	case 1:
		return impl.MaxGauge - 1
	case 2, 3:
		return 1 + int(d.next()%impl.MaxGauge)
	}
	return 1 + int(d.next()%9)
}

// name draws a name.
func (d *drawer) name() string {
	name := make([]byte, 1+d.next()%8)
	for i := range name {
		name[i] = byte('a' + d.next()%26)
	}
	return string(name)
}

// values draws so many values of records: any ones, ones that change little,
// and ones at bounds.
func (d *drawer) values(count int) []float32 {
	list := make([]float32, count)
	last := uint32(d.next())
	odd := edgeNumbers()
	for i := range list {
		switch d.next() % 5 {
		case 0:
			last = uint32(d.next() >> 9)
		case 1:
			last += uint32(d.next() % 300)
		case 2:
			last -= uint32(d.next() % 40000)
		case 3:
			last = bits(odd[d.next()%uint64(len(odd))])
		}
		list[i] = number(last)
	}
	return list
}

// record draws a valid record.
func (d *drawer) record() impl.Record {
	start := d.pick(ints(0, lastStart, int64(d.next()%(lastStart+1)), int64(d.next()%1000)))
	return record(d.name(), start, d.pick(ints(1, lastStep, 1+int64(d.next()%lastStep))), d.values(d.gaugeCount())...)
}

// wrongRecords have one thing that is wrong.
func wrongRecords() []impl.Record {
	list := records(noRecord)
	for _, name := range wrongNames() {
		list = append(list, record(name, 5, 2, 1, 2))
	}
	for _, start := range ints(-1, lastStart+1, math.MinInt64, math.MaxInt64, 1<<33, -lastStart) {
		list = append(list, record("a", start, 2, 1, 2))
	}
	for _, step := range ints(0, -1, lastStep+1, math.MinInt64, math.MaxInt64, 1<<32+1) {
		list = append(list, record("a", 5, step, 1, 2))
	}
	return append(list, record("a", 5, 2), record("a", 5, 2, make([]float32, impl.MaxGauge+1)...), record("a", 5, 2, make([]float32, 1000)...))
}

// wrongNames are none, too long, or have other letters, also such ones as have
// the lowest byte of a right one.
func wrongNames() []string {
	list := []string{"", "abcdefghi", "abcdefghijklmnop", "`", "{", "a`", "{a", "A", "Z", "0", "9", " ", "a b", "a\x00", "\x00", "\xe1", "é", "š", "a-z", "abcdefg{", "`bcdefgh", "ab\xff", "\u0161\u0162"}
	for i := range 8 {
		name := []byte("ringbell")
		name[i] -= 'a' - 'A'
		list = append(list, string(name))
	}
	return list
}

// ownRecord is a copy of a record.
func ownRecord(r impl.Record) impl.Record { return withValues(r, slices.Clone(r.Values)) }

// roomyRecord is a copy of a record with unused capacity that is filled.
func roomyRecord(r impl.Record) impl.Record { return withValues(r, roomy(r.Values, -7)) }
