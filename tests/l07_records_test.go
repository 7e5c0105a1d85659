package tests

import (
	"math"
	"slices"
	"testing"

	"loop.example/g01302/impl"
)

func TestValidRecords(t *testing.T) {
	for _, r := range records(
		record("a", 0, 1, 0), record("z", lastStart, lastStep, notANumber), record("abcdefgh", 5, 2, infinity, minusInf, minusZero), record("stuvwxyz", 1, 1, make([]float32, impl.MaxGauge)...), record("mm", lastStart-1, lastStep-1, number(0xff800001), tiniest),
	) {
		wantThat(t, impl.ValidRecord(r), true, "ValidRecord", r)
		wantThat(t, validRecordOracle(r), true, "the oracle", r)
	}
	for _, r := range wrongRecords() {
		wantThat(t, impl.ValidRecord(r), false, "ValidRecord", r)
		wantThat(t, validRecordOracle(r), false, "the oracle", r)
	}
	for b := range 256 {
		for _, name := range []string{string([]byte{byte(b)}), string([]byte{'a', byte(b)}), string([]byte{byte(b), 'z'}), "abcdefg" + string([]byte{byte(b)})} {
			wantThat(t, impl.ValidRecord(record(name, 5, 2, 1)), b >= 'a' && b <= 'z', "ValidRecord", name)
		}
	}
	for count := range impl.MaxGauge + 3 {
		name := letters[:count%20]
		r := record(name, 5, 2, make([]float32, count)...)
		wantThat(t, impl.ValidRecord(r), len(name) >= 1 && len(name) <= 8 && count >= 1 && count <= impl.MaxGauge, "ValidRecord", name, count)
	}
	d := drawer(730)
	for range 2000 {
		wantThat(t, impl.ValidRecord(d.record()), true, "ValidRecord")
	}
}

func TestSameRecordsByHand(t *testing.T) {
	a := records(record("ring", 5, 2, 1, notANumber, minusZero), record("b", 7, 3, 0), record("ring", 5, 2, 4))
	same := records(record("ring", 5, 2, 1, number(0xff800001), minusZero), record("b", 7, 3, 0), record("ring", 5, 2, 4))
	wantThat(t, impl.SameRecords(a, same) && impl.SameRecords(same, a) && impl.SameRecords(a, a), true, "SameRecords with other not-a-numbers")
	others := [][]impl.Record{nil, a[:1], a[:2], a[1:], append(same[:3:3], noRecord), append(same[:3:3], a[0]), records(a[1], a[0], a[2]), records(a[0], a[2], a[1]), records(a[2], a[1], a[0]), records(a[0], a[0], a[1]), records(a[0], a[1], a[1]), records(a[0], a[1], a[0]), records(noRecord, noRecord, noRecord)}
	for i, r := range a {
		for _, other := range records(
			record("rinh", r.Start, r.Step, r.Values...), record(r.Name+"a", r.Start, r.Step, r.Values...), record("", r.Start, r.Step, r.Values...), record("B", r.Start, r.Step, r.Values...), record(r.Name, r.Start+1, r.Step, r.Values...), record(r.Name, -1, r.Step, r.Values...), record(r.Name, r.Start, r.Step+1, r.Values...), record(r.Name, r.Start, 0, r.Values...), record(r.Name, r.Step, r.Start, r.Values...), record(r.Name, r.Start+1<<32, r.Step, r.Values...),
			record(r.Name, r.Start, r.Step), record(r.Name, r.Start, r.Step, append(r.Values[:len(r.Values):len(r.Values)], 0)...), record(r.Name, r.Start, r.Step, append(r.Values[:len(r.Values):len(r.Values)], notANumber)...), withValues(r, with(r.Values, 0, 9)), withValues(r, with(r.Values, 0, -r.Values[0])), withValues(r, with(r.Values, len(r.Values)-1, -r.Values[len(r.Values)-1])), withValues(r, r.Values[1:]), withValues(r, r.Values[:len(r.Values)-1]),
		) {
			others = append(others, with(a, i, other))
		}
	}
	for _, other := range others {
		wantThat(t, impl.SameRecords(a, other) || impl.SameRecords(other, a) || impl.SameRecords(same, other), false, "SameRecords", a, other)
		wantThat(t, impl.SameRecords(other, slices.Clone(other)), true, "SameRecords of itself", other)
	}
	wantThat(t, impl.SameRecords(nil, noRecords) && impl.SameRecords(nil, records()) && impl.SameRecords(records(), nil), true, "SameRecords of no records")
	wantThat(t, impl.SameRecords(records(noRecord), records(record("", 0, 0))), true, "SameRecords of records of nothing")
	wantThat(t, impl.SameRecords(nil, records(noRecord)) || impl.SameRecords(records(noRecord), nil), false, "SameRecords of no record and one of nothing")
	zeros := floats(0, minusZero)
	wantThat(t, impl.SameRecords(records(record("a", 1, 1, zeros...)), records(record("a", 1, 1, 0, 0))), false, "SameRecords of +0 and -0")
}

// Records that are not valid are compared, too.
func TestSameRecordsOfWrongOnes(t *testing.T) {
	wrong := wrongRecords()
	for i, r := range wrong {
		for k, other := range wrong {
			wantThat(t, impl.SameRecords(records(r), records(ownRecord(other))), recordsText(records(r)) == recordsText(records(other)), "SameRecords", i, k)
		}
	}
	many, others := make([]impl.Record, 3000), make([]impl.Record, 3000)
	wantThat(t, impl.SameRecords(many, others), true, "SameRecords of many of nothing")
	others[2999].Values = floats(minusZero)
	many[2999].Values = floats(0)
	wantThat(t, impl.SameRecords(many, others), false, "SameRecords of many, of which the last one differs")
	d := drawer(731)
	for range 3000 {
		var a, b []impl.Record
		for range d.next() % 5 {
			a = append(a, record([]string{"a", "b", "", "ab"}[d.next()%4], int64(d.next()%2), 0, evenList(int(d.next()%2), 0)...))
		}
		for _, r := range a {
			if d.next()%12 == 0 {
				r.Name = "a"
			}
			if d.next()%12 == 0 {
				r.Start = 1
			}
			b = append(b, r)
		}
		if len(b) > 1 && d.next()%4 == 0 {
			b[0], b[len(b)-1] = b[len(b)-1], b[0]
		}
		if len(b) > 0 && d.next()%9 == 0 {
			b = b[1:]
		}
		want := recordsText(a) == recordsText(b)
		wantThat(t, impl.SameRecords(a, b), want, "SameRecords", a, b)
		wantThat(t, impl.SameRecords(b, a), want, "SameRecords", b, a)
	}
}

func TestJoinRecordsByHand(t *testing.T) {
	most := make([]float32, impl.MaxGauge)
	last := record("a", lastStart, 1, 4)
	for _, c := range []struct{ a, b, want impl.Record }{
		{record("a", 8, 2, 0), record("a", 10, 2, 0), record("a", 8, 2, 0, 0)}, {record("ringbell", 0, 65535, 1, 2, 3), record("ringbell", 196605, 65535, notANumber, minusZero), record("ringbell", 0, 65535, 1, 2, 3, notANumber, minusZero)}, {record("a", lastStart-1, 1, infinity), last, record("a", lastStart-1, 1, infinity, 4)}, {record("a", lastStart-3, 3, 1), record("a", lastStart, 3, 2, 3), record("a", lastStart-3, 3, 1, 2, 3)},
		{record("a", 0, 1, most[1:]...), record("a", impl.MaxGauge-1, 1, 5), record("a", 0, 1, append(most[1:impl.MaxGauge:impl.MaxGauge], 5)...)}, {record("a", 0, 1, 5), record("a", 1, 1, most[1:]...), record("a", 0, 1, append(floats(5), most[1:]...)...)}, {record("a", 7, 2, most[:64]...), record("a", 135, 2, most[:64]...), record("a", 7, 2, most...)},
	} {
		wantResults(t, all(impl.JoinRecords(c.a, c.b)), all(c.want, true), "JoinRecords", c.a, c.b)
		wantResults(t, all(joinedOracle(c.a, c.b)), all(c.want, true), "the oracle", c.a, c.b)
	}
	failed := all(noRecord, false)
	for _, c := range [][2]impl.Record{
		{record("a", 8, 2, 0), record("a", 9, 2, 0)}, {record("a", 8, 2, 0), record("a", 11, 2, 0)}, {record("a", 8, 2, 0), record("a", 8, 2, 0)}, {record("a", 8, 2, 0), record("a", 12, 2, 0)}, {record("a", 8, 2, 0, 1), record("a", 10, 2, 0)}, {record("a", 10, 2, 0), record("a", 8, 2, 0)}, {record("a", 8, 2, 0), record("a", 6, 2, 0)}, {record("a", 8, 2, 0, 0), record("a", 4, 2, 0, 0)},
		{record("a", 8, 2, 0), record("b", 10, 2, 0)}, {record("a", 8, 2, 0), record("aa", 10, 2, 0)}, {record("ab", 8, 2, 0), record("a", 10, 2, 0)}, {record("ab", 8, 2, 0), record("ba", 10, 2, 0)}, {record("a", 8, 2, 0), record("a", 10, 1, 0)}, {record("a", 8, 2, 0), record("a", 10, 3, 0)}, {record("a", 8, 1, 0), record("a", 9, 2, 0)},
		// together too many
		{record("a", 0, 1, most...), record("a", impl.MaxGauge, 1, 5)}, {record("a", 0, 1, 5), record("a", 1, 1, most...)}, {record("a", 0, 1, most...), record("a", impl.MaxGauge, 1, most...)}, {record("a", 7, 2, most[:64]...), record("a", 135, 2, most[:65]...)}, {record("a", 7, 2, most[:65]...), record("a", 137, 2, most[:64]...)},
		// a ends where nothing can start
		{record("a", lastStart, 1, 4), record("a", 0, 1, 4)}, {record("a", lastStart, 1, 4), record("a", lastStart+1, 1, 4)}, {record("a", lastStart, 1, 4), record("a", lastStart, 1, 4)},
	} {
		wantResults(t, all(impl.JoinRecords(c[0], c[1])), failed, "JoinRecords", c)
		wantResults(t, all(joinedOracle(c[0], c[1])), failed, "the oracle", c)
	}
	good := record("a", 5, 2, 1, 2)
	for _, r := range wrongRecords() {
		next := record(r.Name, r.Start+r.Step*int64(len(r.Values)), r.Step, 1)
		for _, pair := range [][2]impl.Record{{r, good}, {good, r}, {r, r}, {r, next}, {r, record("a", 9, 2, 1)}, {record(r.Name, 3, 2, 1), record(r.Name, 5, 2, r.Values...)}, {record("a", r.Start-2, 2, 1), record("a", r.Start, 2, 1)}, {record("a", 5-r.Step, r.Step, 1), r}} {
			if !validRecordOracle(pair[0]) || !validRecordOracle(pair[1]) {
				wantResults(t, all(impl.JoinRecords(pair[0], pair[1])), failed, "JoinRecords", pair)
			}
		}
	}
}

func TestCutRecordByHand(t *testing.T) {
	r := record("gauge", 100, 30, 1, notANumber, minusZero, infinity, 5)
	for _, c := range []struct {
		from, to int64
		want     impl.Record
	}{
		{0, 5, r}, {0, 1, record("gauge", 100, 30, 1)}, {1, 2, record("gauge", 130, 30, notANumber)}, {4, 5, record("gauge", 220, 30, 5)}, {1, 4, record("gauge", 130, 30, notANumber, minusZero, infinity)}, {0, 4, record("gauge", 100, 30, 1, notANumber, minusZero, infinity)}, {3, 5, record("gauge", 190, 30, infinity, 5)},
	} {
		wantResults(t, all(impl.CutRecord(r, c.from, c.to)), all(c.want, true), "CutRecord", c.from, c.to)
		wantResults(t, all(cutRecordOracle(r, c.from, c.to)), all(c.want, true), "the oracle", c.from, c.to)
	}
	failed := all(noRecord, false)
	odd := ints(-1, 0, 1, 2, 4, 5, 6, impl.MaxGauge, math.MinInt64, math.MaxInt64, 1<<32, -1<<32)
	for _, from := range odd {
		for _, to := range odd {
			if from < 0 || to > 5 || from >= to {
				wantResults(t, all(impl.CutRecord(r, from, to)), failed, "CutRecord", from, to)
			}
		}
	}
	for _, wrong := range wrongRecords() {
		for _, to := range ints(0, 1, 2) {
			wantResults(t, all(impl.CutRecord(wrong, 0, to)), failed, "CutRecord", wrong, to)
		}
	}
	for count := int64(1); count <= impl.MaxGauge; count++ {
		long := record("a", 1, 2, rising(int(count))...)
		wantResults(t, all(impl.CutRecord(long, 0, count)), all(long, true), "CutRecord of all", count)
		wantResults(t, all(impl.CutRecord(long, count-1, count)), all(record("a", 2*count-1, 2, float32(count-1)), true), "CutRecord of the last one", count)
		wantResults(t, all(impl.CutRecord(long, 0, count+1)), failed, "CutRecord of one more", count)
		wantResults(t, all(impl.CutRecord(long, count, count)), failed, "CutRecord of none", count)
	}
}

// A record can go on behind the last time at which one can start.
func TestCutRecordsThatStartTooLate(t *testing.T) {
	for _, c := range []struct{ start, step, last int64 }{{lastStart, 1, 0}, {lastStart - 1, 1, 1}, {lastStart - 2, 2, 1}, {lastStart - 3, 2, 1}, {lastStart - 4, 2, 2}, {lastStart, lastStep, 0}, {lastStart - lastStep, lastStep, 1}, {lastStart - lastStep + 1, lastStep, 0}, {lastStart - 9*lastStep, lastStep, 9}, {0, lastStep, impl.MaxGauge - 1}} {
		r := record("late", c.start, c.step, rising(impl.MaxGauge)...)
		for from := range int64(impl.MaxGauge) {
			_, ok := impl.CutRecord(r, from, impl.MaxGauge)
			wantThat(t, ok, from <= c.last, "CutRecord", c, from)
			want, fine := cutRecordOracle(r, from, from+1)
			wantResults(t, all(impl.CutRecord(r, from, from+1)), all(want, fine), "CutRecord", c, from)
		}
	}
}

// Records that are cut are joined again.
func TestRecordsAreJoinedAgain(t *testing.T) {
	d := drawer(732)
	joined := 0
	for range 1500 {
		r := d.record()
		count := int64(len(r.Values))
		at := int64(d.next() % uint64(count+1))
		first, one := impl.CutRecord(r, 0, at)
		last, two := impl.CutRecord(r, at, count)
		want, ok := cutRecordOracle(r, at, count)
		wantThat(t, one, at > 0, "CutRecord of the first ones", r, at)
		wantResults(t, all(last, two), all(want, ok), "CutRecord of the last ones", r, at)
		if !one || !two {
			continue
		}
		joined++
		wantResults(t, all(impl.JoinRecords(first, last)), all(r, true), "JoinRecords of CutRecord", r, at)
		whole, _ := impl.JoinRecords(first, last)
		wantThat(t, impl.SameRecords(records(whole), records(r)), true, "records that are joined again", r, at)
		from, to := int64(d.next()%uint64(count)), 1+int64(d.next()%uint64(count))
		want, ok = cutRecordOracle(r, from, to)
		wantResults(t, all(impl.CutRecord(r, from, to)), all(want, ok), "CutRecord", r, from, to)
		other := last
		switch d.next() % 4 {
		case 0:
			other.Start += int64(d.next()%5) - 2
		case 1:
			other.Step += int64(d.next()%3) - 1
		case 2:
			other.Name = d.name()
		case 3:
			other = withValues(last, d.values(d.gaugeCount()))
		}
		want, ok = joinedOracle(first, other)
		wantResults(t, all(impl.JoinRecords(first, other)), all(want, ok), "JoinRecords", first, other)
	}
	wantThat(t, joined > 500, true, "records that are joined again", joined)
}
