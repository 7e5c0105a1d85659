package tests

import (
	"encoding/binary"
	"slices"
	"strings"
	"testing"

	"loop.example/g01302/impl"
)

func TestPackRecordByHand(t *testing.T) {
	for _, c := range []struct {
		bits []uint32
		want string
	}{
		{[]uint32{0, 0, 0x80000000}, "\x00\x00\xff\xff\xff\xff\x0f"}, {[]uint32{0}, "\x00"}, {[]uint32{1}, "\x02"}, {[]uint32{1, 0}, "\x02\x01"}, {[]uint32{1, 1, 0, 0, 1}, "\x02\x00\x01\x00\x02"}, {[]uint32{2, 4, 1}, "\x04\x04\x05"},
		// changes of 2147483647, 2147483648, 2147483649 and 4294967295
		{[]uint32{0x80000001, 0}, "\xfd\xff\xff\xff\x0f\xfe\xff\xff\xff\x0f"}, {[]uint32{0x80000000, 0}, "\xff\xff\xff\xff\x0f\xff\xff\xff\xff\x0f"}, {[]uint32{0, 0x80000001}, "\x00\xfd\xff\xff\xff\x0f"}, {[]uint32{2, 1}, "\x04\x01"}, {[]uint32{0x80000001, 0x80000000}, "\xfd\xff\xff\xff\x0f\x01"}, {[]uint32{0, 0xff800000, 0x7f800000}, "\x00\xff\xff\xff\x07\xff\xff\xff\xff\x0f"},
		// as many bytes as it takes
		{[]uint32{63, 127, 63}, "\x7e\x80\x01\x7f"}, {[]uint32{64}, "\x80\x01"}, {[]uint32{65, 0}, "\x82\x01\x81\x01"}, {[]uint32{8191}, "\xfe\x7f"}, {[]uint32{8192, 0}, "\x80\x80\x01\xff\x7f"}, {[]uint32{8193, 0}, "\x82\x80\x01\x81\x80\x01"}, {[]uint32{1<<20 - 1, 1 << 21}, "\xfe\xff\x7f\x82\x80\x80\x01"}, {[]uint32{1 << 20, 0}, "\x80\x80\x80\x01\xff\xff\x7f"}, {[]uint32{1<<27 - 1, 1<<28 - 1}, "\xfe\xff\xff\x7f\x80\x80\x80\x80\x01"}, {[]uint32{1 << 27, 0}, "\x80\x80\x80\x80\x01\xff\xff\xff\x7f"},
		// infinities, and all not-a-numbers, which are one value
		{[]uint32{0x7f800000, 0x7f800000}, "\x80\x80\x80\xf8\x0f\x00"}, {[]uint32{0xff800000}, "\xff\xff\xff\x07"}, {[]uint32{0x7fc00000, 0x7fc00000}, "\x80\x80\x80\xfc\x0f\x00"}, {[]uint32{0xffc00000, 0x7f800001, 0xffffffff}, "\x80\x80\x80\xfc\x0f\x00\x00"}, {[]uint32{0x7fffffff, 0x7fc00001, 0x7f800000}, "\x80\x80\x80\xfc\x0f\x00\xff\xff\xff\x03"}, {[]uint32{0x7f7fffff}, "\xfe\xff\xff\xf7\x0f"}, {[]uint32{0x3f800000, 0x40000000}, "\x80\x80\x80\xf8\x07\x80\x80\x80\x08"},
	} {
		list := make([]float32, len(c.bits))
		for i, b := range c.bits {
			list[i] = number(b)
		}
		wantResults(t, all(impl.PackRecord(list)), all(c.want, true), "PackRecord", c.bits)
		wantResults(t, all(packOracle(list)), all(c.want, true), "the oracle", c.bits)
		wantResults(t, all(impl.UnpackRecord(c.want)), all(list, true), "UnpackRecord", c.want)
	}
	for count := range 2*impl.MaxGauge + 2 {
		want, ok := strings.Repeat("\x00", count), true
		if count == 0 || count > impl.MaxGauge {
			want, ok = "", false
		}
		wantResults(t, all(impl.PackRecord(make([]float32, count))), all(want, ok), "PackRecord of so many", count)
		list := make([]float32, count)
		if !ok {
			list = nil
		}
		wantResults(t, all(impl.UnpackRecord(strings.Repeat("\x00", count))), all(list, ok), "UnpackRecord of so many", count)
	}
	wantResults(t, all(impl.PackRecord(nil)), all("", false), "PackRecord of none")
	signs := make([]float32, impl.MaxGauge)
	for i := range signs {
		signs[i] = floats(minusZero, 0)[i%2]
	}
	wantResults(t, all(impl.PackRecord(signs)), all(strings.Repeat("\xff\xff\xff\xff\x0f", impl.MaxGauge), true), "PackRecord of the most bytes")
}

func TestChangesOfAllSizes(t *testing.T) {
	for power := range 32 {
		for _, more := range []uint32{0, 1, 2, 0xffffffff, 0xfffffffe} {
			for _, first := range []uint32{0, 0x3f800000, 0x80000000, 0xff7fffff} {
				list := floats(number(first), number(first+1<<power+more), number(first-1<<power+more))
				packed, ok := packOracle(list)
				wantResults(t, all(impl.PackRecord(list)), all(packed, ok), "PackRecord", power, more, first)
				wantResults(t, all(impl.UnpackRecord(packed)), all(list, true), "UnpackRecord", power, more, first)
			}
		}
	}
}

// unpackIs compares what UnpackRecord tells with the oracle.
func unpackIs(t *testing.T, s string) bool {
	t.Helper()
	list, ok := unpackOracle(s)
	wantResults(t, all(impl.UnpackRecord(s)), all(list, ok), "UnpackRecord", []byte(s))
	return ok
}

func TestUnpackRecordThatFails(t *testing.T) {
	failed := all(noFloats, false)
	for _, s := range []string{
		"", "\x80", "\xff", "\x00\x80", "\xff\xff\xff\xff", "\x00\xff\xff\xff\xff", "\x80\x80\x80\x80", "\x02\xfe\xff\xff\xff", // in the middle of a number
		"\x80\x00", "\xff\x00", "\x00\x80\x00", "\x80\x80\x00", "\x82\x00\x01", "\xff\xff\xff\x80\x00", "\x80\x80\x80\x80\x00", "\xff\xff\xff\xff\x8f\x00", "\xff\xff\xff\xff\x8f\x80\x00", "\x80\x00\x00", "\x81\x00", // more bytes than it takes
		"\x80\x80\x80\x80\x10", "\xff\xff\xff\xff\x1f", "\xff\xff\xff\xff\x7f", "\x82\x80\x80\x80\x10", "\x80\x80\x80\x80\x80\x01", "\xff\xff\xff\xff\xff\x01", "\xff\xff\xff\xff\xff\xff\xff\xff\xff\x01", "\x82\x80\x80\x80\x80\x80\x80\x80\x80\x02", "\x82\x80\x80\x80\x80\x80\x80\x80\x80\x80\x01", "\x02\x80\x80\x80\x80\x40", "\x80\x80\x80\x80\x40\x02", // too great
		strings.Repeat("\x80", 1000), strings.Repeat("\x80", 1000) + "\x01", "\x02" + strings.Repeat("\xff", 70) + "\x7f", strings.Repeat("\x00", impl.MaxGauge+1), strings.Repeat("\x00", 100000), strings.Repeat("\x02\x01", impl.MaxGauge/2) + "\x00", strings.Repeat("\xff\xff\xff\xff\x0f", impl.MaxGauge+1), strings.Repeat("\x00", impl.MaxGauge) + "\x80",
	} {
		wantResults(t, all(impl.UnpackRecord(s)), failed, "UnpackRecord", []byte(s))
		wantResults(t, all(unpackOracle(s)), failed, "the oracle", []byte(s))
	}
	// bits of not-a-numbers that no number has
	for _, b := range []int64{0x7fc00001, 0x7fbfffff, 0x7f800001, 0x7fffffff, 0xffc00000, 0xff800001, 0xffffffff, 0xffc00001} {
		wantResults(t, all(impl.UnpackRecord(changeOracle(b))), failed, "UnpackRecord of other bits", b)
		wantResults(t, all(impl.UnpackRecord("\x00"+changeOracle(b))), failed, "UnpackRecord of other bits", b)
		wantResults(t, all(impl.UnpackRecord(changeOracle(b)+"\x00")), failed, "UnpackRecord of other bits", b)
		wantResults(t, all(impl.UnpackRecord(changeOracle(b)+changeOracle((1<<32+0x7fc00000-b)%(1<<32)))), failed, "UnpackRecord of other bits", b)
	}
	for _, b := range []int64{0x7fc00000, 0x7f800000, 0xff800000, 0x7f7fffff, 0xff7fffff} {
		wantResults(t, all(impl.UnpackRecord(changeOracle(b))), all(floats(number(uint32(b))), true), "UnpackRecord", b)
	}
}

func TestUnpackRecordOfAllTexts(t *testing.T) {
	right := 0
	for a := range 256 {
		if unpackIs(t, string([]byte{byte(a)})) {
			right++
		}
		for b := range 256 {
			if unpackIs(t, string([]byte{byte(a), byte(b)})) {
				right++
			}
		}
	}
	// A change of one byte goes up by 0 to 63, and by that of a second one, or
	// down again, but not below 0; one of two bytes goes up, and not by 0 to 63.
	wantThat(t, right, 64+64*64+63*64/2+64*127, "right texts of one and two bytes")
}

func TestPackedNumbersAreUnpacked(t *testing.T) {
	d := drawer(740)
	right, wrong := 0, 0
	for range 4000 {
		list := d.values(d.gaugeCount())
		packed, ok := packOracle(list)
		wantResults(t, all(impl.PackRecord(list)), all(packed, ok), "PackRecord", bitsOfAll(list))
		wantResults(t, all(impl.UnpackRecord(packed)), all(list, true), "UnpackRecord of PackRecord", bitsOfAll(list))
		bent := []byte(packed)
		at := int(d.next() % uint64(len(bent)))
		switch d.next() % 4 {
		case 0:
			bent[at] ^= byte(1 + d.next()%255)
		case 1:
			bent = bent[:at]
		case 2:
			bent = slices.Insert(bent, at, byte(d.next()), 0x80)
		case 3:
			bent = slices.Delete(bent, at, at+1)
		}
		if unpackIs(t, string(bent)) {
			right++
		} else {
			wrong++
		}
	}
	wantThat(t, right > 500 && wrong > 500, true, "bent bytes that are right, and wrong ones", right, wrong)
}

func TestStoreRecordByHand(t *testing.T) {
	most := make([]float32, impl.MaxGauge)
	for i := range most {
		most[i] = floats(minusZero, 0)[i%2]
	}
	for _, c := range []struct {
		r    impl.Record
		want string
	}{
		{record("a", 8, 2, 0, 0), "RIV1\x01a\x08\x00\x00\x00\x02\x00\x02\x00\x00\x00"}, {record("z", 0, 1, 1), "RIV1\x01z\x00\x00\x00\x00\x01\x00\x05\x00\x80\x80\x80\xf8\x07"}, {record("ringbell", 0x01020304, 0x0506, notANumber), "RIV1\x08ringbell\x04\x03\x02\x01\x06\x05\x05\x00\x80\x80\x80\xfc\x0f"}, {record("gauge", lastStart, lastStep, minusZero), "RIV1\x05gauge\xff\xff\xff\xff\xff\xff\x05\x00\xff\xff\xff\xff\x0f"}, {record("ab", 256, 256, 0), "RIV1\x02ab\x00\x01\x00\x00\x00\x01\x01\x00\x00"}, {record("abc", 1<<24, 255, most...), "RIV1\x03abc\x00\x00\x00\x01\xff\x00\x80\x02" + strings.Repeat("\xff\xff\xff\xff\x0f", impl.MaxGauge)},
	} {
		want := c.want + string(binary.LittleEndian.AppendUint16(nil, checkOracle(c.want)))
		wantResults(t, all(impl.StoreRecord(c.r)), all(want, true), "StoreRecord", c.r)
		wantResults(t, all(storeOracle(c.r)), all(want, true), "the oracle", c.r)
		wantResults(t, all(impl.LoadRecord(want)), all(c.r, true), "LoadRecord", c.r)
		wantResults(t, all(loadOracle(want)), all(c.r, true), "the oracle", c.r)
	}
	s, _ := impl.StoreRecord(record("a", 8, 2, 0, 0))
	wantThat(t, s, "RIV1\x01a\x08\x00\x00\x00\x02\x00\x02\x00\x00\x00\x88\x1a", "StoreRecord")
	for _, r := range wrongRecords() {
		wantResults(t, all(impl.StoreRecord(r)), all("", false), "StoreRecord", r)
		wantResults(t, all(storeOracle(r)), all("", false), "the oracle", r)
	}
}

// sealed is a text with its check number behind it.
func sealed(s string) string {
	return s + string(binary.LittleEndian.AppendUint16(nil, checkOracle(s)))
}

// A text with a check number that is right can be wrong all the same.
func TestLoadRecordOfWrongTexts(t *testing.T) {
	right := "RIV1\x02ab\x05\x00\x00\x00\x03\x00\x03\x00\x02\x00\x01"
	wantResults(t, all(impl.LoadRecord(sealed(right))), all(record("ab", 5, 3, tiniest, tiniest, 0), true), "LoadRecord")
	failed := all(noRecord, false)
	head, tail := "RIV1\x02ab", "\x05\x00\x00\x00\x03\x00"
	for _, s := range []string{
		"", "R", "RIV1", "RIV1\x02ab", "\x00", "RIV1\x00", "RIV1\xff",
		"RIV2" + right[4:], "riv1" + right[4:], "\x00IV1" + right[4:], "RIV" + right[4:], "RIV11" + right[4:], " " + right,
		"RIV1\x00" + tail + "\x01\x00\x00", "RIV1\x00ab" + tail + "\x01\x00\x00", "RIV1\x01ab" + tail + "\x01\x00\x00", "RIV1\x03ab" + tail + "\x01\x00\x00", "RIV1\x09abcdefghi" + tail + "\x01\x00\x00", "RIV1\x02aB" + tail + "\x01\x00\x00", "RIV1\x02a`" + tail + "\x01\x00\x00", "RIV1\x02{a" + tail + "\x01\x00\x00", "RIV1\x02a\x00" + tail + "\x01\x00\x00", "RIV1\x02\xc5\xa1" + tail + "\x01\x00\x00", "RIV1\xff" + strings.Repeat("a", 255) + tail + "\x01\x00\x00",
		head + "\x05\x00\x00\x00\x00\x00" + "\x01\x00\x00", head + "\x05\x00\x00\x00" + "\x01\x00\x00", // without steps
		head + tail + "\x00\x00", head + tail + "\x00\x00\x00", head + tail + "\x02\x00\x00", head + tail + "\x01\x00\x00\x00", head + tail + "\x01\x01\x00", head + tail + "\xff\xff\x00", head + tail + "\x01\x00", head + tail + "\x03\x00\x02\x00", head + tail + "\x01", head + tail, // of wrong lengths
		head + tail + "\x02\x00\x80\x00", head + tail + "\x01\x00\x80", head + tail + "\x05\x00\x80\x80\x80\x80\x10", head + tail + "\x05\x00" + changeOracle(0x7fc00001), head + tail + "\x81\x00" + strings.Repeat("\x00", 0x81), head + tail + "\x06\x00\x82\x80\x80\x80\x80\x00",
	} {
		wantResults(t, all(impl.LoadRecord(sealed(s))), failed, "LoadRecord", []byte(s))
		wantResults(t, all(loadOracle(sealed(s))), failed, "the oracle", []byte(s))
		wantResults(t, all(impl.LoadRecord(s)), failed, "LoadRecord without a check number", []byte(s))
		wantResults(t, all(impl.RecoverRecords(sealed(s)+sealed(right))), all(noRecords, 0, true), "RecoverRecords", []byte(s))
	}
	wantResults(t, all(impl.LoadRecord(sealed(head+tail+"\x80\x00"+strings.Repeat("\x00", 128)))), all(record("ab", 5, 3, make([]float32, 128)...), true), "LoadRecord of the most numbers")
}

// Of two numbers that leave the same remainder, only the lesser one is a check
// number.
func TestCheckNumbersThatAreTooGreat(t *testing.T) {
	tried := 0
	for start := int64(0); tried < 20; start++ {
		s, _ := storeOracle(record("a", start, 1, 0))
		body, check := s[:len(s)-2], int(checkOracle(s[:len(s)-2]))
		if check+impl.CheckSize > 65535 {
			continue
		}
		tried++
		other := body + string(binary.LittleEndian.AppendUint16(nil, uint16(check+impl.CheckSize)))
		wantResults(t, all(impl.LoadRecord(other)), all(noRecord, false), "LoadRecord", start)
		wantResults(t, all(impl.LoadRecord(s)), all(record("a", start, 1, 0), true), "LoadRecord", start)
	}
}

// storedSamples are records of all kinds that are stored.
func storedSamples(seed uint64, count int) ([]impl.Record, []string) {
	list := records(record("a", 0, 1, 0), record("ringbell", lastStart, lastStep, notANumber, infinity, minusInf, minusZero, greatest), record("abc", 256, 255, 1, 1, 1, 2))
	d := drawer(seed)
	for range count {
		list = append(list, d.record())
	}
	texts := make([]string, len(list))
	for i, r := range list {
		texts[i], _ = storeOracle(r)
	}
	return list, texts
}

func TestRecordsAreLoadedAsTheyWereStored(t *testing.T) {
	list, texts := storedSamples(741, 1500)
	for i, r := range list {
		s, ok := impl.StoreRecord(r)
		wantResults(t, all(s, ok), all(texts[i], true), "StoreRecord", r)
		wantResults(t, all(impl.LoadRecord(s)), all(r, true), "LoadRecord of StoreRecord", r)
		loaded, _ := impl.LoadRecord(s)
		wantThat(t, impl.ValidRecord(loaded) && impl.SameRecords(records(loaded), records(r)), true, "a record that is loaded", r)
	}
}

// No byte can be another one, and none can be missing, or be too much.
func TestBentRecordsAreNotLoaded(t *testing.T) {
	failed := all(noRecord, false)
	_, texts := storedSamples(742, 12)
	for _, s := range texts {
		for at := range len(s) {
			wantResults(t, all(impl.LoadRecord(s[:at])), failed, "LoadRecord that is cut", s, at)
			wantResults(t, all(impl.LoadRecord(s[at+1:])), failed, "LoadRecord without its first bytes", s, at)
			wantResults(t, all(impl.LoadRecord(s[:at]+s[at+1:])), failed, "LoadRecord without a byte", s, at)
			if len(s) > 60 && at%7 > 0 {
				continue
			}
			for other := range 256 {
				if byte(other) != s[at] {
					bent := s[:at] + string([]byte{byte(other)}) + s[at+1:]
					wantResults(t, all(impl.LoadRecord(bent)), failed, "LoadRecord with another byte", []byte(bent), at)
				}
			}
		}
		for _, more := range []string{"\x00", "x", "\xff", s, "RIV1", s[:5], " ", "\n"} {
			wantResults(t, all(impl.LoadRecord(s+more)), failed, "LoadRecord with more behind", s, more)
			wantResults(t, all(impl.LoadRecord(more+s)), failed, "LoadRecord with more before", s, more)
		}
	}
}

// Texts that are bent and sealed again are right only if they are stored so.
func TestSealedTextsOfAllKinds(t *testing.T) {
	d := drawer(743)
	_, texts := storedSamples(744, 40)
	right, wrong := 0, 0
	for range 8000 {
		s := texts[d.next()%uint64(len(texts))]
		body := []byte(s[:len(s)-2])
		at := int(d.next() % uint64(min(len(body), 30)))
		switch d.next() % 4 {
		case 0:
			body[at] = byte(d.next())
		case 1:
			body[at]++
		case 2:
			body = slices.Delete(body, at, at+1)
		case 3:
			body = slices.Insert(body, at, byte(d.next()%3))
		}
		bent := sealed(string(body))
		want, ok := loadOracle(bent)
		wantResults(t, all(impl.LoadRecord(bent)), all(want, ok), "LoadRecord", []byte(bent))
		if ok {
			right++
		} else {
			wrong++
		}
	}
	wantThat(t, right > 1000 && wrong > 1000, true, "sealed texts that are right, and wrong ones", right, wrong)
}

func TestStoreRecordsByHand(t *testing.T) {
	r, other := record("a", 8, 2, 0, 0), record("bc", 9, 3, 1, minusZero)
	one, _ := storeOracle(r)
	two, _ := storeOracle(other)
	for count := range 2 * impl.MaxRecords {
		list := alike(count, r)
		want, ok := strings.Repeat(one, count), count <= impl.MaxRecords
		if !ok {
			want = ""
		}
		wantResults(t, all(impl.StoreRecords(list)), all(want, ok), "StoreRecords of so many", count)
		wantResults(t, all(storesOracle(list)), all(want, ok), "the oracle", count)
		wantResults(t, all(impl.RecoverRecords(want)), all(list[:len(want)/len(one)], len(want), true), "RecoverRecords of so many", count)
	}
	wantResults(t, all(impl.StoreRecords(nil)), all("", true), "StoreRecords of none")
	wantResults(t, all(impl.StoreRecords(records(r, other, r))), all(one+two+one, true), "StoreRecords")
	for _, wrong := range wrongRecords() {
		for i := range impl.MaxRecords {
			wantResults(t, all(impl.StoreRecords(with(alike(impl.MaxRecords, r), i, wrong))), all("", false), "StoreRecords of a wrong one", wrong, i)
		}
		wantResults(t, all(impl.StoreRecords(records(wrong))), all("", false), "StoreRecords of a wrong one", wrong)
	}
}

// recoverIs compares what RecoverRecords tells with others.
func recoverIs(t *testing.T, s string, list []impl.Record, length int) {
	t.Helper()
	wantResults(t, all(impl.RecoverRecords(s)), all(list, length, true), "RecoverRecords", []byte(s))
}

func TestRecoverRecordsByHand(t *testing.T) {
	r, other := record("a", 8, 2, 0, 0), record("bc", 9, 3, 1, minusZero)
	one, _ := storeOracle(r)
	two, _ := storeOracle(other)
	recoverIs(t, "", nil, 0)
	for _, s := range []string{"x", "RIV1", "\x00", "\xff", strings.Repeat("RIV1", 100), strings.Repeat("\x00", 5000), one[1:], one[:len(one)-1], "x" + one, one[1:] + one} {
		recoverIs(t, s, nil, 0)
		recoverIs(t, two+s, records(other), len(two))
		recoverIs(t, one+two+s+two, records(r, other), len(one)+len(two))
	}
	// more records than there can be, and more bytes behind the most ones
	for _, count := range []int{impl.MaxRecords, impl.MaxRecords + 1, 2 * impl.MaxRecords, 100} {
		recoverIs(t, strings.Repeat(one, count), alike(impl.MaxRecords, r), impl.MaxRecords*len(one))
		recoverIs(t, two+strings.Repeat(one, count), append(records(other), alike(impl.MaxRecords-1, r)...), len(two)+(impl.MaxRecords-1)*len(one))
	}
	recoverIs(t, strings.Repeat(one, impl.MaxRecords)+"x", alike(impl.MaxRecords, r), impl.MaxRecords*len(one))
	recoverIs(t, strings.Repeat(one, impl.MaxRecords-1)+"x", alike(impl.MaxRecords-1, r), (impl.MaxRecords-1)*len(one))
	// a text that is bent within its first record has none, however many follow
	recoverIs(t, strings.ToLower(one)+one+one, nil, 0)
}

func TestRecoverRecordsOfTextsThatAreCutOrBent(t *testing.T) {
	list, texts := storedSamples(745, 10)
	d := drawer(746)
	for range 60 {
		var some []impl.Record
		var ends []int
		s := ""
		for range 1 + d.next()%impl.MaxRecords {
			i := d.next() % uint64(len(list))
			some, s = append(some, list[i]), s+texts[i]
			ends = append(ends, len(s))
		}
		wantResults(t, all(impl.StoreRecords(some)), all(s, true), "StoreRecords", some)
		// intact tells how many records end at a place or before it.
		intact := func(at int) (count, end int) {
			for k, place := range ends {
				if place <= at {
					count, end = k+1, place
				}
			}
			return count, end
		}
		step := 1 + len(s)/150
		for at := 0; at < len(s); at += step {
			count, end := intact(at)
			recoverIs(t, s[:at], some[:count], end)
			bent := []byte(s)
			bent[at] ^= byte(1 + d.next()%255)
			recoverIs(t, string(bent), some[:count], end)
			recoverIs(t, s[:at]+s[at+1:], some[:count], end)
		}
		recoverIs(t, s, some, len(s))
	}
}

func TestRecoverRecordsOfAllKinds(t *testing.T) {
	d := drawer(747)
	_, texts := storedSamples(748, 6)
	found := 0
	for range 1500 {
		var s []byte
		for range d.next() % 5 {
			s = append(s, texts[d.next()%3]...)
			if d.next()%4 == 0 {
				s = append(s, byte(d.next()))
			}
		}
		if len(s) > 0 && d.next()%2 == 0 {
			s[d.next()%uint64(len(s))] = byte(d.next() % 9)
		}
		list, length := recoverOracle(string(s), impl.MaxRecords)
		recoverIs(t, string(s), list, int(length))
		found += len(list)
	}
	wantThat(t, found > 500, true, "records that are found", found)
}
