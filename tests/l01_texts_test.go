package tests

import (
	"math"
	"slices"
	"strings"
	"testing"

	"loop.example/g01302/impl"
)

func TestNumbersText(t *testing.T) {
	for _, c := range []struct {
		list []float32
		want string
	}{
		{nil, "none"}, {[]float32{}, "none"}, {[]float32{1}, "3f800000"}, {[]float32{1, -2}, "3f800000,c0000000"},
		{[]float32{0, minusZero, tiniest, -tiniest}, "00000000,80000000,00000001,80000001"},
		{[]float32{infinity, minusInf, greatest, number(0x000abcde)}, "7f800000,ff800000,7f7fffff,000abcde"},
		{[]float32{notANumber, number(0xffc00000), number(0x7f800001), number(0xffffffff)}, "7fc00000,7fc00000,7fc00000,7fc00000"},
	} {
		text, ok := impl.NumbersText(c.list)
		wantThat(t, text, c.want, "NumbersText", c.list)
		wantThat(t, ok, true, "NumbersText", c.list)
		list, ok := impl.ReadNumbers(c.want)
		wantThat(t, ok, true, "ReadNumbers", c.want)
		wantThat(t, slices.Equal(bitsOfAll(list), bitsOfAll(c.list)), true, "ReadNumbers", c.want)
	}
}

func TestComplexText(t *testing.T) {
	for _, c := range []struct {
		list []complex64
		want string
	}{
		{nil, "none"}, {[]complex64{}, "none"}, {[]complex64{1}, "3f80000000000000"}, {[]complex64{1, complex(0, -2)}, "3f80000000000000,00000000c0000000"},
		{[]complex64{complex(minusZero, 0), complex(tiniest, infinity)}, "8000000000000000,000000017f800000"},
		{[]complex64{complex(number(0xffc00001), 1), complex(1, number(0x7f800001))}, "7fc000003f800000,3f8000007fc00000"},
	} {
		text, ok := impl.ComplexText(c.list)
		wantThat(t, text, c.want, "ComplexText", c.list)
		wantThat(t, ok, true, "ComplexText", c.list)
		list, ok := impl.ReadComplex(c.want)
		wantThat(t, ok, true, "ReadComplex", c.want)
		wantThat(t, slices.Equal(bitsOfAllComplex(list), bitsOfAllComplex(c.list)), true, "ReadComplex", c.want)
	}
}

func TestTextsAreReadBackToTheLastBit(t *testing.T) {
	all := sampleNumbers(2000)
	for part := range slices.Chunk(all, impl.MaxNumbers) {
		text, one := impl.NumbersText(part)
		list, two := impl.ReadNumbers(text)
		wantThat(t, one && two && slices.Equal(bitsOfAll(list), bitsOfAll(part)), true, "ReadNumbers of", text)
		again, three := impl.NumbersText(list)
		wantThat(t, three && again == text, true, "NumbersText of ReadNumbers of", text)
	}
	for part := range slices.Chunk(sampleComplex(1000), impl.MaxNumbers) {
		text, one := impl.ComplexText(part)
		list, two := impl.ReadComplex(text)
		wantThat(t, one && two && slices.Equal(bitsOfAllComplex(list), bitsOfAllComplex(part)), true, "ReadComplex of", text)
		again, three := impl.ComplexText(list)
		wantThat(t, three && again == text, true, "ComplexText of ReadComplex of", text)
	}
}

func TestTextsOfMaxNumbersAndOneMore(t *testing.T) {
	text, ok := impl.NumbersText(numbers(0))
	wantThat(t, ok && len(text) == 9*impl.MaxNumbers-1, true, "NumbersText of MaxNumbers")
	list, ok := impl.ReadNumbers(text)
	wantThat(t, ok && slices.Equal(list, numbers(0)), true, "ReadNumbers of MaxNumbers")
	list, ok = impl.ReadNumbers(text + ",3f800000")
	wantThat(t, list == nil && !ok, true, "ReadNumbers of one more")
	text, ok = impl.NumbersText(numbers(1))
	wantThat(t, text == "" && !ok, true, "NumbersText of one more")

	text, ok = impl.ComplexText(complexes(0))
	wantThat(t, ok && len(text) == 17*impl.MaxNumbers-1, true, "ComplexText of MaxNumbers")
	other, ok := impl.ReadComplex(text)
	wantThat(t, ok && slices.Equal(other, complexes(0)), true, "ReadComplex of MaxNumbers")
	other, ok = impl.ReadComplex(text + ",3f80000000000000")
	wantThat(t, other == nil && !ok, true, "ReadComplex of one more")
	text, ok = impl.ComplexText(complexes(1))
	wantThat(t, text == "" && !ok, true, "ComplexText of one more")
}

func TestReadNumbersFailsForOtherTexts(t *testing.T) {
	for _, s := range []string{
		"", "0", "3f80000", "3f8000000", "3f800000,", ",3f800000", "3f800000,,3f800000", ",", "3f800000 ", " 3f800000", "3f800000\n", "3f800000, c0000000", "3f800000;c0000000",
		"None", "none,", "none,none", "none,3f800000", "3f800000,none", "nonenone", "non", "none ", "none\x00",
		"3F800000", "3f80000g", "3f80000/", "3f80000:", "3f80000`", "3f80000@", "-3f80000", "+3f80000", "0x3f8000", "3f8_0000", "1", "1.5", "00000000000000",
		"7fc00001", "ffc00000", "7f800001", "ff800001", "7fffffff", "ffffffff", "3f800000,7fc00001", // bits of no number's text
		"3f8000\xff0", "\xff\xfe\xfd\xfc\xfb\xfa\xf9\xf8", "\x00\x00\x00\x00\x00\x00\x00\x00", "3f80000\x80", "3f8000é", "éééé", "３f80000", "٣f800000", "\U0001d7d9\U0001d7d9", "�3f800",
		strings.Repeat("0", 16), strings.Repeat("0", 1<<20), strings.Repeat(",", 1<<20), strings.Repeat(",", 255), strings.Repeat("3f800000,", 256),
	} {
		list, ok := impl.ReadNumbers(s)
		wantThat(t, len(list) == 0 && list == nil && !ok, true, "ReadNumbers fails for", s[:min(len(s), 40)])
	}
}

func TestReadComplexFailsForOtherTexts(t *testing.T) {
	one := "3f80000000000000"
	for _, s := range []string{
		"", "3f800000", one[1:], one + "0", one + ",", "," + one, one + ",," + one, ",", one + " ", " " + one, one + ";" + one, "3f800000,00000000",
		"None", "none,", "none," + one, one + ",none", "nonenonenonenone",
		"3F80000000000000", "3f8000000000000G", "3f8000000000000g", "3f80000000000/00", ":f80000000000000", "-f80000000000000", "3f800000-0000001", "3f800000+0000001",
		"7fc0000100000000", "000000007fc00001", "ffc00000ffc00000", "3f800000ff800001", one + ",7f80000100000000",
		"3f80000\xff00000000", "3f800000\xff0000000", "3f80000é0000000", strings.Repeat("\xf0", 16), strings.Repeat("é", 8), strings.Repeat("\x00", 16),
		strings.Repeat("0", 32), strings.Repeat("0", 1<<20), strings.Repeat(",", 1<<20), strings.Repeat(one+",", 256),
	} {
		list, ok := impl.ReadComplex(s)
		wantThat(t, list == nil && !ok, true, "ReadComplex fails for", s[:min(len(s), 40)])
	}
}

func TestEachByteOfATextIsRead(t *testing.T) {
	digits := "0123456789abcdef"
	for at := range 8 {
		for b := range 256 {
			word := []byte("00000000")
			word[at] = byte(b)
			list, ok := impl.ReadNumbers(string(word))
			value := strings.IndexByte(digits, byte(b))
			wantThat(t, ok, value >= 0, "ReadNumbers", word)
			if ok && value >= 0 {
				wantNumber(t, list[0], number(uint32(value)<<(28-4*at)), "ReadNumbers", word)
			}
		}
	}
}

func TestIsName(t *testing.T) {
	for _, s := range []string{"a", "z", "ring", "abcdefgh", "zzzzzzzz", "none"} {
		wantThat(t, impl.IsName(s), true, "IsName", s)
	}
	for _, s := range []string{"", "abcdefghi", "A", "aB", "a1", "a b", " a", "a\n", "a\x00", "é", "aé", "\xff", "a\xff", "ａ", "ab,c", "`", "{", strings.Repeat("a", 1<<16)} {
		wantThat(t, impl.IsName(s), false, "IsName", s[:min(len(s), 40)])
	}
	for b := range 256 {
		wantThat(t, impl.IsName(string([]byte{'m', byte(b)})), b >= 'a' && b <= 'z', "IsName with byte", b)
	}
}

func TestDecimal(t *testing.T) {
	for _, c := range []struct {
		n    int64
		want string
	}{
		{0, "0"}, {7, "7"}, {-4, "-4"}, {10, "10"}, {-100, "-100"}, {1234567890, "1234567890"}, {impl.MaxValue, "1000000000000000"}, {-impl.MaxValue, "-1000000000000000"},
		{impl.MaxValue + 1, "1000000000000001"}, {math.MaxInt64, "9223372036854775807"}, {math.MinInt64, "-9223372036854775808"},
	} {
		wantThat(t, impl.Decimal(c.n), c.want, "Decimal", c.n)
	}
}

func TestReadDecimal(t *testing.T) {
	d := drawer(23)
	list := []int64{0, 1, -1, 9, 10, -10, 99, 100, impl.MaxValue, -impl.MaxValue, impl.MaxValue - 1, 1 - impl.MaxValue}
	for range 1000 {
		list = append(list, int64(d.next()%(2*impl.MaxValue+1))-impl.MaxValue, int64(d.next()%2001)-1000)
	}
	for _, n := range list {
		got, ok := impl.ReadDecimal(impl.Decimal(n))
		wantThat(t, got, n, "ReadDecimal", n)
		wantThat(t, ok, true, "ReadDecimal", n)
	}
	for _, s := range []string{
		"", "-", "--1", "+1", "-0", "00", "01", "-01", "1 ", " 1", "1.0", "1e3", "0x10", "1_000", "a", "1a", "1-", "none", "1,2", "1\n", "1\x00",
		"1000000000000001", "-1000000000000001", "9999999999999999", "10000000000000000", "9223372036854775807", "-9223372036854775808", "9223372036854775808",
		"18446744073709551617", "18446744073709551616", "0000000000000001", "00000000000000001", strings.Repeat("0", 1<<16), strings.Repeat("9", 1<<16), strings.Repeat("-", 1<<16),
		"/", ":", "\xff", "1\xff", "١", "１", "1é",
	} {
		n, ok := impl.ReadDecimal(s)
		wantThat(t, n, 0, "ReadDecimal that fails", s[:min(len(s), 40)])
		wantThat(t, ok, false, "ReadDecimal", s[:min(len(s), 40)])
	}
}

func TestListText(t *testing.T) {
	full := slices.Repeat([]int64{-impl.MaxValue}, impl.MaxItems)
	for _, c := range []struct {
		list []int64
		want string
	}{
		{nil, "none"}, {[]int64{}, "none"}, {[]int64{0}, "0"}, {[]int64{3, -1, 0, 3}, "3,-1,0,3"}, {[]int64{impl.MaxValue, -impl.MaxValue}, "1000000000000000,-1000000000000000"},
		{full, strings.Repeat("-1000000000000000,", 63) + "-1000000000000000"},
	} {
		text, ok := impl.ListText(c.list)
		wantThat(t, text, c.want, "ListText", c.list)
		wantThat(t, ok, true, "ListText", c.list)
		list, ok := impl.ReadList(c.want)
		wantThat(t, ok && slices.Equal(list, c.list), true, "ReadList", c.want)
	}
	for _, list := range [][]int64{append(full, 1), {impl.MaxValue + 1}, {-impl.MaxValue - 1}, {1, math.MaxInt64}, {math.MinInt64, 1}} {
		text, ok := impl.ListText(list)
		wantThat(t, text, "", "ListText that fails", list)
		wantThat(t, ok, false, "ListText", list)
	}
}

func TestReadListFailsForOtherTexts(t *testing.T) {
	for _, s := range []string{
		"", ",", "1,", ",1", "1,,2", "1, 2", "1 ,2", "1;2", "-0", "1,-0", "01", "1,02", "+1", "None", "none,", "none,1", "1,none", "nonenone", "1\n", "\xff", "1,\xff",
		"1000000000000001", "1,-1000000000000001", "1,9999999999999999999999", strings.Repeat("1,", 64) + "1", strings.Repeat("1,", 64), strings.Repeat(",", 1<<20), strings.Repeat("1", 1<<20),
	} {
		list, ok := impl.ReadList(s)
		wantThat(t, list == nil && !ok, true, "ReadList fails for", s[:min(len(s), 40)])
	}
}

func TestCheckOf(t *testing.T) {
	for _, c := range []struct {
		start int64
		s     string
		want  int64
	}{
		{0, "", 0}, {5, "", 5}, {65002, "", 65002}, {0, "a", 224}, {1, "a", 1051}, {0, "ab", (224*827 + 98 + 127) % 65003},
		{0, "\x00", 127}, {0, "\xff", 382}, {65002, "\xff", (65002*827 + 382) % 65003}, {0, "é", ((0xc3+127)*827 + 0xa9 + 127) % 65003},
	} {
		check, ok := impl.CheckOf(c.start, c.s)
		wantThat(t, check, c.want, "CheckOf", c.start, c.s)
		wantThat(t, ok, true, "CheckOf", c.start, c.s)
	}
	for _, start := range []int64{-1, impl.CheckSize, impl.CheckSize + 1, math.MaxInt64, math.MinInt64} {
		for _, s := range []string{"", "a"} {
			check, ok := impl.CheckOf(start, s)
			wantThat(t, check, 0, "CheckOf that fails", start, s)
			wantThat(t, ok, false, "CheckOf", start, s)
		}
	}
	long := strings.Repeat("rain \x00\xff\n", 5000)
	want := int64(77)
	for _, b := range []byte(long) {
		want = (want*827 + int64(b) + 127) % 65003
	}
	check, ok := impl.CheckOf(77, long)
	wantThat(t, check == want && ok, true, "CheckOf a long text")
	half, _ := impl.CheckOf(77, long[:12345])
	check, ok = impl.CheckOf(half, long[12345:])
	wantThat(t, check == want && ok, true, "CheckOf a text in two parts")
}
