package tests

import (
	"fmt"
	"math"
	"strings"
	"testing"

	"loop.example/g01302/impl"
)

// partTexts are the texts of the parts of desks: how they are told, and read.
var partTexts = []struct {
	name   string
	text   func(d impl.Desk) []any
	read   func(t string) []any
	oracle func(t string) []any
	part   func(d impl.Desk) any
}{
	{
		"hill",
		func(d impl.Desk) []any { return all(impl.HillText(d.Hill)) },
		func(t string) []any { return all(impl.ReadHill(t)) },
		func(t string) []any { return all(readHillOracle(t)) },
		func(d impl.Desk) any { return d.Hill },
	},
	{
		"soil",
		func(d impl.Desk) []any { return all(impl.SoilText(d.Soil)) },
		func(t string) []any { return all(impl.ReadSoil(t)) },
		func(t string) []any { return all(readSoilOracle(t)) },
		func(d impl.Desk) any { return d.Soil },
	},
	{
		"section",
		func(d impl.Desk) []any { return all(impl.SectionText(d.Section)) },
		func(t string) []any { return all(impl.ReadSection(t)) },
		func(t string) []any { return all(readSectionOracle(t)) },
		func(d impl.Desk) any { return d.Section },
	},
	{
		"river",
		func(d impl.Desk) []any { return all(impl.RiverText(d.River)) },
		func(t string) []any { return all(impl.ReadRiver(t)) },
		func(t string) []any { return all(readRiverOracle(t)) },
		func(d impl.Desk) any { return d.River },
	},
}

// textIs checks the text of one part of a desk, and what is read of it.
func textIs(t *testing.T, d impl.Desk, name, text string) {
	t.Helper()
	for _, p := range partTexts {
		if p.name == name {
			wantResults(t, p.text(d), all(text, true), name, deskBits(d))
			wantResults(t, p.read(text), all(p.part(d), true), "read "+name, text)
			wantResults(t, p.oracle(text), all(p.part(d), true), "the oracle of "+name, text)
		}
	}
}

func TestHillTextsByHand(t *testing.T) {
	for _, c := range []struct {
		h    impl.Hill
		want string
	}{
		{hill(1, 1, 0), "1,1;00000000"}, {hill(1, 1, minusZero), "1,1;80000000"}, {hill(1, 2, 1, 2), "1,2;3f800000,40000000"}, {hill(2, 1, 1, 2), "2,1;3f800000,40000000"},
		{hill(2, 2, tiniest, -tiniest, greatest, -greatest), "2,2;00000001,80000001,7f7fffff,ff7fffff"}, {hill(3, 1, number(0x007fffff), number(0x00800000), number(0x80000abc)), "3,1;007fffff,00800000,80000abc"},
		{hill(16, 1, make([]float32, 16)...), "16,1;" + strings.Repeat("00000000,", 15) + "00000000"}, {evenHill(16, 16, minusZero), "16,16;" + strings.Repeat("80000000,", 255) + "80000000"},
	} {
		textIs(t, withHill(freshDesk(), c.h), "hill", c.want)
	}
}

func TestSoilTextsByHand(t *testing.T) {
	for _, c := range []struct {
		s    impl.Soil
		want string
	}{
		{soil(1, 0, 4, 0.25, 0), "3f800000,00000000,40800000,3e800000,00000000"}, {soil(0, 0, 0, 0, 0), "00000000,00000000,00000000,00000000,00000000"}, {soil(minusZero, minusZero, minusZero, minusZero, minusZero), "80000000,80000000,80000000,80000000,80000000"}, {soil(0, minusZero, minusZero, 0, 0), "00000000,80000000,80000000,00000000,00000000"},
		{soil(1, 2, 3, 4, 0.5), "3f800000,40000000,40400000,40800000,3f000000"}, {soil(tiniest, number(0x007fffff), greatest, tiniest, greatest), "00000001,007fffff,7f7fffff,00000001,7f7fffff"}, {soil(0, 0, tiniest, 0, tiniest), "00000000,00000000,00000001,00000000,00000001"},
	} {
		textIs(t, withSoil(freshDesk(), c.s), "soil", c.want)
	}
}

func TestSectionTextsByHand(t *testing.T) {
	for _, c := range []struct {
		s    impl.Section
		want string
	}{
		{ditch(), "40000000,00000000,3a800000,3d000000"}, {section(1, 2, 3, 4), "3f800000,40000000,40400000,40800000"}, {section(minusZero, 1, tiniest, greatest), "80000000,3f800000,00000001,7f7fffff"}, {section(tiniest, minusZero, number(0x007fffff), tiniest), "00000001,80000000,007fffff,00000001"},
	} {
		textIs(t, withSection(freshDesk(), c.s), "section", c.want)
	}
}

func TestRiverTextsByHand(t *testing.T) {
	most := int64(impl.MaxUnits)
	for _, c := range []struct {
		r    impl.River
		want string
	}{
		{dryRiver(-1), "-1;0,0,0,0;0"}, {single(dam(5, 1, 9, 3), 7), "-1;5,1,9,3;7"}, {dryRiver(1, -1), "1,-1;0,0,0,0/0,0,0,0;0,0"}, {dryRiver(-1, -1, 0), "-1,-1,0;0,0,0,0/0,0,0,0/0,0,0,0;0,0,0"}, {single(dam(most, most, most, most), most), "-1;1000000000,1000000000,1000000000,1000000000;1000000000"},
		{valley(), "2,2,4,-1,-1;20,3,5,2/9,0,1,9/30,4,2,4/7,7,0,6/50,10,8,12;4,0,6,3,11"}, {lineTo(12), "1,2,3,4,5,6,7,8,9,10,11,-1;" + strings.Repeat("0,0,0,0/", 11) + "0,0,0,0;0,0,0,0,0,0,0,0,0,0,0,0"},
	} {
		textIs(t, withRiver(freshDesk(), c.r), "river", c.want)
	}
}

func TestTextsOfPartsAreReadBackToTheLastBit(t *testing.T) {
	d := drawer(801)
	for range 3000 {
		at := d.desk()
		textIs(t, at, "hill", hillOracle(at.Hill))
		textIs(t, at, "soil", hexOracle(soilFields(at.Soil)))
		textIs(t, at, "section", hexOracle(sectionFields(at.Section)))
		textIs(t, at, "river", riverOracle(at.River))
	}
}

func TestPartsThatAreNotValidHaveNoText(t *testing.T) {
	failed := all("", false)
	for _, h := range invalidHills() {
		wantResults(t, all(impl.HillText(h)), failed, "HillText", hillText(h))
	}
	for _, s := range invalidSoils() {
		wantResults(t, all(impl.SoilText(s)), failed, "SoilText", s)
	}
	for _, s := range invalidSections() {
		wantResults(t, all(impl.SectionText(s)), failed, "SectionText", s)
	}
	for _, r := range wrongRivers() {
		wantResults(t, all(impl.RiverText(r)), failed, "RiverText", r)
	}
	for _, n := range ints(impl.MaxValue, impl.MaxValue+1, -impl.MaxValue-1, math.MaxInt64, math.MinInt64) {
		for _, r := range rivers(dryRiver(n), dryRiver(-1, n), single(dam(n, 0, 0, 0), 0), single(dam(0, 0, n, 0), 0), single(dam(5, 0, 0, n), 0), single(dam(0, 0, 0, 0), n)) {
			wantResults(t, all(impl.RiverText(r)), failed, "RiverText", r)
		}
	}
}

// failsToRead checks that a text is that of no part with this name.
func failsToRead(t *testing.T, name string, texts ...string) {
	t.Helper()
	for _, p := range partTexts {
		if p.name != name {
			continue
		}
		for _, text := range texts {
			wantFailed(t, p.read(text), "read "+name, text[:min(len(text), 60)])
			wantThat(t, p.read(text)[1].(bool) || p.oracle(text)[1].(bool), false, "read "+name, text[:min(len(text), 60)])
		}
	}
}

func TestOtherTextsAreThoseOfNoHill(t *testing.T) {
	failsToRead(t, "hill",
		"", ";", ";;", "none", "none;none", "1,1", "1,1;", ";00000000", "1,1;none", "none;00000000", "00000000", "1,1,00000000", "1;1;00000000", "1,1;00000000;", ";1,1;00000000", "1,1;;00000000", "1,1;00000000;00000000", "1,1;00000000,", "1,1;,00000000", "1,1,;00000000", ",1,1;00000000", "1,,1;00000000", "1,1/00000000", "1/1;00000000", "1,1;00000000/",
		"01,1;00000000", "1,01;00000000", "+1,1;00000000", "1,+1;00000000", "1, 1;00000000", "1,1; 00000000", " 1,1;00000000", "1,1;00000000 ", "1,1;00000000\n", "\n1,1;00000000", "1,1;00000000\x00", "1,1\n;00000000", "1,1;0", "1,1;0000000", "1,1;000000000", "1,1;3F800000", "1,1;3f80000G", "1,1;0x000000", "1,1;+0000000", "1,1;-0000000", "1,1;00000000,none", "1.0,1;00000000", "1e0,1;00000000", "one,1;00000000",
		"1;00000000", "1,1,1;00000000", "1,2;00000000", "2,1;00000000", "1,1;00000000,00000000", "2,2;00000000,00000000,00000000", "2,2;00000000,00000000,00000000,00000000,00000000", "0,0;none", "0,1;none", "1,0;none", "-1,-1;00000000", "-1,1;00000000", "-1,-2;00000000,00000000", "17,1;"+strings.Repeat("00000000,", 16)+"00000000", "1,17;"+strings.Repeat("00000000,", 16)+"00000000", "16,16;"+strings.Repeat("00000000,", 256)+"00000000", "16,17;"+strings.Repeat("00000000,", 271)+"00000000", "32,8;"+strings.Repeat("00000000,", 255)+"00000000",
		"1,1;7f800000", "1,1;ff800000", "1,1;7fc00000", "1,1;ffc00000", "1,1;7fc00001", "1,2;00000000,7f800000", "1000000000000001,1;00000000", "4294967297,1;00000000", "18446744073709551617,1;00000000", "1,1;100000000", "１,1;00000000", "1,1;0000000\xff", strings.Repeat(";", 1<<20), strings.Repeat("1,1;00000000", 1<<16),
	)
}

func TestOtherTextsAreThoseOfNoSoilOrSection(t *testing.T) {
	one, zero := "3f800000", "00000000"
	soil, section := strings.Join([]string{one, one, one, one, one}, ","), strings.Join([]string{one, one, one, one}, ",")
	for _, c := range []struct{ name, text, other string }{{"soil", soil, section}, {"section", section, soil}} {
		failsToRead(t, c.name,
			"", ",", ";", "none", "none,"+c.text, c.text+",none", c.other, one, c.text+",", ","+c.text, c.text+","+one+","+one, strings.Replace(c.text, ",", ",,", 1), strings.Replace(c.text, ",", ";", 1), strings.Replace(c.text, ",", "/", 1), strings.Replace(c.text, ",", ", ", 1), c.text+";", ";"+c.text, " "+c.text, c.text+" ", c.text+"\n", c.text+"\x00", strings.ToUpper(c.text), c.text[1:], c.text[:len(c.text)-1], c.text+"0", "0"+c.text, strings.ReplaceAll(c.text, one, "1"), strings.ReplaceAll(c.text, one, "none"), strings.Repeat(c.text, 1<<15), strings.Repeat(",", 4), c.text[9:],
		)
		for i := range strings.Count(c.text, ",") + 1 {
			for _, bad := range []string{"bf800000", "80000001", "7f800000", "ff800000", "7fc00000", "7fc00001", "ffffffff", "none", "", "3F800000", "1"} {
				failsToRead(t, c.name, strings.Join(with(strings.Split(c.text, ","), i, bad), ","))
			}
		}
	}
	failsToRead(t, "soil", strings.Join([]string{one, one, one, one, "3f800001"}, ","), strings.Join([]string{one, one, zero, one, "00000001"}, ","))
	failsToRead(t, "section", strings.Join([]string{zero, zero, one, one}, ","), strings.Join([]string{zero, "80000000", one, one}, ","), strings.Join([]string{one, one, zero, one}, ","), strings.Join([]string{one, one, one, "80000000"}, ","))
}

func TestOtherTextsAreThoseOfNoRiver(t *testing.T) {
	failsToRead(t, "river",
		"", ";", ";;", ";;;", "none", "none;none", "none;none;none", "-1;none;0", "none;0,0,0,0;0", "-1;0,0,0,0;none", "none;0,0,0,0;none", "-1;0,0,0,0", "0,0,0,0;0", "-1;;0", ";0,0,0,0;0", "-1;0,0,0,0;", "-1;0;0,0,0,0", "-1;0,0,0,0;0;", ";-1;0,0,0,0;0", "-1;;0,0,0,0;0", "-1;0,0,0,0;;0", "-1;0,0,0,0;0;0", "-1/0,0,0,0;0", "-1;0,0,0,0/0", "-1,0,0,0,0,0",
		"-1;0,0,0,0/;0", "-1;/0,0,0,0;0", "-1;0,0,0,0/none;0", "-1;none/0,0,0,0;0", "1,-1;0,0,0,0//0,0,0,0;0,0", "1,-1;0,0,0,0,0,0,0,0;0,0", "1,-1;0,0,0,0;0,0,0,0;0,0", "1/-1;0,0,0,0/0,0,0,0;0/0", "1,-1;0,0,0,0/0,0,0,0;0/0", "-1;0,0,0/0;0", "1,-1;0,0,0/0,0,0,0,0;0,0", "1,-1;0,0,0,0,0/0,0,0;0,0",
		"-1;0,0,0;0", "-1;0,0,0,0,0;0", "-1;0,0,0,;0", "-1;,0,0,0;0", "-1;0,,0,0;0", "-1,;0,0,0,0;0", "-1;0,0,0,0;0,", "-1;0,0,0,0;,0", "-1;0,0,0,0;0/", "-1;0,0,0,0;0,0", "-1;0,0,0,0/0,0,0,0;0", "-1,-1;0,0,0,0;0", "-1,-1;0,0,0,0/0,0,0,0;0", "-1,-1;0,0,0,0;0,0", "-1;0,0,0,0/0,0,0,0;0,0", "1,-1;0,0,0,0/0,0,0,0/0,0,0,0;0,0",
		"-01;0,0,0,0;0", "-1;00,0,0,0;0", "-1;0,0,0,00;0", "-1;0,0,0,0;00", "-1;-0,0,0,0;0", "-1;+0,0,0,0;0", "-1;0,0,0,0;-0", "-1;0,0,0,0;+5", "-1;05,0,0,0;0", "-1;0,0,0,0;05", "-1; 0,0,0,0;0", "-1;0,0,0,0; 0", " -1;0,0,0,0;0", "-1;0,0,0,0;0 ", "-1;0,0,0,0;0\n", "-1;0,0,0,0;0\x00", "-1;0,0,0,0\n;0", "-1;0,0,0,a;0", "-1;0x0,0,0,0;0", "-1;0.0,0,0,0;0", "–1;0,0,0,0;0",
		"0;0,0,0,0;0", "1;0,0,0,0;0", "-2;0,0,0,0;0", "1,0;0,0,0,0/0,0,0,0;0,0", "-1;5,6,0,0;0", "-1;5,0,0,6;0", "-1;-1,0,0,0;0", "-1;5,-1,0,0;0", "-1;5,0,-1,0;0", "-1;5,0,0,-1;0", "-1;1000000001,0,0,0;0", "-1;0,0,1000000001,0;0", "-1;0,0,0,0;1000000001", "-1;0,0,0,0;-1", "-1;0,0,0,0;1000000000000001", "-1;0,0,0,0;4294967296", "-1;0,0,0,0;18446744073709551616", "1000000000000001;0,0,0,0;0",
		riverOracle(lineTo(13)), riverOracle(lineTo(64)), riverOracle(lineTo(65)), riverOracle(noRiver), strings.Repeat(";", 1<<20), ";"+strings.Repeat("/", 1<<20)+";", "-1;"+strings.Repeat("0,0,0,0/", 1<<16)+"0,0,0,0;0", strings.Repeat("-1;0,0,0,0;0", 1<<16),
	)
}

// Texts that differ a little from those of parts are mostly those of none, and
// otherwise those of other ones.
func TestTextsThatAreBent(t *testing.T) {
	d := drawer(802)
	for _, p := range partTexts {
		read, lost := 0, 0
		for range 3000 {
			text := d.bent(d.text(p.name))
			want := p.oracle(text)
			got := p.read(text)
			wantResults(t, got, want, "read "+p.name, text)
			if !want[1].(bool) {
				wantFailed(t, got, "read "+p.name, text)
				lost++
				continue
			}
			read++
		}
		wantThat(t, read > 50 && lost > 500, true, "texts that are bent", p.name, read, lost)
	}
}

func TestEachByteOfATextOfAPartIsRead(t *testing.T) {
	at := fullDesk()
	for _, p := range partTexts {
		text := p.text(at)[0].(string)
		for i := range text {
			wantResults(t, p.read(text[:i]), p.oracle(text[:i]), "read "+p.name+" that is cut", text[:i])
			wantResults(t, p.read(text+text[i:i+1]), p.oracle(text+text[i:i+1]), "read "+p.name+" with a byte behind", text)
			for b := range 256 {
				bent := text[:i] + string([]byte{byte(b)}) + text[i+1:]
				wantResults(t, p.read(bent), p.oracle(bent), "read "+p.name, bent)
			}
		}
	}
}

// What is read of two texts is apart.
func TestPartsThatAreReadAreNewEachTime(t *testing.T) {
	at := fullDesk()
	for _, p := range partTexts {
		text := p.text(at)[0].(string)
		first := p.read(text)
		before := told(first...)
		spoil(p.read(text))
		wantThat(t, told(first...), before, "read "+p.name)
	}
	r, _ := impl.ReadRiver(riverOracle(valley()))
	before := fmt.Sprint(r.Dams, r.Wants)
	spoil(all(r.Downs))
	wantThat(t, fmt.Sprint(r.Dams, r.Wants), before, "dams and wants that are read")
}
