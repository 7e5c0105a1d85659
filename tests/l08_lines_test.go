package tests

import (
	"fmt"
	"strings"
	"testing"

	"loop.example/g01302/impl"
)

func TestNewDesk(t *testing.T) {
	d := impl.NewDesk()
	wantThat(t, deskBits(d), deskBits(freshDesk()), "NewDesk")
	wantThat(t, impl.ValidDesk(d) && impl.SameDesk(d, freshDesk()), true, "NewDesk is valid")
	spoil(all(impl.NewDesk()))
	wantThat(t, deskBits(impl.NewDesk()), deskBits(freshDesk()), "NewDesk again")
	wantThat(t, deskBits(d), deskBits(freshDesk()), "the first one")
}

func TestValidDesk(t *testing.T) {
	for _, d := range []impl.Desk{freshDesk(), fullDesk(), desk(evenHill(16, 16, greatest), soil(0, 0, 0, 0, 0), section(0, tiniest, 1, 1), lineTo(12)), desk(evenHill(1, 1, minusZero), soil(minusZero, 0, 2, 0, 2), section(tiniest, minusZero, 1, 1), dryRiver(-1))} {
		wantThat(t, impl.ValidDesk(d), true, "ValidDesk", deskBits(d))
	}
	for _, d := range wrongDesks() {
		wantThat(t, impl.ValidDesk(d) || validDeskOracle(d), false, "ValidDesk", deskBits(d))
	}
	draw := drawer(810)
	for range 1000 {
		wantThat(t, impl.ValidDesk(draw.desk()), true, "ValidDesk")
	}
}

// otherHills, and so on, differ in one thing from a part of fullDesk.
func otherHills() []impl.Hill {
	h := fullDesk().Hill
	list := []impl.Hill{noHill, hill(3, 4, h.Heights...), hill(4, 4, h.Heights...), hill(h.Wide, -h.High, h.Heights...), hill(4, 3, h.Heights[:11]...), hill(4, 3, append(h.Heights[:12:12], 0)...), hill(4, 3)}
	for i, x := range h.Heights {
		list = append(list, hill(4, 3, with(h.Heights, i, -x)...), hill(4, 3, with(h.Heights, i, number(bits(x)^1))...), hill(4, 3, with(h.Heights, i, notANumber)...))
	}
	return list
}

func otherFields(fields []float32) [][]float32 {
	var list [][]float32
	for i, x := range fields {
		list = append(list, with(fields, i, -x), with(fields, i, number(bits(x)^1)), with(fields, i, infinity), with(fields, i, notANumber))
	}
	return list
}

func otherRivers() []impl.River {
	r := valley()
	list := rivers(noRiver, river(r.Downs[:4], r.Dams, r.Wants), river(r.Downs, r.Dams[:4], r.Wants), river(r.Downs, r.Dams, r.Wants[:4]), river(append(r.Downs[:5:5], -1), r.Dams, r.Wants), river(r.Downs, append(r.Dams[:5:5], impl.Dam{}), r.Wants), river(r.Downs, r.Dams, append(r.Wants[:5:5], 0)))
	for i, d := range r.Dams {
		list = append(list, withDown(r, i, r.Downs[i]+1), withWant(r, i, r.Wants[i]-1))
		for _, other := range []impl.Dam{dam(d.Size+1, d.Dead, d.Least, d.Now), dam(d.Size, d.Dead+1, d.Least, d.Now), dam(d.Size, d.Dead, d.Least+1, d.Now), dam(d.Size, d.Dead, d.Least, d.Now-1)} {
			list = append(list, withDam(r, i, other))
		}
	}
	return list
}

func TestSameDesk(t *testing.T) {
	d := fullDesk()
	var others []impl.Desk
	for _, h := range otherHills() {
		others = append(others, withHill(d, h))
	}
	for _, f := range otherFields(soilFields(d.Soil)) {
		others = append(others, withSoil(d, soilOf(f)))
	}
	for _, f := range otherFields(sectionFields(d.Section)) {
		others = append(others, withSection(d, sectionOf(f)))
	}
	for _, r := range otherRivers() {
		others = append(others, withRiver(d, r))
	}
	for _, other := range append(others, noDesk, freshDesk()) {
		wantThat(t, impl.SameDesk(d, other) || impl.SameDesk(other, d), false, "SameDesk", deskBits(other))
		wantThat(t, impl.SameDesk(other, ownDesk(other)), true, "SameDesk of itself", deskBits(other))
	}
	wantThat(t, impl.SameDesk(d, ownDesk(d)) && impl.SameDesk(d, roomyDesk(d)) && impl.SameDesk(noDesk, noDesk), true, "SameDesk")
	wrong := wrongDesks()
	for i, a := range wrong {
		b := wrong[(i*7+3)%len(wrong)]
		wantThat(t, impl.SameDesk(a, ownDesk(a)), true, "SameDesk of what is not valid", deskBits(a))
		wantThat(t, impl.SameDesk(a, b), deskBits(a) == deskBits(b), "SameDesk", deskBits(a), deskBits(b))
	}
	nothing := func(bits uint32) impl.Desk {
		x := number(bits)
		return desk(hill(1, 1, x), soil(x, x, x, x, x), section(x, x, x, x), noRiver)
	}
	wantThat(t, impl.SameDesk(nothing(0x7fc00000), nothing(0xff800001)), true, "SameDesk of unequal not-a-numbers")
	wantThat(t, impl.SameDesk(nothing(0), nothing(0x80000000)), false, "SameDesk of unequal zeros")
}

// The lines of the table, each at a desk, with what they output and do.
func TestLinesByHand(t *testing.T) {
	fresh, full := freshDesk(), fullDesk()
	pit := withHill(fresh, hill(3, 3, 4, 3, 2, 4, 1, 2, 4, 3, 2))
	flat := withHill(fresh, hill(3, 3, 4, 3, 2, 4, 2, 2, 4, 3, 2))
	dammed := withRiver(fresh, river(ints(1, -1), []impl.Dam{dam(5, 0, 0, 0), dam(0, 0, 0, 0)}, ints(2, 0)))
	for _, c := range []struct {
		at     impl.Desk
		line   string
		behind impl.Desk
		output string
	}{
		{fresh, "hill", fresh, "3,3;40800000,40400000,40000000,40800000,40400000,40000000,40800000,40400000,40000000"},
		{fresh, "soil", fresh, "3f800000,00000000,40800000,3e800000,00000000"},
		{fresh, "section", fresh, "40000000,00000000,3a800000,3d000000"},
		{fresh, "river", fresh, "1,-1;0,0,0,0/0,0,0,0;0,0"},
		{full, "hill", full, "4,3;40a00000,40c00000,40e00000,41100000,40a00000,3f800000,40000000,41000000,40800000,40600000,40c00000,80000000"},
		{full, "soil", full, "40000000,40400000,40c00000,3f000000,3f800000"},
		{full, "section", full, "40400000,3fc00000,3a83126f,3cf5c28f"},
		{full, "river", full, "2,2,4,-1,-1;20,3,5,2/9,0,1,9/30,4,2,4/7,7,0,6/50,10,8,12;4,0,6,3,11"},
		{fresh, "hill 1,2;80000000,00000001", withHill(fresh, hill(1, 2, minusZero, tiniest)), "ok"},
		{full, "hill 1,1;7f7fffff", withHill(full, hill(1, 1, greatest)), "ok"},
		{fresh, "soil 80000000,3f800000,40000000,00000001,40000000", withSoil(fresh, soil(minusZero, 1, 2, tiniest, 2)), "ok"},
		{full, "section 80000000,3f800000,00000001,40000000", withSection(full, section(minusZero, 1, tiniest, 2)), "ok"},
		{fresh, "river -1;0,0,0,0;3", withRiver(fresh, single(dam(0, 0, 0, 0), 3)), "ok"},
		{full, "river -1,0;5,1,2,3/0,0,9,0;7,1000000000", withRiver(full, river(ints(-1, 0), []impl.Dam{dam(5, 1, 2, 3), dam(0, 0, 9, 0)}, ints(7, 1000000000))), "ok"},
		{fresh, "fill", fresh, "ok"}, {pit, "fill", flat, "ok"}, {full, "fill", withHill(full, hill(4, 3, with(full.Hill.Heights, 5, 2)...)), "ok"},
		{fresh, "hollow", fresh, "00000000"}, {pit, "hollow", pit, "3f800000"}, {full, "hollow", full, "3f800000"},
		{fresh, "dig 4 40000000", pit, "ok"}, {fresh, "dig none 40000000", fresh, "ok"}, {fresh, "dig 0,4,8 80000000", fresh, "ok"}, {pit, "dig 4 bf800000", flat, "ok"}, {full, "dig 5 3f800000", withHill(full, hill(4, 3, with(full.Hill.Heights, 5, 0)...)), "ok"},
		{fresh, "ways", fresh, "1,2,-1,4,5,-1,7,8,-1"}, {fresh, "basins", fresh, "3"}, {withHill(fresh, hill(1, 1, 5)), "ways", withHill(fresh, hill(1, 1, 5)), "-1"}, {withHill(fresh, hill(1, 1, 5)), "basins", withHill(fresh, hill(1, 1, 5)), "1"},
		{fresh, "fall 3f000000 3f800000", withSoil(fresh, soil(1, 0, 4, 0.25, 0.375)), "00000000,3e000000"}, {fresh, "fall 40400000 40000000", withSoil(fresh, soil(1, 0, 4, 0.25, 1)), "3f800000,3f800000"}, {fresh, "fall 00000000 3f800000", fresh, "00000000,00000000"}, {full, "fall 80000000 3f800000", withSoil(full, soil(2, 3, 6, 0.5, 0.5)), "00000000,3f000000"},
		{fresh, "take", fresh, "3f800000"}, {full, "take", full, "40a00000"},
		{fresh, "back 3f800000 3f800000 3f800000 0", fresh, "none"},
		{fresh, "want 0 2", withRiver(fresh, withWant(fresh.River, 0, 2)), "ok"}, {fresh, "want 1 1000000000", withRiver(fresh, withWant(fresh.River, 1, 1000000000)), "ok"}, {full, "want 4 0", withRiver(full, withWant(full.River, 4, 0)), "ok"},
		{withRiver(fresh, withWant(fresh.River, 0, 2)), "dam 0 5,0,0,0", dammed, "ok"}, {full, "dam 4 1,1,1000000000,0", withRiver(full, withDam(full.River, 4, dam(1, 1, 1000000000, 0))), "ok"},
		{dammed, "day 8,0", withRiver(dammed, withDam(dammed.River, 0, dam(5, 0, 0, 5))), "2,0"}, {dammed, "day 1,3", dammed, "1,0"}, {fresh, "day 1000000000,1000000000", fresh, "0,0"},
		{fresh, "order", fresh, "0,1"}, {full, "order", full, "0,1,2,3,4"}, {fresh, "stored", fresh, "0"}, {full, "stored", full, "33"},
	} {
		commandIs(t, c.at, c.line, c.behind, c.output)
		behind, output := lineOracle(c.at, c.line)
		wantResults(t, all(behind, output), all(c.behind, c.output), "the oracle", c.line)
	}
}

// hex is the text of a list of one number, as the functions of chapter 4 tell it.
func hex(x float32, ok bool) string {
	if !ok {
		return "no"
	}
	return fmt.Sprintf("%08x", bits(x))
}

// Lines that ask channels output what the functions tell, and change nothing.
func TestLinesThatAskChannels(t *testing.T) {
	d := drawer(811)
	told := 0
	for range 400 {
		at := d.desk()
		s, x, long, count := at.Section, d.orOdd(d.length(amountKinds)), d.orOdd(d.length(tame)), int64(d.next()%7)-1
		depth := d.orOdd(d.depth(s, x))
		commandIs(t, at, "normal "+hex(x, true), at, hex(impl.NormalDepth(s, x)))
		commandIs(t, at, "critical "+hex(x, true), at, hex(impl.CriticalDepth(s, x)))
		commandIs(t, at, "flow "+hex(x, true), at, hex(impl.FlowAt(s, x)))
		output := "no"
		if depths, ok := impl.BackWater(s, depth, x, long, count); ok {
			output = hexOracle(depths)
			told++
		}
		commandIs(t, at, fmt.Sprintf("back %08x %08x %08x %d", bits(depth), bits(x), bits(long), count), at, output)
	}
	wantThat(t, told > 100, true, "backwaters", told)
	depths, ok := impl.BackWater(ditch(), 3, 1, 4, impl.MaxReach)
	wantThat(t, ok, true, "BackWater")
	commandIs(t, freshDesk(), "back 40400000 3f800000 40800000 64", freshDesk(), hexOracle(depths))
	commandIs(t, freshDesk(), "back 40400000 3f800000 40800000 65", freshDesk(), "no")
	commandIs(t, freshDesk(), "back 3c23d70a 3f800000 40800000 1", freshDesk(), "no")
}

// A list has at most MaxItems numbers, so that the ways of greater hills are none.
func TestWaysOfGreatHills(t *testing.T) {
	for wide := int64(1); wide <= impl.MaxSide; wide++ {
		for high := int64(1); high <= impl.MaxSide; high++ {
			slope, _ := impl.SlopeHill(wide, high, 5, -1, -2)
			at := withHill(freshDesk(), slope)
			ways, _ := impl.RunWays(slope)
			_, basins, _ := impl.BasinsOf(slope, ways)
			output := "no"
			if wide*high <= impl.MaxItems {
				output = listOracle(ways)
			}
			commandIs(t, at, "ways", at, output)
			commandIs(t, at, "basins", at, impl.Decimal(basins))
		}
	}
}

// Lines of a form whose words are wrong, or whose functions fail, are refused.
func TestLinesThatAreRefused(t *testing.T) {
	for _, at := range []impl.Desk{freshDesk(), fullDesk()} {
		for _, line := range []string{
			"hill ", "soil ", "section ", "river ", "hill none", "soil none", "section none", "river none", "hill hill", "soil soil", "hill 1,1;7f800000", "hill 17,1;" + strings.Repeat("00000000,", 16) + "00000000", "hill 1,2;00000000", "hill 1,1;00000000\n", "hill \n", "hill 3f800000,00000000,40800000,3e800000,00000000", "soil 40000000,00000000,3a800000,3d000000", "section 3f800000,00000000,40800000,3e800000,00000000", "soil 3f800000,00000000,40800000,3e800000,40800001", "soil 3F800000,00000000,40800000,3e800000,00000000", "section 00000000,80000000,3a800000,3d000000", "section 40000000,00000000,00000000,3d000000", "river 0;0,0,0,0;0", "river -1;0,0,0;0", "river -1;5,6,0,0;0", "river -1;0,0,0,0;1000000001", "river 1,-1;0,0,0,0/0,0,0,0;0,0\x00", "river -1;none;0", "river -1;0,0,0,0;",
			"dig  ", "dig  3f800000", "dig 0 ", "dig 0 none", "dig 0 3f800000,3f800000", "dig 0 3f80000", "dig 0 1", "dig 12 3f800000", "dig -1 3f800000", "dig 1,0 3f800000", "dig 0,0 3f800000", "dig 0,1,12 3f800000", "dig 0, 3f800000", "dig 00 3f800000", "dig 0 7f800000", "dig 0 7fc00000", "dig none 7f800000", "dig 0 3F800000", "dig x 3f800000", "dig 3f800000 0", "dig 0 3f800000\n", "dig 0;1 3f800000", "dig 0/1 3f800000", "dig None 3f800000", "dig " + listOracle(alike(65, int64(0))) + " 3f800000",
			"fall  ", "fall 3f800000 ", "fall  3f800000", "fall none 3f800000", "fall 3f800000 none", "fall 3f800000,3f800000 3f800000", "fall 3f800000 3f800000,3f800000", "fall bf800000 3f800000", "fall 3f800000 bf800000", "fall 3f800000 00000000", "fall 3f800000 80000000", "fall 7f800000 3f800000", "fall 3f800000 7f800000", "fall 7fc00000 3f800000", "fall 3f800000 7fc00000", "fall 1 1", "fall 3f800000 3f80000", "fall 3f800000 3f800000\n",
			"normal ", "critical ", "flow ", "normal none", "critical none", "flow none", "normal 00000000", "critical 00000000", "flow 00000000", "normal 80000000", "critical bf800000", "flow bf800000", "normal 7f800000", "critical 7f800000", "flow 7f800000", "normal 7fc00000", "critical 7fc00000", "flow 7fc00000", "normal 3f800000,3f800000", "critical 3f800000,3f800000", "flow 3f800000,3f800000", "normal 1", "critical 1.5", "flow x", "flow 7f7fffff", "normal 3f800000\n", "critical 3F800000", "flow +3f80000",
			"back    ", "back 40400000 3f800000 40800000 ", "back  3f800000 40800000 1", "back 40400000  40800000 1", "back 40400000 3f800000  1", "back 40400000 3f800000 40800000 -1", "back 40400000 3f800000 40800000 65", "back 40400000 3f800000 40800000 01", "back 40400000 3f800000 40800000 +1", "back 40400000 3f800000 40800000 -0", "back 40400000 3f800000 40800000 none", "back 40400000 3f800000 40800000 1,2", "back 40400000 3f800000 40800000 3f800000", "back 40400000 3f800000 40800000 1000000000000001", "back none 3f800000 40800000 1", "back 40400000 none 40800000 1", "back 40400000 3f800000 none 1", "back 40400000,40400000 3f800000 40800000 1", "back 00000000 3f800000 40800000 1", "back 40400000 00000000 40800000 1", "back 40400000 3f800000 00000000 1", "back 00000000 3f800000 40800000 0", "back 40400000 bf800000 40800000 0", "back 40400000 3f800000 7f800000 0", "back 3c23d70a 3f800000 40800000 1", "back 1 40400000 3f800000 40800000",
			"want  ", "want 0 ", "want  0", "want -1 0", "want 5 0", "want 12 0", "want 0 -1", "want 0 1000000001", "want 00 0", "want 0 00", "want 0 -0", "want +0 0", "want 0 +5", "want 0 05", "want none 0", "want 0 none", "want 0,1 0", "want 0 0,1", "want 0 1000000000000001", "want 1000000000000001 0", "want 4294967296 0", "want 0 0\n", "want 0 x", "want 0 1.0", "want 00000000 0",
			"dam  ", "dam 0 ", "dam  0,0,0,0", "dam 0 0,0,0", "dam 0 0,0,0,0,0", "dam 0 none", "dam 0 0", "dam 0 5,6,0,0", "dam 0 5,0,0,6", "dam 0 -1,0,0,0", "dam 0 5,-1,0,0", "dam 0 5,0,-1,0", "dam 0 5,0,0,-1", "dam 0 1000000001,0,0,0", "dam 0 0,0,1000000001,0", "dam -1 0,0,0,0", "dam 5 0,0,0,0", "dam 12 0,0,0,0", "dam 00 0,0,0,0", "dam 0 00,0,0,0", "dam 0 0,0,0,0,", "dam 0 0,0,0,0/0,0,0,0", "dam 0,1 0,0,0,0", "dam none 0,0,0,0", "dam 0,0,0,0 0", "dam 0 0,0,0,0\n", "dam 0 0;0;0;0", "dam 0 1000000000000001,0,0,0",
			"day ", "day none", "day 0", "day 0,0,0", "day 0,0,0,0", "day 0,0,0,0,0,0", "day 0,-1", "day 1000000001,0", "day 0,0,0,0,-1", "day 0,0,0,0,1000000001", "day 1,", "day 01,0", "day +1,0", "day 1,0\n", "day 1;0", "day 3f800000,00000000", "day None", "day 1000000000000001,0", "day " + listOracle(alike(65, int64(0))),
		} {
			commandIs(t, at, line, at, "no")
			behind, output := lineOracle(at, line)
			wantResults(t, all(behind, output), all(at, "no"), "the oracle", line)
		}
	}
}

// Functions fail, too, where only the desk is such a one.
func TestLinesThatFailAtSomeDesks(t *testing.T) {
	fresh := freshDesk()
	steep := withHill(fresh, hill(3, 3, greatest, greatest, greatest, greatest, -greatest, greatest, greatest, greatest, greatest))
	cliff := withHill(fresh, hill(2, 1, greatest, -greatest))
	thirsty := withSoil(fresh, soil(greatest, greatest, 4, 0, 0))
	for _, c := range []struct {
		at   impl.Desk
		line string
	}{
		{steep, "hollow"}, {cliff, "ways"}, {cliff, "basins"}, {withHill(fresh, hill(1, 1, greatest)), "dig 0 ff7fffff"}, {withHill(fresh, hill(1, 1, -greatest)), "dig 0 7f7fffff"},
		{thirsty, "take"}, {thirsty, "fall 3f800000 3f800000"}, {thirsty, "fall 00000000 3f800000"},
		{withSection(fresh, section(greatest, greatest, greatest, tiniest)), "normal 3f800000"}, {withSection(fresh, section(greatest, greatest, 1, 1)), "critical 3f800000"}, {withSection(fresh, section(greatest, 0, 1, tiniest)), "flow 3f800000"},
		{withRiver(fresh, dryRiver(-1)), "want 1 0"}, {withRiver(fresh, dryRiver(-1)), "dam 1 0,0,0,0"}, {withRiver(fresh, dryRiver(-1)), "day 0,0"}, {withRiver(fresh, lineTo(12)), "day 0,0,0,0,0,0,0,0,0,0,0"},
	} {
		commandIs(t, c.at, c.line, c.at, "no")
		behind, output := lineOracle(c.at, c.line)
		wantResults(t, all(behind, output), all(c.at, "no"), "the oracle", c.line)
	}
	commandIs(t, steep, "fill", withHill(steep, evenHill(3, 3, greatest)), "ok")
	commandIs(t, withRiver(fresh, lineTo(12)), "want 11 5", withRiver(fresh, withWant(lineTo(12), 11, 5)), "ok")
}

func TestLinesOfOtherForms(t *testing.T) {
	lines := []string{
		"", " ", "  ", "\n", "\t", "\x00", "\xff", "nothing", "what", "no", "ok", "x y", "hillock", "hil", "hill1,1;00000000", "hill\t1,1;00000000", "hill,1", "hill\n", "\nhill", "hill\x00", "fill\r", "fill\n", "order\n", "é", "hills", "days 1,0", "DAY 1,0", "Hill", "ORDER", "0", "3f800000", "hill;1,1;00000000", "order,", "ｏrder", "stored\u00a0", "take\v", "hill soil section", "soil hill 1", "fill hill", "take take", "order river", "stored 0",
	}
	for _, f := range lineForms {
		name, rest, _ := strings.Cut(f.form, " ")
		words := strings.Split(f.form, " ")
		lines = append(lines, " "+f.form, f.form+" x y z u v", f.form+"  ", f.form+" 1 1 1 1 1", strings.ToUpper(f.form), strings.ToUpper(name[:1])+f.form[1:], name[1:]+" "+rest, name[:len(name)-1]+f.form[len(name):], name+"s"+f.form[len(name):], name+"\n"+f.form[len(name):], "\n"+f.form, strings.Join(words, "\t")+"\t")
		// with a word too few, or too many, unless this is another form
		for count := range 7 {
			if count != len(words)-1 && !(count < 2 && (name == "hill" || name == "soil" || name == "section" || name == "river")) {
				for _, word := range []string{"", "0", "3f800000", "x", "none"} {
					lines = append(lines, name+strings.Repeat(" "+word, count))
				}
			}
		}
	}
	for _, at := range []impl.Desk{freshDesk(), fullDesk()} {
		for _, line := range lines {
			commandIs(t, at, line, at, "what")
			behind, output := lineOracle(at, line)
			wantResults(t, all(behind, output), all(at, "what"), "the oracle", line)
		}
	}
	commandIs(t, freshDesk(), strings.Repeat(" ", 1<<20), freshDesk(), "what")
	commandIs(t, freshDesk(), strings.Repeat("hill ", 1<<18), freshDesk(), "what")
	commandIs(t, freshDesk(), "hill "+strings.Repeat("x", 1<<20), freshDesk(), "no")
}

// Each form has its number of words: what is right with it is of another form
// with a word less or more.
func TestWordsThatAreLeftOutOrPutIn(t *testing.T) {
	d := drawer(812)
	for range 20 {
		at := d.desk()
		for _, f := range lineForms {
			words := d.words(at, f.form)
			for i := range words {
				for _, line := range []string{strings.Join(append(words[:i:i], words[i+1:]...), " "), strings.Join(append(append(words[:i:i], ""), words[i:]...), " "), strings.Join(append(append(words[:i:i], words[i]), words[i:]...), " ")} {
					behind, output := lineOracle(at, line)
					commandIs(t, at, line, behind, output)
					if i > 0 && len(words) > 2 {
						wantThat(t, output, "what", "a line of another form", line)
					}
				}
				empty := strings.Join(with(words, i, ""), " ")
				output := "no"
				if i == 0 {
					output = "what"
				}
				commandIs(t, at, empty, at, output)
			}
			commandIs(t, at, " "+strings.Join(words, " "), at, "what")
		}
	}
}

// All kinds of lines at all kinds of desks do what the oracle tells.
func TestLinesOfAllKinds(t *testing.T) {
	d := drawer(813)
	done, refused, unknown := map[string]int{}, map[string]int{}, 0
	for range 9000 {
		at := d.desk()
		line, form := d.line(at)
		behind, output := lineOracle(at, line)
		commandIs(t, at, line, behind, output)
		switch output {
		case "no":
			refused[form]++
		case "what":
			unknown++
		default:
			done[form]++
		}
		if output == "no" || output == "what" {
			wantThat(t, deskBits(behind), deskBits(at), "a line that changes nothing", line)
		}
	}
	for _, f := range lineForms {
		wantThat(t, done[f.form] > 60, true, "lines that do something", f.form, done[f.form])
		if strings.Contains(f.form, " ") {
			wantThat(t, refused[f.form] > 20, true, "lines that are refused", f.form, refused[f.form])
		}
	}
	wantThat(t, unknown > 500, true, "lines of other forms", unknown)
}

func TestDeskCommandFailsAtWrongDesks(t *testing.T) {
	lines := []string{"", "what", "hill"}
	d := drawer(815)
	for _, f := range lineForms {
		lines = append(lines, strings.Join(d.words(freshDesk(), f.form), " "))
	}
	for _, at := range wrongDesks() {
		for _, line := range lines {
			wantResults(t, all(impl.DeskCommand(at, line)), all(noDesk, "", false), "DeskCommand", deskBits(at), line)
		}
	}
}

// A desk can be brought back to what it was by its own texts.
func TestPartsAreSetToTheirTexts(t *testing.T) {
	d := drawer(814)
	for range 300 {
		at, from := d.desk(), d.desk()
		for _, name := range []string{"hill", "soil", "section", "river"} {
			_, text, ok := impl.DeskCommand(from, name)
			wantThat(t, ok, true, "DeskCommand", name)
			behind, output, ok := impl.DeskCommand(at, name+" "+text)
			wantThat(t, ok && output == "ok", true, "DeskCommand", name, text)
			at = behind
		}
		wantThat(t, impl.SameDesk(at, from), true, "a desk with all parts of another one", deskBits(from))
	}
}
