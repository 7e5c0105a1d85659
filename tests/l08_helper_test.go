package tests

import (
	"fmt"
	"slices"
	"strings"
	"testing"

	"loop.example/g01302/impl"
)

func desk(h impl.Hill, s impl.Soil, c impl.Section, r impl.River) impl.Desk {
	return impl.Desk{Hill: h, Soil: s, Section: c, River: r}
}

// freshDesk is a new desk, as the document tells it.
func freshDesk() impl.Desk {
	return desk(hill(3, 3, 4, 3, 2, 4, 3, 2, 4, 3, 2), soil(1, 0, 4, 0.25, 0), ditch(), dryRiver(1, -1))
}

// fullDesk is a desk of which all numbers are used: its hill has a hollow, its
// soil sucks, its section has banks, and its river has two outlets.
func fullDesk() impl.Desk {
	return desk(hill(4, 3, 5, 6, 7, 9, 5, 1, 2, 8, 4, 3.5, 6, minusZero), soil(2, 3, 6, 0.5, 1), section(3, 1.5, 0.001, 0.03), valley())
}

// withHill, withSoil, withSection and withRiver are desks with another part.
func withHill(d impl.Desk, h impl.Hill) impl.Desk { return desk(h, d.Soil, d.Section, d.River) }

func withSoil(d impl.Desk, s impl.Soil) impl.Desk { return desk(d.Hill, s, d.Section, d.River) }

func withSection(d impl.Desk, s impl.Section) impl.Desk { return desk(d.Hill, d.Soil, s, d.River) }

func withRiver(d impl.Desk, r impl.River) impl.Desk { return desk(d.Hill, d.Soil, d.Section, r) }

// ownDesk is a copy of a desk.
func ownDesk(d impl.Desk) impl.Desk {
	h := hill(d.Hill.Wide, d.Hill.High, slices.Clone(d.Hill.Heights)...)
	return withRiver(withHill(d, h), ownRiver(d.River))
}

// roomyDesk is a copy of a desk with unused capacity that is filled.
func roomyDesk(d impl.Desk) impl.Desk {
	return withRiver(withHill(d, roomyHill(d.Hill)), roomyRiver(d.River))
}

// soilFields and sectionFields are the numbers of parts, in the order of the
// fields, and soilOf and sectionOf the parts with these numbers.
func soilFields(s impl.Soil) []float32 { return floats(s.Take, s.Suck, s.Hold, s.Drain, s.Wet) }

func sectionFields(s impl.Section) []float32 { return floats(s.Wide, s.Bank, s.Slope, s.Rough) }

func soilOf(f []float32) impl.Soil { return soil(f[0], f[1], f[2], f[3], f[4]) }

func sectionOf(f []float32) impl.Section { return section(f[0], f[1], f[2], f[3]) }

func sectionBits(s impl.Section) string { return fmt.Sprintf("%08x", bitsOfAll(sectionFields(s))) }

// deskBits tells a desk, with its numbers as bits.
func deskBits(d impl.Desk) string {
	return hillText(d.Hill) + " " + soilText(d.Soil) + " " + sectionBits(d.Section) + " " + fmt.Sprint(d.River)
}

// wholeDesk tells all that a desk shares with its caller.
func wholeDesk(d impl.Desk) string {
	h, r := d.Hill, d.River
	return deskBits(desk(hill(h.Wide, h.High, wholeOf(h.Heights)...), d.Soil, d.Section, river(wholeOf(r.Downs), wholeOf(r.Dams), wholeOf(r.Wants))))
}

var noDesk impl.Desk

// invalidSoils have one number that is wrong.
func invalidSoils() []impl.Soil {
	list := []impl.Soil{soil(1, 1, 2, 1, 3), soil(1, 1, 0, 1, tiniest), soil(1, 1, 2, 1, above(2)), soil(1, 1, minusZero, 1, 1)}
	for i := range 5 {
		for _, x := range invalidNumbers() {
			list = append(list, soilOf(with(floats(1, 1, 2, 1, 1), i, x)))
		}
	}
	return list
}

// wrongDesks are desks of which exactly one part is not valid.
func wrongDesks() []impl.Desk {
	var list []impl.Desk
	for _, d := range []impl.Desk{freshDesk(), fullDesk()} {
		for _, h := range invalidHills() {
			list = append(list, withHill(d, h))
		}
		for _, s := range invalidSoils() {
			list = append(list, withSoil(d, s))
		}
		for _, s := range invalidSections() {
			list = append(list, withSection(d, s))
		}
		for _, r := range wrongRivers() {
			list = append(list, withRiver(d, r))
		}
	}
	return append(list, noDesk)
}

// desk draws a valid desk.
func (d *drawer) desk() impl.Desk {
	kinds := 1 + int(d.next()%amountKinds)
	return desk(d.hill(), d.soil(kinds), d.anySection(kinds), d.river(d.nodeCount(), 1+int(d.next()%unitKinds)))
}

func (d *drawer) hill() impl.Hill {
	return drawnHill(d, sides[d.next()%uint64(len(sides))], heightsFrom[d.next()%uint64(len(heightsFrom))])
}

// anySection draws a section, as there are on maps or as there are none.
func (d *drawer) anySection(kinds int) impl.Section {
	if d.next()%2 == 0 {
		return d.channel()
	}
	return d.section(kinds)
}

// chance is true once in so many times.
func (d *drawer) chance(times uint64) bool { return d.next()%times == 0 }

// word draws one of some words.
func (d *drawer) word(list []string) string { return list[d.next()%uint64(len(list))] }

// oddWords are words that are wrong in most places, and bounds.
func oddWords() []string {
	return []string{
		"", "none", "None", "none,", "0", "1", "-1", "-0", "+1", "01", "00", "1,2", "1,", ",1", "1,,2", "2,1", "1,1", "0,0,0", "0,0,0,0", "5,0,0,5", "0,0,0,0,0", "1;2", "1/2", "64", "65", "12", "1000000000", "1000000001", "1000000000000000", "1000000000000001", "9223372036854775808", "-9223372036854775808", "1.5", "1e3", "0x1",
		"3f800000", "3F800000", "3f80000", "3f8000000", "00000000", "80000000", "00000001", "80000001", "bf800000", "7f7fffff", "ff7fffff", "7f800000", "ff800000", "7fc00000", "7fc00001", "ffc00000", "7f800001", "3f800000,3f800000", "3f800000,", ",3f800000", "40000000", "44800000",
		"x", "hill", ";", "/", ",", ";;", "\n", "0\n", "3f800000\n", "\t", "\x00", "\xff", "é", "ok", "no", "what", "1,1;00000000", "-1;0,0,0,0;0", "none;none", "none;none;none",
	}
}

// text draws the text of a part with this name.
func (d *drawer) text(name string) string {
	kinds := 1 + int(d.next()%amountKinds)
	switch name {
	case "hill":
		return hillOracle(d.hill())
	case "soil":
		return hexOracle(soilFields(d.soil(kinds)))
	case "section":
		return hexOracle(sectionFields(d.anySection(kinds)))
	}
	return riverOracle(d.river(d.nodeCount(), 1+int(d.next()%unitKinds)))
}

// bent draws a text that differs a little from another one.
func (d *drawer) bent(t string) string {
	bytes := "0123456789abcdef,,;;//--none AF+\n\x00\xff"
	at := int(d.next() % uint64(len(t)+1))
	k := d.next() % uint64(len(bytes))
	one := bytes[k : k+1]
	switch d.next() % 4 {
	case 0:
		return t[:at]
	case 1:
		return t[:at] + one + t[at:]
	}
	if at == len(t) {
		return t + one
	}
	if d.chance(2) {
		return t[:at] + t[at+1:]
	}
	return t[:at] + one + t[at+1:]
}

// set draws a set of at most so many cells of a hill.
func (d *drawer) set(h impl.Hill, most uint64) []int64 {
	list := noInts
	for i := range int64(len(h.Heights)) {
		if uint64(len(list)) < most && d.chance(5) {
			list = append(list, i)
		}
	}
	return list
}

// depth draws a depth that is mostly above the critical one.
func (d *drawer) depth(s impl.Section, flow float32) float32 {
	if c, ok := impl.CriticalDepth(s, flow); ok {
		return times(c, d.between(0.9, 3))
	}
	return d.length(tame)
}

// words draws words that are right for a form of lines at a desk.
func (d *drawer) words(at impl.Desk, form string) []string {
	name, _, _ := strings.Cut(form, " ")
	node := func() string { return fmt.Sprint(d.next() % uint64(len(at.River.Wants))) }
	number := func(x float32) string { return hexOracle(floats(x)) }
	switch form {
	case "hill TEXT", "soil TEXT", "section TEXT", "river TEXT":
		return []string{name, d.text(name)}
	case "dig LIST X":
		return []string{name, listOracle(d.set(at.Hill, 40)), number(d.signed(tame))}
	case "fall X Y":
		return []string{name, number(d.amount(amountKinds)), number(d.length(amountKinds))}
	case "normal X", "critical X", "flow X":
		return []string{name, number(d.length(tame))}
	case "back X Y Z N":
		flow := d.length(tame)
		return []string{name, number(d.depth(at.Section, flow)), number(flow), number(d.length(tame)), fmt.Sprint(d.next() % 4)}
	case "want N K":
		return []string{name, node(), fmt.Sprint(d.units(unitKinds))}
	case "dam N LIST":
		return []string{name, node(), damOracle(d.dam(unitKinds))}
	case "day LIST":
		return []string{name, listOracle(d.unitList(len(at.River.Wants), unitKinds))}
	}
	return []string{name}
}

// line draws a line for a desk, and tells the form to which it is near.
func (d *drawer) line(at impl.Desk) (line, form string) {
	form = lineForms[d.next()%uint64(len(lineForms))].form
	words := d.words(at, form)
	i := int(d.next() % uint64(len(words)))
	switch d.next() % 12 {
	case 0, 1:
		if i > 0 {
			words[i] = d.word(oddWords())
		}
	case 2:
		words[i] = d.bent(words[i])
	case 3:
		words = append(words[:i:i], words[i+1:]...)
	case 4:
		words = append(append(words[:i:i], d.word(oddWords())), words[i:]...)
	case 5:
		return d.word([]string{" " + form, form, "", " ", "  ", strings.Join(words, "  "), strings.Join(words, " ") + " ", strings.Join(words, "\t"), strings.ToUpper(strings.Join(words, " ")), strings.Join(words, " ") + "\n"}), form
	}
	return strings.Join(words, " "), form
}

// commandIs checks what a line outputs at a desk, and the desk behind it.
func commandIs(t *testing.T, d impl.Desk, line string, behind impl.Desk, output string) {
	t.Helper()
	wantResults(t, all(impl.DeskCommand(d, line)), all(behind, output, true), "DeskCommand", deskBits(d), line)
}
