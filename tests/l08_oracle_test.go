package tests

import (
	"fmt"
	"regexp"
	"strconv"
	"strings"

	"loop.example/g01302/impl"
)

// The oracle of chapter 8 reads texts however they are written, and takes what
// it reads if this has the very text; it finds the forms of lines, as the
// document writes them, by patterns, and asks the oracles of the chapters before
// for what they do; and it recovers journals by trying how many lines fit.

func validHillOracle(h impl.Hill) bool {
	return h.Wide > 0 && h.Wide < 17 && h.High > 0 && h.High < 17 && len(h.Heights) == int(h.Wide*h.High) && allFinite(h.Heights)
}

func validDeskOracle(d impl.Desk) bool {
	return validHillOracle(d.Hill) && validSoilOracle(d.Soil) && validSectionOracle(d.Section) && validRiverOracle(d.River)
}

// plain is a text of a list that Go prints, with commas.
func plain(list any) string {
	text := strings.NewReplacer("[", "", "]", "", "{", "", "}", "", " ", ",").Replace(fmt.Sprint(list))
	if text == "" {
		return "none"
	}
	return text
}

func listOracle(list []int64) string { return plain(list) }

func damOracle(d impl.Dam) string { return plain(d) }

func hexOracle(list []float32) string { return plain(fmt.Sprintf("%08x", bitsOfAll(list))) }

func hillOracle(h impl.Hill) string {
	return fmt.Sprintf("%d,%d;%s", h.Wide, h.High, hexOracle(h.Heights))
}

func riverOracle(r impl.River) string {
	dams := ""
	for _, d := range r.Dams {
		dams += "/" + damOracle(d)
	}
	return listOracle(r.Downs) + ";" + strings.TrimPrefix(dams, "/") + ";" + listOracle(r.Wants)
}

// fields are the numbers of a text, however they are written and parted.
type fields []string

func fieldsOf(t string) fields {
	return strings.FieldsFunc(t, func(r rune) bool { return strings.ContainsRune(",;/ ", r) })
}

func (f fields) integers() []int64 {
	list := noInts
	for _, word := range f {
		n, _ := strconv.ParseInt(word, 10, 64)
		list = append(list, n)
	}
	return list
}

func (f fields) numbers() []float32 {
	list := noFloats
	for _, word := range f {
		n, _ := strconv.ParseUint(word, 16, 32)
		list = append(list, number(uint32(n)))
	}
	return list
}

func readListOracle(t string) ([]int64, bool) {
	if t == "none" {
		return nil, true
	}
	list := fieldsOf(t).integers()
	for _, n := range list {
		if n > 1e15 || n < -1e15 {
			return nil, false
		}
	}
	return list, len(list) > 0 && len(list) <= 64 && listOracle(list) == t
}

func readHillOracle(t string) (impl.Hill, bool) {
	f := fieldsOf(t)
	if len(f) < 2 {
		return noHill, false
	}
	sides := f[:2].integers()
	h := hill(sides[0], sides[1], f[2:].numbers()...)
	if !validHillOracle(h) || hillOracle(h) != t {
		return noHill, false
	}
	return h, true
}

func readSoilOracle(t string) (impl.Soil, bool) {
	list := fieldsOf(t).numbers()
	if len(list) != 5 || hexOracle(list) != t || !validSoilOracle(soilOf(list)) {
		return impl.Soil{}, false
	}
	return soilOf(list), true
}

func readSectionOracle(t string) (impl.Section, bool) {
	list := fieldsOf(t).numbers()
	if len(list) != 4 || hexOracle(list) != t || !validSectionOracle(sectionOf(list)) {
		return impl.Section{}, false
	}
	return sectionOf(list), true
}

// readRiverOracle knows from the number of fields how many nodes there are.
func readRiverOracle(t string) (impl.River, bool) {
	list := fieldsOf(t).integers()
	count := len(list) / 6
	r := river(list[:count], nil, list[5*count:])
	for at := count; at+4 <= 5*count; at += 4 {
		r.Dams = append(r.Dams, damOf(list[at:]))
	}
	if !validRiverOracle(r) || riverOracle(r) != t {
		return noRiver, false
	}
	return r, true
}

func damOf(f []int64) impl.Dam { return dam(f[0], f[1], f[2], f[3]) }

// lineWords are the words of a line behind the name, by their kinds.
type lineWords struct {
	text    string
	ints    []int64
	numbers []float32
	list    []int64
}

// lineForms are the forms of lines, as the document writes them. What a line
// does is done at a desk that is thrown away if it fails.
var lineForms = []struct {
	form string
	run  func(d *impl.Desk, w lineWords) (string, bool)
}{
	{"hill TEXT", func(d *impl.Desk, w lineWords) (output string, ok bool) {
		d.Hill, ok = readHillOracle(w.text)
		return "ok", ok
	}},
	{"soil TEXT", func(d *impl.Desk, w lineWords) (output string, ok bool) {
		d.Soil, ok = readSoilOracle(w.text)
		return "ok", ok
	}},
	{"section TEXT", func(d *impl.Desk, w lineWords) (output string, ok bool) {
		d.Section, ok = readSectionOracle(w.text)
		return "ok", ok
	}},
	{"river TEXT", func(d *impl.Desk, w lineWords) (output string, ok bool) {
		d.River, ok = readRiverOracle(w.text)
		return "ok", ok
	}},
	{"hill", func(d *impl.Desk, w lineWords) (string, bool) { return hillOracle(d.Hill), true }},
	{"soil", func(d *impl.Desk, w lineWords) (string, bool) { return hexOracle(soilFields(d.Soil)), true }},
	{"section", func(d *impl.Desk, w lineWords) (string, bool) { return hexOracle(sectionFields(d.Section)), true }},
	{"river", func(d *impl.Desk, w lineWords) (string, bool) { return riverOracle(d.River), true }},
	{"fill", func(d *impl.Desk, w lineWords) (string, bool) {
		d.Hill.Heights = fillOracle(d.Hill)
		return "ok", true
	}},
	{"hollow", func(d *impl.Desk, w lineWords) (string, bool) {
		sum, ok := hollowOracle(d.Hill)
		return hexOracle(floats(sum)), ok
	}},
	{"dig LIST X", func(d *impl.Desk, w lineWords) (string, bool) { return "ok", digOracle(d.Hill, w.list, w.numbers[0]) }},
	{"ways", func(d *impl.Desk, w lineWords) (string, bool) {
		ways, ok := runOracle(d.Hill)
		return listOracle(ways), ok && len(ways) <= 64
	}},
	{"basins", func(d *impl.Desk, w lineWords) (string, bool) {
		ways, ok := runOracle(d.Hill)
		_, count := basinsOracle(ways)
		return fmt.Sprint(count), ok
	}},
	{"fall X Y", func(d *impl.Desk, w lineWords) (string, bool) {
		if !amountOracle(w.numbers[0]) || !amountOracle(w.numbers[1]) || w.numbers[1] == 0 {
			return "", false
		}
		next, off, gone, ok := stepSoilOracle(d.Soil, w.numbers[0], w.numbers[1])
		d.Soil = next
		return hexOracle(floats(off, gone)), ok
	}},
	{"take", func(d *impl.Desk, w lineWords) (string, bool) {
		fast, ok := canTakeOracle(d.Soil)
		return hexOracle(floats(fast)), ok
	}},
	{"normal X", func(d *impl.Desk, w lineWords) (string, bool) {
		return oneOracle(normalOracle(d.Section, w.numbers[0]))
	}},
	{"critical X", func(d *impl.Desk, w lineWords) (string, bool) {
		return oneOracle(criticalOracle(d.Section, w.numbers[0]))
	}},
	{"flow X", func(d *impl.Desk, w lineWords) (string, bool) {
		return oneOracle(carriedOracle(d.Section, w.numbers[0]))
	}},
	{"back X Y Z N", func(d *impl.Desk, w lineWords) (string, bool) {
		if w.ints[0] < 0 || w.ints[0] > 64 || need(1, w.numbers...) != 1 {
			return "", false
		}
		depths, ok := waterOracle(d.Section, w.numbers[0], w.numbers[1], w.numbers[2], w.ints[0])
		return hexOracle(depths), ok
	}},
	{"want N K", func(d *impl.Desk, w lineWords) (string, bool) {
		if !hasNodeOracle(d.River, w.ints[0]) {
			return "", false
		}
		d.River.Wants[w.ints[0]] = w.ints[1]
		return "ok", true
	}},
	{"dam N LIST", func(d *impl.Desk, w lineWords) (string, bool) {
		if !hasNodeOracle(d.River, w.ints[0]) || len(w.list) != 4 {
			return "", false
		}
		d.River.Dams[w.ints[0]] = damOf(w.list)
		return "ok", true
	}},
	{"day LIST", func(d *impl.Desk, w lineWords) (string, bool) {
		next, gives, _, ok := dayOracle(d.River, w.list)
		d.River = next
		return listOracle(gives), ok
	}},
	{"order", func(d *impl.Desk, w lineWords) (string, bool) {
		order, ok := flowOrderOracle(d.River)
		return listOracle(order), ok
	}},
	{"stored", func(d *impl.Desk, w lineWords) (string, bool) {
		stored, ok := storedOracle(d.River)
		return fmt.Sprint(stored), ok
	}},
}

// oneOracle is the text of a number, if there is one.
func oneOracle(x float32) (string, bool) { return hexOracle(floats(x)), x == x }

// digOracle digs in the heights of a hill, if it can.
func digOracle(h impl.Hill, list []int64, depth float32) bool {
	last := int64(-1)
	for _, i := range list {
		if i <= last || i >= int64(len(h.Heights)) {
			return false
		}
		last = i
		h.Heights[i] = less(h.Heights[i], depth)
	}
	return finite(depth)
}

// linePatterns are the patterns of the forms, in which words have any bytes but
// blanks.
var linePatterns = func() (list []*regexp.Regexp) {
	for _, f := range lineForms {
		words := regexp.MustCompile("[A-Z]+").ReplaceAllString(f.form, "([^ ]*)")
		list = append(list, regexp.MustCompile(`\A`+words+`\z`))
	}
	return list
}()

// wordsOracle reads the words of a line by their kinds.
func wordsOracle(form string, words []string) (w lineWords, ok bool) {
	for i, kind := range strings.Split(form, " ")[1:] {
		word := words[i+1]
		f := fieldsOf(word)
		fine := true
		switch kind {
		case "TEXT":
			w.text = word
		case "LIST":
			w.list, fine = readListOracle(word)
		case "N", "K":
			list, good := readListOracle(word)
			w.ints = append(w.ints, list...)
			fine = good && len(list) == 1
		default:
			w.numbers = append(w.numbers, f.numbers()...)
			fine = len(f) == 1 && hexOracle(f.numbers()) == word
		}
		if !fine {
			return lineWords{}, false
		}
	}
	return w, true
}

// lineOracle tells the desk behind a line, and what it outputs.
func lineOracle(d impl.Desk, line string) (impl.Desk, string) {
	for i, f := range lineForms {
		words := linePatterns[i].FindStringSubmatch(line)
		if words == nil {
			continue
		}
		next := ownDesk(d)
		if w, ok := wordsOracle(f.form, words); ok {
			if output, ok := f.run(&next, w); ok && validDeskOracle(next) {
				return next, output
			}
		}
		return d, "no"
	}
	return d, "what"
}

// linesOracle carries out lines, and tells the outputs.
func linesOracle(d impl.Desk, lines []string) (impl.Desk, string) {
	outputs := ""
	for _, line := range lines {
		var output string
		d, output = lineOracle(d, line)
		outputs += output + "\n"
	}
	return d, outputs
}

// scriptOracle is the script of lines.
func scriptOracle(lines []string) string {
	script := ""
	for _, line := range lines {
		script += line + "\n"
	}
	return script
}

// journalOracle tells the check number of a line as that of all lines up to it,
// which follow on each other without anything between.
func journalOracle(lines []string) string {
	journal, all := "", ""
	for _, line := range lines {
		all += line
		journal += fmt.Sprintf("%d %s\n", checkOracle(all), line)
	}
	return journal
}

// recoverJournalOracle tries how many lines have a journal with which a text
// begins, the most ones first.
func recoverJournalOracle(t string) ([]string, int64) {
	entries := strings.SplitAfter(t, "\n")
	lines := make([]string, len(entries))
	for i, entry := range entries {
		_, line, _ := strings.Cut(entry, " ")
		lines[i] = strings.TrimSuffix(line, "\n")
	}
	for count := len(lines); count > 0; count-- {
		if journal := journalOracle(lines[:count]); strings.HasPrefix(t, journal) {
			return lines[:count], int64(len(journal))
		}
	}
	return nil, 0
}
