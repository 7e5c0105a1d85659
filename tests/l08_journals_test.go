package tests

import (
	"fmt"
	"slices"
	"strings"
	"testing"

	"loop.example/g01302/impl"
)

// recoveredIs checks the lines that are recovered of a text, and their bytes.
func recoveredIs(t *testing.T, text string, lines []string, length int) {
	t.Helper()
	wantResults(t, all(impl.RecoverJournal(text)), all(lines, int64(length), true), "RecoverJournal", text[:min(len(text), 200)])
}

// journalIs checks the journal of lines, and what is recovered of it.
func journalIs(t *testing.T, lines []string, journal string) {
	t.Helper()
	wantResults(t, all(impl.JournalOf(lines)), all(journal, true), "JournalOf", lines)
	recoveredIs(t, journal, lines, len(journal))
}

func TestJournalsByHand(t *testing.T) {
	for _, c := range []struct {
		lines []string
		want  string
	}{
		{nil, ""}, {[]string{}, ""}, {[]string{""}, "0 \n"}, {[]string{"", "", ""}, "0 \n0 \n0 \n"}, {[]string{"a"}, "224 a\n"}, {[]string{"a", "a"}, fmt.Sprintf("224 a\n%d a\n", (224*827+224)%65003)}, {[]string{"a", "", "b"}, fmt.Sprintf("224 a\n224 \n%d b\n", (224*827+98+127)%65003)},
		{[]string{" "}, "159  \n"}, {[]string{"\x00", "\xff"}, fmt.Sprintf("127 \x00\n%d \xff\n", (127*827+382)%65003)}, {[]string{"\r"}, "140 \r\n"}, {[]string{"no", "what"}, journalOracle([]string{"no", "what"})}, {[]string{"0 ", "224 a"}, journalOracle([]string{"0 ", "224 a"})}, {[]string{"fill", " fill ", "  ", "é"}, journalOracle([]string{"fill", " fill ", "  ", "é"})},
	} {
		journalIs(t, c.lines, c.want)
		wantThat(t, journalOracle(c.lines), c.want, "the oracle", c.lines)
	}
}

func TestJournalsThatFail(t *testing.T) {
	for _, lines := range [][]string{{"\n"}, {"a\nb"}, {"a\n"}, {"\na"}, {"a", "b", "\n"}, {"\n", "a"}, {"a", "b\n", "c"}, {"", "\n", ""}, {strings.Repeat("x", impl.MaxScript), "\n"}, {"224 a\n"}, {"\r\n"}, {strings.Repeat("\n", 1<<20)}, slices.Repeat([]string{"a\nb"}, 1<<16)} {
		wantResults(t, all(impl.JournalOf(lines)), all("", false), "JournalOf", len(lines))
	}
}

// journalLine is a line of which the journal has so many bytes: its check number
// has one to five digits.
func journalLine(size int) []string {
	for digits := 1; digits <= 5; digits++ {
		for _, letter := range []string{"a", "b", "c", "d", "e"} {
			lines := []string{letter + strings.Repeat("x", max(size-digits-3, 0))}
			if len(journalOracle(lines)) == size {
				return lines
			}
		}
	}
	return nil
}

func TestJournalsOfMaxScriptBytes(t *testing.T) {
	failed := all("", false)
	for _, size := range []int{100, impl.MaxScript - 1, impl.MaxScript} {
		lines := journalLine(size)
		wantThat(t, len(lines), 1, "lines for a journal", size)
		journalIs(t, lines, journalOracle(lines))
	}
	for _, size := range []int{impl.MaxScript + 1, impl.MaxScript + 2, 2 * impl.MaxScript} {
		lines := journalLine(size)
		wantThat(t, len(lines), 1, "lines for a journal", size)
		wantResults(t, all(impl.JournalOf(lines)), failed, "JournalOf", size)
		wantResults(t, all(impl.RecoverJournal(journalOracle(lines))), all([]string(nil), int64(0), false), "RecoverJournal", size)
	}
	empty := alike(impl.MaxScript/3+1, "")
	journalIs(t, empty[1:], strings.Repeat("0 \n", impl.MaxScript/3))
	recoveredIs(t, strings.Repeat("0 \n", impl.MaxScript/3)+"0", empty[1:], impl.MaxScript/3*3)
	wantResults(t, all(impl.JournalOf(empty)), failed, "JournalOf of too many lines")
	wantResults(t, all(impl.JournalOf(alike(1<<20, ""))), failed, "JournalOf of far too many lines")
	wantResults(t, all(impl.JournalOf([]string{strings.Repeat("x", 1<<24)})), failed, "JournalOf of a line that is too long")
	short := journalOracle([]string{"fill", "take"})
	recoveredIs(t, short+strings.Repeat("x", impl.MaxScript-len(short)), []string{"fill", "take"}, len(short))
	for _, text := range []string{short + strings.Repeat("x", impl.MaxScript-len(short)+1), short + strings.Repeat("\n", impl.MaxScript), strings.Repeat("0 \n", impl.MaxScript/3+1), strings.Repeat("\n", impl.MaxScript+1), strings.Repeat("x", 1<<20)} {
		wantResults(t, all(impl.RecoverJournal(text)), all([]string(nil), int64(0), false), "RecoverJournal of too many bytes")
		wantResults(t, all(impl.RunJournal(freshDesk(), text)), all(noDesk, int64(0), false), "RunJournal of too many bytes")
	}
	// the last line of which all bytes fit, and a line more that is empty
	for more := range 6 {
		lines := append(journalLine(impl.MaxScript-more), "")
		journal := journalOracle(lines)
		want := all(journal, true)
		if len(journal) > impl.MaxScript {
			want = failed
		}
		wantResults(t, all(impl.JournalOf(lines)), want, "JournalOf with an empty line", more)
	}
}

func TestTextsThatAreNoJournals(t *testing.T) {
	fill, take := checkOracle("fill"), checkOracle("take")
	both := checkOracle("filltake")
	for _, c := range []struct {
		text  string
		lines []string
	}{
		{"", nil}, {"\n", nil}, {" \n", nil}, {"0", nil}, {"0 ", nil}, {"0\n", nil}, {"x", nil}, {"0 \n", []string{""}}, {"00 \n", nil}, {"-0 \n", nil}, {"+0 \n", nil}, {" 0 \n", nil}, {"0  \n", nil}, {"0\t\n", nil}, {"0 \r\n", nil}, {"0,\n", nil}, {"1 \n", nil}, {"65003 \n", nil}, {"0 a\n", nil}, {"224 a\n", []string{"a"}}, {"0224 a\n", nil}, {"+224 a\n", nil}, {"-224 a\n", nil}, {"224.0 a\n", nil}, {"224a\n", nil}, {"224  a\n", nil}, {"224 a \n", nil}, {"225 a\n", nil}, {"65227 a\n", nil}, {"-64779 a\n", nil}, {"0xe0 a\n", nil}, {"2２4 a\n", nil}, {"224 a", nil}, {"224 a\x00\n", nil}, {"224 b\n", nil}, {"224 A\n", nil}, {"\n224 a\n", nil}, {"224\n a\n", nil}, {"224 \na\n", nil}, {"224\ta\n", nil}, {"a 224\n", nil},
		{fmt.Sprintf("%d fill\n%d take\n", fill, both), []string{"fill", "take"}}, {fmt.Sprintf("%d fill\n%d take\n", fill, take), []string{"fill"}}, {fmt.Sprintf("%d fill\n%d take\n", both, fill), nil}, {fmt.Sprintf("%d take\n%d fill\n", fill, both), nil}, {fmt.Sprintf("%d take\n%d fill\n", take, both), []string{"take"}}, {fmt.Sprintf("%d take\n", both), nil}, {fmt.Sprintf("%d fill\n%d fill\n", fill, fill), []string{"fill"}}, {fmt.Sprintf("%d fill\n0%d take\n", fill, both), []string{"fill"}}, {fmt.Sprintf("%d fill\n-%d take\n", fill, both), []string{"fill"}}, {fmt.Sprintf("%d fill\n%d take", fill, both), []string{"fill"}}, {fmt.Sprintf("%d fill\n\n%d take\n", fill, both), []string{"fill"}}, {fmt.Sprintf("%d fill\n %d take\n", fill, both), []string{"fill"}}, {fmt.Sprintf("%d fill\n%d take\nx", fill, both), []string{"fill", "take"}}, {fmt.Sprintf("%d fill\n%d take\n\n", fill, both), []string{"fill", "take"}}, {fmt.Sprintf("%d fill\n%d \n", fill, fill), []string{"fill", ""}}, {fmt.Sprintf("%d fill\n%d\n", fill, fill), []string{"fill"}}, {fmt.Sprintf("%d fill\n0 \n", fill), []string{"fill"}}, {fmt.Sprintf("%d fill\n%d take\n", fill, both+1), []string{"fill"}},
	} {
		recoveredIs(t, c.text, c.lines, len(journalOracle(c.lines)))
		lines, length := recoverJournalOracle(c.text)
		wantResults(t, all(lines, length), all(c.lines, int64(len(journalOracle(c.lines)))), "the oracle", c.text)
	}
}

// journalLines draws lines of a desk, and some of any bytes.
func (d *drawer) journalLines(count int) []string {
	var lines []string
	for range count {
		line := d.word([]string{"", " ", "fill", "take", "order", "hollow", "want 0 2", "dig 4 3f800000", "fall 3f000000 3f800000", "day 8,0", "x", "0 ", "hill", "12 fill"})
		if d.chance(4) {
			line = ""
			for range d.next() % 12 {
				line += string([]byte{byte(d.next())})
			}
			line = strings.ReplaceAll(line, "\n", " ")
		}
		lines = append(lines, line)
	}
	return lines
}

// Of a journal that is cut anywhere, all lines are recovered that are whole.
func TestJournalsThatAreCut(t *testing.T) {
	d := drawer(830)
	for range 60 {
		lines := d.journalLines(int(d.next() % 9))
		journal := journalOracle(lines)
		journalIs(t, lines, journal)
		for at := range len(journal) + 1 {
			whole := lines[:strings.Count(journal[:at], "\n")]
			recoveredIs(t, journal[:at], whole, len(journalOracle(whole)))
			text, ok := impl.JournalOf(whole)
			wantThat(t, ok && strings.HasPrefix(journal[:at], text), true, "a beginning is recovered", journal, at)
		}
	}
}

// Of a journal in which a byte is another one, or is left out, or stands twice,
// the lines before it are recovered.
func TestJournalsThatAreBent(t *testing.T) {
	d := drawer(831)
	for range 12 {
		lines := d.journalLines(5)
		journal := journalOracle(lines)
		for at := range len(journal) {
			before := lines[:strings.Count(journal[:at], "\n")]
			for b := range 256 {
				if byte(b) != journal[at] {
					recoveredIs(t, journal[:at]+string([]byte{byte(b)})+journal[at+1:], before, len(journalOracle(before)))
				}
			}
			for _, text := range []string{journal[:at] + journal[at+1:], journal[:at+1] + journal[at:], journal[:at] + " " + journal[at:]} {
				found, length := recoverJournalOracle(text)
				recoveredIs(t, text, found, int(length))
				wantThat(t, len(found) >= len(before), true, "the lines before", text)
			}
		}
	}
}

// Lines that are left out, stand twice, or change places end what is recovered.
func TestJournalsOfWhichLinesAreMixed(t *testing.T) {
	d := drawer(832)
	recovered := 0
	for range 600 {
		entries := strings.SplitAfter(journalOracle(d.journalLines(6)), "\n")
		i, k := d.next()%6, d.next()%6
		switch d.next() % 4 {
		case 0:
			entries[i], entries[k] = entries[k], entries[i]
		case 1:
			entries[i] = entries[k]
		case 2:
			entries = slices.Delete(entries, int(i), int(i)+1)
		case 3:
			entries = slices.Insert(entries, int(i), d.word([]string{"\n", "0 \n", "224 a\n", "x", "65003 \n", "0 fill\n"}))
		}
		text := strings.Join(entries, "")
		lines, length := recoverJournalOracle(text)
		recoveredIs(t, text, lines, int(length))
		recovered += len(lines)
	}
	wantThat(t, recovered > 600, true, "lines that are recovered", recovered)
}

// runJournalIs checks the desk behind a journal, and how many lines it carries out.
func runJournalIs(t *testing.T, d impl.Desk, text string, behind impl.Desk, count int) {
	t.Helper()
	wantResults(t, all(impl.RunJournal(d, text)), all(behind, int64(count), true), "RunJournal", deskBits(d), text[:min(len(text), 200)])
}

func TestRunJournalByHand(t *testing.T) {
	fresh, full := freshDesk(), fullDesk()
	wet := withSoil(fresh, soil(1, 0, 4, 0.25, 0.375))
	wanted := withRiver(wet, withWant(wet.River, 1, 7))
	lines := []string{"fall 3f000000 3f800000", "", "fall 3f000000", "hill ", "want 1 7", "take"}
	journal := journalOracle(lines)
	runJournalIs(t, fresh, journal, wanted, 6)
	runJournalIs(t, fresh, journal+"x", wanted, 6)
	runJournalIs(t, fresh, journal[:len(journal)-1], wanted, 5)
	runJournalIs(t, fresh, journalOracle(lines[:4]), wet, 4)
	runJournalIs(t, fresh, journalOracle(lines[:4])+"0 want 1 7\n", wet, 4)
	for _, at := range []impl.Desk{fresh, full} {
		for _, text := range []string{"", "\n", "x", "fill", "fill\n", "0 fill\n", "take\nfill\n", journal[1:], strings.Repeat("x", impl.MaxScript)} {
			runJournalIs(t, at, text, at, 0)
		}
		runJournalIs(t, at, "0 \n0 \n", at, 2)
		runJournalIs(t, at, strings.Repeat("0 \n", impl.MaxScript/3), at, impl.MaxScript/3)
		wantResults(t, all(impl.RunJournal(at, journal+strings.Repeat("x", impl.MaxScript-len(journal)+1))), all(noDesk, int64(0), false), "RunJournal of one byte more")
	}
	for _, at := range wrongDesks() {
		for _, text := range []string{"", "x", "0 \n", journal} {
			wantResults(t, all(impl.RunJournal(at, text)), all(noDesk, int64(0), false), "RunJournal", deskBits(at), text)
		}
	}
}

// The desk behind a journal is that behind the script of its lines, as far as
// they are recovered.
func TestRunJournalOfAllKinds(t *testing.T) {
	d := drawer(833)
	for range 150 {
		at := d.desk()
		lines := d.lines(at, int(d.next()%12))
		journal := journalOracle(lines)
		if len(journal) > impl.MaxScript {
			wantResults(t, all(impl.JournalOf(lines)), all("", false), "JournalOf of too many bytes")
			continue
		}
		journalIs(t, lines, journal)
		behind, _ := linesOracle(at, lines)
		runJournalIs(t, at, journal, behind, len(lines))
		cut := journal[:d.next()%uint64(len(journal)+1)]
		whole := lines[:strings.Count(cut, "\n")]
		behind, _ = linesOracle(at, whole)
		runJournalIs(t, at, cut, behind, len(whole))
		script, _, ok := impl.RunDesk(at, scriptOracle(whole))
		wantThat(t, ok && impl.SameDesk(script, behind), true, "RunDesk of the same lines", whole)
		bent := d.bent(journal)
		found, _ := recoverJournalOracle(bent)
		behind, _ = linesOracle(at, found)
		if len(bent) <= impl.MaxScript {
			runJournalIs(t, at, bent, behind, len(found))
		}
	}
}
