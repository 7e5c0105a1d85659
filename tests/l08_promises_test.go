package tests

import (
	"fmt"
	"strings"
	"testing"

	"loop.example/g01302/impl"
)

// deskArgs are arguments of which each function of chapter 8 takes some.
type deskArgs struct {
	d, other                       impl.Desk
	line, script, outputs, journal string
	hill, soil, section, river     string
	lines                          []string
}

// deskCalls are all functions of chapter 8 that can fail.
var deskCalls = []struct {
	name string
	call func(a deskArgs) []any
}{
	{"HillText", func(a deskArgs) []any { return all(impl.HillText(a.d.Hill)) }},
	{"ReadHill", func(a deskArgs) []any { return all(impl.ReadHill(a.hill)) }},
	{"SoilText", func(a deskArgs) []any { return all(impl.SoilText(a.d.Soil)) }},
	{"ReadSoil", func(a deskArgs) []any { return all(impl.ReadSoil(a.soil)) }},
	{"SectionText", func(a deskArgs) []any { return all(impl.SectionText(a.d.Section)) }},
	{"ReadSection", func(a deskArgs) []any { return all(impl.ReadSection(a.section)) }},
	{"RiverText", func(a deskArgs) []any { return all(impl.RiverText(a.d.River)) }},
	{"ReadRiver", func(a deskArgs) []any { return all(impl.ReadRiver(a.river)) }},
	{"DeskCommand", func(a deskArgs) []any { return all(impl.DeskCommand(a.d, a.line)) }},
	{"RunDesk", func(a deskArgs) []any { return all(impl.RunDesk(a.d, a.script)) }},
	{"CountOutputs", func(a deskArgs) []any { return all(impl.CountOutputs(a.outputs)) }},
	{"JournalOf", func(a deskArgs) []any { return all(impl.JournalOf(a.lines)) }},
	{"RecoverJournal", func(a deskArgs) []any { return all(impl.RecoverJournal(a.journal)) }},
	{"RunJournal", func(a deskArgs) []any { return all(impl.RunJournal(a.d, a.journal)) }},
}

// deskTests tell all that the functions report that never fail.
func deskTests(a deskArgs) string {
	return fmt.Sprint(impl.ValidDesk(a.d), impl.ValidDesk(a.other), impl.SameDesk(a.d, a.other), impl.SameDesk(a.d, a.d), deskBits(impl.NewDesk()) == deskBits(freshDesk()))
}

func TestAllDeskFunctionsSucceed(t *testing.T) {
	lines := []string{"fill", "take"}
	a := deskArgs{
		d: fullDesk(), other: freshDesk(), line: "order", script: "order\n", outputs: "ok\n", journal: journalOracle(lines), lines: lines,
		hill: "1,1;00000000", soil: "00000000,00000000,00000000,00000000,00000000", section: "3f800000,3f800000,3f800000,3f800000", river: "-1;0,0,0,0;0",
	}
	for _, f := range deskCalls {
		results := f.call(a)
		wantThat(t, results[len(results)-1].(bool), true, f.name)
	}
	wantThat(t, deskTests(a), "true true false true true", "tests")
}

// deskArgsText tells all that arguments share with their caller.
func deskArgsText(a deskArgs) string {
	return wholeDesk(a.d) + wholeDesk(a.other) + told(wholeOf(a.lines), a.line, a.script, a.outputs, a.journal, a.hill, a.soil, a.section, a.river)
}

// drawnDesk are arguments that are right, or nearly so, or wrong.
func drawnDesk(d *drawer, wrong []impl.Desk) deskArgs {
	a := deskArgs{d: d.desk(), other: d.desk(), hill: d.text("hill"), soil: d.text("soil"), section: d.text("section"), river: d.text("river")}
	a.lines = d.lines(a.d, int(d.next()%5))
	a.line, _ = d.line(a.d)
	a.script, a.journal = scriptOracle(a.lines), journalOracle(a.lines)
	for range d.next() % 9 {
		a.outputs += d.word([]string{"ok", "no", "what", "", "0,1"}) + "\n"
	}
	switch d.next() % 8 {
	case 0:
		a.d = wrong[d.next()%uint64(len(wrong))]
	case 1:
		a.other = wrong[d.next()%uint64(len(wrong))]
		a.script, a.outputs, a.journal = d.bent(a.script), d.bent(a.outputs), d.bent(a.journal)
	case 2:
		a.hill, a.soil, a.section, a.river = d.bent(a.hill), d.bent(a.soil), d.bent(a.section), d.bent(a.river)
		a.lines = append(a.lines, "take\n")
	case 3:
		a.script, a.outputs = strings.TrimSuffix(a.script, "\n")+"x", a.outputs+"no"
		a.journal += strings.Repeat("x", impl.MaxScript)
	}
	if d.chance(20) {
		a.script, a.outputs = strings.Repeat("\n", impl.MaxScript+1), strings.Repeat("no\n", impl.MaxScript)
		a.lines = alike(impl.MaxScript, "take")
	}
	a.d, a.other, a.lines = roomyDesk(a.d), roomyDesk(a.other), roomy(a.lines, "spare")
	return a
}

func TestDeskFunctionsReturnForAllArgumentsAndChangeNone(t *testing.T) {
	d := drawer(840)
	n := newTally()
	wrong := wrongDesks()
	for range 2500 {
		a := drawnDesk(&d, wrong)
		before := deskArgsText(a)
		for _, f := range deskCalls {
			n.callTwice(t, f.name, func() []any { return f.call(a) }, before)
		}
		wantThat(t, deskTests(a), deskTests(a), "tests again")
		wantThat(t, deskArgsText(a), before, "arguments behind all calls")
	}
	for _, f := range deskCalls {
		n.wantTried(t, f.name, 500, 20)
	}
}

// No part of a result is part of an argument, also where a line changes nothing,
// or another part.
func TestDesksThatStayAreNewOnes(t *testing.T) {
	at := roomyDesk(fullDesk())
	before := wholeDesk(at)
	lines := []string{"", "what", "order", "hill ", "fill x", "want 9 9", "fall bf800000 3f800000", "day 0", "dig 99 3f800000"}
	d := drawer(841)
	for _, f := range lineForms {
		lines = append(lines, strings.Join(d.words(at, f.form), " "))
	}
	for _, line := range lines {
		behind, _, ok := impl.DeskCommand(at, line)
		wantThat(t, ok, true, "DeskCommand", line)
		spoil(all(behind))
		wantThat(t, wholeDesk(at), before, "the desk before a line", line)
		script, _, one := impl.RunDesk(at, line+"\n")
		journal, _, two := impl.RunJournal(at, journalOracle([]string{line}))
		text := deskBits(journal)
		spoil(all(script))
		wantThat(t, one && two && deskBits(journal) == text, true, "desks behind a script and a journal", line)
		spoil(all(journal))
		wantThat(t, wholeDesk(at), before, "the desk before a script and a journal", line)
	}
	for _, idle := range []string{"", "x"} {
		journal, _, _ := impl.RunJournal(at, idle)
		script, _, _ := impl.RunDesk(at, "")
		wantThat(t, deskBits(journal) == deskBits(at) && deskBits(script) == deskBits(at), true, "desks without lines")
		spoil(all(journal, script))
		wantThat(t, wholeDesk(at), before, "the desk before no lines")
	}
}

// The lists of one desk, and the lines of one journal, must not share memory either.
func TestListsOfOneDeskAreApart(t *testing.T) {
	d := drawer(842)
	for range 60 {
		at := d.desk()
		for _, f := range lineForms {
			behind, _, _ := impl.DeskCommand(at, strings.Join(d.words(at, f.form), " "))
			parts := all(behind.Hill.Heights, behind.River.Downs, river(nil, behind.River.Dams, nil), behind.River.Wants)
			for i := range parts {
				others := append(append(all(), parts[:i]...), parts[i+1:]...)
				before := told(others...)
				spoil(parts[i : i+1])
				wantThat(t, told(others...), before, "DeskCommand", f.form, i)
			}
		}
	}
	lines := []string{"fill", "take"}
	journal := journalOracle(lines)
	first, _, _ := impl.RecoverJournal(journal)
	second, _, _ := impl.RecoverJournal(journal)
	spoil(all(first))
	wantThat(t, told(second), told(lines), "RecoverJournal again")
}

func TestExamplesOfChapter8(t *testing.T) {
	at := impl.NewDesk()
	for _, c := range [][2]string{{"order", "0,1"}, {"hollow", "00000000"}, {"take", "3f800000"}} {
		behind, output, ok := impl.DeskCommand(at, c[0])
		wantThat(t, ok && output == c[1] && impl.SameDesk(behind, at), true, "DeskCommand", c[0], output)
		at = behind
	}
}

func TestLimitsOfChapter8(t *testing.T) {
	wantThat(t, fmt.Sprint(impl.MaxScript), "16000", "limits")
}
