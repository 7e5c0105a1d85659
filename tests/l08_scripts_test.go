package tests

import (
	"slices"
	"strings"
	"testing"

	"loop.example/g01302/impl"
)

// scriptIs checks what a script outputs at a desk, and the desk behind it.
func scriptIs(t *testing.T, d impl.Desk, script string, behind impl.Desk, outputs string) {
	t.Helper()
	wantResults(t, all(impl.RunDesk(d, script)), all(behind, outputs, true), "RunDesk", deskBits(d), script[:min(len(script), 200)])
}

func TestScriptsByHand(t *testing.T) {
	fresh, full := freshDesk(), fullDesk()
	one := withRiver(fresh, single(dam(0, 0, 0, 0), 3))
	for _, c := range []struct {
		at      impl.Desk
		script  string
		behind  impl.Desk
		outputs string
	}{
		{fresh, "", fresh, ""}, {full, "", full, ""}, {fresh, "\n", fresh, "what\n"}, {full, "\n\n\n", full, "what\nwhat\nwhat\n"}, {fresh, "order\n", fresh, "0,1\n"}, {fresh, "\norder\n\n", fresh, "what\n0,1\nwhat\n"}, {fresh, " \n", fresh, "what\n"}, {fresh, "hill \n", fresh, "no\n"}, {fresh, "order\r\n", fresh, "what\n"},
		{fresh, "order\nhollow\ntake\n", fresh, "0,1\n00000000\n3f800000\n"},
		{fresh, "dig 4 40000000\nhollow\nfill\nhollow\ndig 4 bf800000\n", withHill(fresh, hill(3, 3, 4, 3, 2, 4, 3, 2, 4, 3, 2)), "ok\n3f800000\nok\n00000000\nok\n"},
		{fresh, "fall 3f000000 3f800000\nfall bf000000 3f800000\nfall 3f000000\nsoil\n", withSoil(fresh, soil(1, 0, 4, 0.25, 0.375)), "00000000,3e000000\nno\nwhat\n3f800000,00000000,40800000,3e800000,3ec00000\n"},
		{fresh, "day 8,0\nwant 0 2\nday 8,0\ndam 0 5,0,0,0\nday 8,0\nday 8\nstored\nday 0,0\nstored\nday 0,0\nday 0,0\n", withRiver(fresh, river(ints(1, -1), []impl.Dam{dam(5, 0, 0, 0), dam(0, 0, 0, 0)}, ints(2, 0))), "0,0\nok\n2,0\nok\n2,0\nno\n5\n2,0\n3\n2,0\n1,0\n"},
		{fresh, "river -1;0,0,0,0;3\nriver 0;0,0,0,0;3\norder\nriver\n", one, "ok\nno\n0\n-1;0,0,0,0;3\n"},
		{fresh, "hill 1,1;80000000\nfill\nhill\nsoil 00000000,80000000,00000001,00000000,00000001\ntake\nsection 3f800000,3f800000,3f800000,3f800000\nsection\n", desk(hill(1, 1, minusZero), soil(0, minusZero, tiniest, 0, tiniest), section(1, 1, 1, 1), fresh.River), "ok\nok\n1,1;80000000\nok\n00000000\nok\n3f800000,3f800000,3f800000,3f800000\n"},
	} {
		scriptIs(t, c.at, c.script, c.behind, c.outputs)
		behind, outputs := linesOracle(c.at, strings.Split(c.script, "\n")[:strings.Count(c.script, "\n")])
		wantResults(t, all(behind, outputs), all(c.behind, c.outputs), "the oracle", c.script)
	}
}

// lines draws so many lines, each one for the desk behind those before.
func (d *drawer) lines(at impl.Desk, count int) []string {
	list := []string{}
	for range count {
		line, _ := d.line(at)
		line = strings.ReplaceAll(line, "\n", "|")
		at, _ = lineOracle(at, line)
		list = append(list, line)
	}
	return list
}

// A script does what its lines do, one after another.
func TestScriptsOfAllKinds(t *testing.T) {
	d := drawer(820)
	idle, others := int64(0), int64(0)
	for range 250 {
		at := d.desk()
		lines := d.lines(at, int(d.next()%25))
		script := scriptOracle(lines)
		behind, outputs := linesOracle(at, lines)
		if len(script) > impl.MaxScript {
			wantResults(t, all(impl.RunDesk(at, script)), all(noDesk, "", false), "RunDesk of too many bytes")
			continue
		}
		scriptIs(t, at, script, behind, outputs)
		step := at
		for i, line := range lines {
			var output string
			step, output, _ = impl.DeskCommand(step, line)
			wantThat(t, output, strings.Split(outputs, "\n")[i], "DeskCommand of the line of a script", line)
		}
		wantThat(t, deskBits(step), deskBits(behind), "lines one after another", script)
		if len(outputs) <= impl.MaxScript {
			bad, good, ok := impl.CountOutputs(outputs)
			wantThat(t, ok && bad+good == int64(len(lines)), true, "CountOutputs", outputs)
			idle, others = idle+bad, others+good
		}
		at = ownDesk(behind)
		half := len(lines) / 2
		middle, first, _ := impl.RunDesk(step, scriptOracle(lines[:half]))
		end, last, _ := impl.RunDesk(middle, scriptOracle(lines[half:]))
		behind, outputs = linesOracle(at, lines)
		wantResults(t, all(end, first+last), all(behind, outputs), "RunDesk of two halves", script)
	}
	wantThat(t, idle > 500 && others > 500, true, "outputs", idle, others)
}

// A script with lines that are refused, or of other forms, ends at the same desk
// as without them.
func TestIdleLinesChangeNothing(t *testing.T) {
	d := drawer(821)
	for range 150 {
		at := d.desk()
		lines := d.lines(at, 20)
		behind, outputs := linesOracle(at, lines)
		var busy []string
		for i, output := range strings.Split(outputs, "\n")[:len(lines)] {
			if output != "no" && output != "what" {
				busy = append(busy, lines[i])
			}
		}
		if script := scriptOracle(busy); len(script) <= impl.MaxScript {
			_, outputs = linesOracle(at, busy)
			scriptIs(t, at, script, behind, outputs)
		}
	}
}

func TestScriptsThatFail(t *testing.T) {
	failed := all(noDesk, "", false)
	for _, at := range []impl.Desk{freshDesk(), fullDesk()} {
		for _, script := range []string{"order", " ", "hill", "order\ntake", "\norder", "\n ", "order\n\x00", "order\r", "order\ntake\nfill", strings.Repeat("\n", impl.MaxScript-1) + " ", strings.Repeat(" ", impl.MaxScript), strings.Repeat("\n", impl.MaxScript+1), strings.Repeat("order\n", 1<<16), strings.Repeat(" ", impl.MaxScript) + "\n", "order\n" + strings.Repeat("x", impl.MaxScript-6) + "\n"} {
			wantResults(t, all(impl.RunDesk(at, script)), failed, "RunDesk", script[:min(len(script), 40)])
		}
	}
	for _, at := range wrongDesks() {
		for _, script := range []string{"", "\n", "order\n", "order", "hill 1,1;00000000\nsoil 3f800000,00000000,40800000,3e800000,00000000\nsection 3f800000,3f800000,3f800000,3f800000\nriver -1;0,0,0,0;3\n"} {
			wantResults(t, all(impl.RunDesk(at, script)), failed, "RunDesk", deskBits(at), script)
		}
	}
}

func TestScriptsOfMaxScriptBytes(t *testing.T) {
	fresh := freshDesk()
	scriptIs(t, fresh, strings.Repeat("\n", impl.MaxScript), fresh, strings.Repeat("what\n", impl.MaxScript))
	scriptIs(t, fresh, strings.Repeat(" ", impl.MaxScript-1)+"\n", fresh, "what\n")
	scriptIs(t, fresh, strings.Repeat("take\n", impl.MaxScript/5), fresh, strings.Repeat("3f800000\n", impl.MaxScript/5))
	scriptIs(t, fresh, "fill\n"+strings.Repeat("x", impl.MaxScript-6)+"\n", fresh, "ok\nwhat\n")
	// outputs can be longer than scripts
	great := withHill(fresh, evenHill(16, 16, 1))
	scriptIs(t, great, strings.Repeat("hill\n", impl.MaxScript/5), great, strings.Repeat(hillOracle(great.Hill)+"\n", impl.MaxScript/5))
	wet := withSoil(fresh, soil(1, 0, 4, 0, 0))
	lines := slices.Repeat([]string{"fall 39800000 3f800000"}, impl.MaxScript/23)
	behind, outputs := linesOracle(wet, lines)
	scriptIs(t, wet, scriptOracle(lines), behind, outputs)
	wantThat(t, behind.Soil.Wet > 0.16, true, "the soil is wet", behind.Soil)
}

func TestCountOutputs(t *testing.T) {
	for _, c := range []struct {
		outputs      string
		idle, others int64
	}{
		{"", 0, 0}, {"\n", 0, 1}, {"\n\n\n", 0, 3}, {"no\n", 1, 0}, {"what\n", 1, 0}, {"ok\n", 0, 1}, {"no\nwhat\nok\n", 2, 1}, {"ok\nno\nok\nwhat\n0,1\n", 2, 3}, {"\nno\n\nno\n\n", 2, 3},
		{"now\nnone\nno \n no\nno,\nNo\nNO\nn\no\nno\x00\nno\r\nno no\nno what\n", 0, 13}, {"whatever\nwhat \n what\nWhat\nwha\nhat\nwhat?\nwhat\x00\nwhat\r\nwhatwhat\nwhat no\n", 0, 11}, {"nowhat\nno\nwhatno\nwhat\n", 2, 2}, {"\x00\n\xff\né\n", 0, 3},
		{strings.Repeat("\n", impl.MaxScript), 0, impl.MaxScript}, {strings.Repeat("x", impl.MaxScript-1) + "\n", 0, 1}, {strings.Repeat("what\n", impl.MaxScript/5), impl.MaxScript / 5, 0}, {strings.Repeat("no\n", impl.MaxScript/3) + "\n", impl.MaxScript / 3, 1}, {strings.Repeat("x", impl.MaxScript-4) + "\nno\n", 1, 1},
	} {
		wantResults(t, all(impl.CountOutputs(c.outputs)), all(c.idle, c.others, true), "CountOutputs", c.outputs[:min(len(c.outputs), 60)])
	}
	for _, outputs := range []string{"no", "what", "ok", " ", "x", "no\nno", "\nno", "no\n ", "no\n\x00", "no\r", "ok\nwhat\nok", strings.Repeat("\n", impl.MaxScript+1), strings.Repeat("no\n", impl.MaxScript/3) + "\n\n", strings.Repeat("x", impl.MaxScript) + "\n", strings.Repeat("x", impl.MaxScript), strings.Repeat("what\n", 1<<18), strings.Repeat("\n", impl.MaxScript-1) + "x"} {
		wantResults(t, all(impl.CountOutputs(outputs)), all(int64(0), int64(0), false), "CountOutputs", outputs[:min(len(outputs), 60)])
	}
	d := drawer(822)
	words := []string{"no", "what", "ok", "", "none", "now", "whatever", "no ", "0,1", "No", "3f800000"}
	for range 500 {
		var outputs string
		var idle, others int64
		for range d.next() % 40 {
			word := d.word(words)
			outputs += word + "\n"
			if word == "no" || word == "what" {
				idle++
			} else {
				others++
			}
		}
		wantResults(t, all(impl.CountOutputs(outputs)), all(idle, others, true), "CountOutputs", outputs)
	}
}
