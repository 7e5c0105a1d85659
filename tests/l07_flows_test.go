package tests

import (
	"fmt"
	"math"
	"slices"
	"testing"

	"loop.example/g01302/impl"
)

func TestBaseFlowByHand(t *testing.T) {
	for _, c := range []struct {
		list []float32
		keep float32
		want []float32
	}{
		{floats(2, 6, 6), 1, floats(2, 2, 2)}, {floats(5), 0.5, floats(5)}, {floats(minusZero), 1, floats(minusZero)}, {floats(2, 6, 6), 0, floats(2, 4, 6)}, {floats(2, 6, 6), minusZero, floats(2, 4, 6)}, {floats(2, 6, 6), 0.5, floats(2, 3, 4.5)}, {floats(2, 6, 4), 0.5, floats(2, 3, 4)}, {floats(6, 2, 3), 1, floats(6, 2, 2)}, {floats(0, 4, 4, 4), 0.5, floats(0, 1, 2.5, 3.25)},
		// what is quick ends where it is not greater than 0, also for good
		{floats(8, 4, 5, 9), 1, floats(8, 4, 4, 4)}, {floats(1, 3, 2, 1, 2), 1, floats(1, 1, 1, 1, 1)}, {floats(1, 3, 0, 4), 1, floats(1, 1, 0, 0)},
		// no slow part is less than 0
		{floats(0, 8, 0), 0.5, floats(0, 2, 0)}, {floats(0, 8, 6), 1, floats(0, 0, 0)}, {floats(4, 8, 3), 1, floats(4, 4, 3)}, {floats(0, 8, 7, 1), 0.75, floats(0, 1, 2.625, 1)},
		{floats(0, minusZero, 0), 0.5, floats(0, minusZero, 0)}, {floats(1, minusZero), 0.5, floats(1, minusZero)},
		// next to the greatest number, q becomes infinite, and stays so
		{floats(0, 0x1.8p104, greatest, greatest, 5), 1, floats(0, 0, 0, 0, 0)},
		{floats(0, greatest, 0, greatest), 1, floats(0, 0, 0, 0)}, {floats(0, greatest, greatest), 0, floats(0, number(0x7effffff), greatest)},
	} {
		wantResults(t, all(impl.BaseFlow(c.list, c.keep)), all(c.want, true), "BaseFlow", c.list, c.keep)
		wantResults(t, all(baseOracle(c.list, c.keep)), all(c.want, true), "the oracle", c.list, c.keep)
	}
	wantThat(t, quickOracle(floats(0, 0x1.8p104, greatest), 1, 2) == infinity, true, "a q that is infinite")
	failed := all(noFloats, false)
	for _, keep := range append(invalidNumbers(), above(1), 2, -0.5, greatest) {
		for _, list := range rows(floats(2, 6, 6), floats(5)) {
			wantResults(t, all(impl.BaseFlow(list, keep)), failed, "BaseFlow", list, keep)
		}
	}
	for _, list := range wrongGauges() {
		for _, keep := range floats(0, 0.5, 1) {
			wantResults(t, all(impl.BaseFlow(list, keep)), failed, "BaseFlow", list, keep)
		}
	}
}

// The slow part is a gauge that is not greater than the other one.
func TestBaseFlowOfAllKinds(t *testing.T) {
	d := drawer(720)
	for _, list := range sampleGauges(721, 1500) {
		if len(list) > 40 {
			list = list[:40+d.next()%uint64(len(list)-40)]
		}
		for _, keep := range floats(d.share(), d.between(0, 1), d.orOdd(1), 0.925) {
			want, ok := baseOracle(list, keep)
			slow, fine := impl.BaseFlow(list, keep)
			wantResults(t, all(slow, fine), all(want, ok), "BaseFlow", list, keep)
			if !ok {
				continue
			}
			wantThat(t, impl.IsGauge(slow), true, "BaseFlow tells a gauge", list, keep)
			for k, x := range slow {
				wantThat(t, x <= list[k], true, "BaseFlow is a part", list, keep, k)
			}
		}
	}
	wantResults(t, all(impl.BaseFlow(rising(impl.MaxGauge), 1)), all(make([]float32, impl.MaxGauge), true), "BaseFlow of the most numbers")
}

func TestRecedeRateByHand(t *testing.T) {
	log := impl.LogNumber
	for _, c := range []struct {
		list []float32
		want float32
	}{
		{floats(2, 1), -log(0.5)}, {floats(4, 1), -log(0.25)}, {floats(8, 4, 2, 1), over(plus(plus(log(0.5), log(0.5)), log(0.5)), -3)}, {floats(1, 2, 1, 2), -log(0.5)}, {floats(4, 2, 2, 2, 5, 1.25), over(plus(log(0.5), log(0.25)), -2)}, {floats(greatest, tiniest, tiniest), notANumber}, {floats(1, under(1)), -log(under(1))}, {floats(above(1), 1), -log(over(1, above(1)))}, {floats(number(2), tiniest), -log(0.5)},
		{floats(1, 2), notANumber}, {floats(2, 2), notANumber}, {floats(2, 2, 2, 3, 3), notANumber}, {evenList(impl.MaxGauge, 3), notANumber}, {floats(5), notANumber}, {floats(tiniest, greatest), notANumber},
	} {
		wantTold(t, all(impl.RecedeRate(c.list)), c.want, "RecedeRate", c.list)
		wantNumber(t, recedeOracle(c.list), c.want, "the oracle", c.list)
	}
	failed := all(float32(0), false)
	for _, list := range wrongGauges() {
		wantResults(t, all(impl.RecedeRate(list)), failed, "RecedeRate", list)
	}
	for _, zero := range floats(0, minusZero) {
		for i := range 4 {
			wantResults(t, all(impl.RecedeRate(with(floats(8, 4, 2, 1), i, zero))), failed, "RecedeRate with a 0", zero, i)
		}
	}
	// one quotient that becomes 0
	wantResults(t, all(impl.RecedeRate(floats(3, 2, greatest, 1e-10, 5))), failed, "RecedeRate that is infinite")
	rate, ok := impl.RecedeRate(floats(2.7182817, 1, 4))
	wantThat(t, ok && isClose(rate, 1, 1e-6), true, "RecedeRate", rate)
}

func TestRecedeRateOfAllKinds(t *testing.T) {
	d := drawer(722)
	told := 0
	for n := range 4000 {
		list := d.gauge(1 + n%amountKinds)
		for i, x := range list {
			if x == 0 && n%9 > 0 {
				list[i] = d.length(tame)
			}
		}
		want := recedeOracle(list)
		wantTold(t, all(impl.RecedeRate(list)), want, "RecedeRate", list)
		if want == want {
			told++
			wantThat(t, want > 0, true, "RecedeRate of what recedes", list)
		}
	}
	wantThat(t, told > 1500, true, "rates that are told", told)
	for count := range impl.MaxGauge + 3 {
		list := rising(count + 1)[1:]
		slices.Reverse(list)
		_, ok := impl.RecedeRate(list)
		wantThat(t, ok, count >= 2 && count <= impl.MaxGauge, "RecedeRate of so many", count)
		wantTold(t, all(impl.RecedeRate(list)), recedeOracle(list), "RecedeRate of so many", count)
	}
}

func TestDroughtsByHand(t *testing.T) {
	for _, c := range []struct {
		list          []float32
		level         float32
		runs, longest int64
		worst         float32
	}{
		{floats(0, 1, 3, 1.5), 2, 2, 2, 3}, {floats(3, 1, 3), 2, 1, 1, 1}, {floats(1, 3, 3), 2, 1, 1, 1}, {floats(3, 3, 1), 2, 1, 1, 1}, {floats(1, 1, 1), 2, 1, 3, 3}, {floats(3, 4, 5), 2, 0, 0, 0}, {floats(2, 2), 2, 0, 0, 0}, {floats(1), 2, 1, 1, 1}, {floats(1, 3, 1, 3, 1), 2, 3, 1, 1}, {floats(1, 3, 0, 3, 1), 2, 3, 1, 2},
		// the longest run is not the worst one, and runs have equal lengths
		{floats(2, 2, 2, 5, 0), 3, 2, 3, 3}, {floats(2.5, 2.5, 2.5, 5, 0, 5), 3, 2, 3, 3}, {floats(0, 5, 2.5, 2.5, 2.5), 3, 2, 3, 3}, {floats(1, 2, 5, 2, 2, 5, 0, 2), 3, 3, 2, 4}, {floats(0, 2, 5, 2, 2, 5, 1, 2), 3, 3, 2, 4},
		// levels at bounds
		{floats(0, minusZero), 0, 0, 0, 0}, {floats(0, minusZero), minusZero, 0, 0, 0}, {floats(0, 1, minusZero), tiniest, 2, 1, tiniest}, {floats(0, 1), -1, 0, 0, 0}, {floats(0, 1), -greatest, 0, 0, 0}, {floats(0, 1), minusInf, 0, 0, 0}, {floats(1, 2), greatest, 1, 2, infinity}, {floats(0, greatest), greatest, 1, 1, greatest}, {floats(greatest, 0), greatest, 1, 1, greatest}, {floats(0, greatest, 0), greatest, 2, 1, greatest}, {floats(1), under(1), 0, 0, 0}, {floats(1), above(1), 1, 1, number(0x34000000)},
	} {
		got := all(impl.DroughtsIn(c.list, c.level))
		oracle := all(droughtsOracle(c.list, c.level))
		want := all(c.runs, c.longest, c.worst, true)
		if !finite(c.worst) {
			want = all(0, 0, float32(0), false)
		}
		wantResults(t, got, want, "DroughtsIn", c.list, c.level)
		wantResults(t, oracle, want, "the oracle", c.list, c.level)
	}
	failed := all(0, 0, float32(0), false)
	for _, list := range rows(floats(1), floats(0, 1), evenList(impl.MaxGauge, 2), floats(greatest)) {
		for _, level := range floats(notANumber, number(0xffc00000), number(0x7f800001), infinity) {
			wantResults(t, all(impl.DroughtsIn(list, level)), failed, "DroughtsIn", list, level)
		}
		wantResults(t, all(impl.DroughtsIn(list, minusInf)), all(0, 0, float32(0), true), "DroughtsIn", list)
	}
	for _, list := range wrongGauges() {
		for _, level := range floats(2, 0, minusInf) {
			wantResults(t, all(impl.DroughtsIn(list, level)), failed, "DroughtsIn", list, level)
		}
	}
	// sums begin anew, so that no other run makes one infinite
	half := greatest / 2
	wantResults(t, all(impl.DroughtsIn(floats(half, greatest, half, greatest, half), greatest)), all(3, 1, less(greatest, half), true), "DroughtsIn")
	wantResults(t, all(impl.DroughtsIn(floats(half, half, 0, greatest), greatest)), failed, "DroughtsIn that is infinite")
	wantResults(t, all(impl.DroughtsIn(evenList(impl.MaxGauge, 1), 3)), all(1, impl.MaxGauge, float32(2*impl.MaxGauge), true), "DroughtsIn of the most numbers")
}

func TestDroughtsOfAllKinds(t *testing.T) {
	d := drawer(723)
	for n, list := range sampleGauges(724, 3000) {
		for _, level := range floats(list[d.next()%uint64(len(list))], d.amount(1+n%amountKinds), math.Nextafter32(list[0], infinity), d.orOdd(1)) {
			runs, longest, worst, ok := droughtsOracle(list, level)
			wantResults(t, all(impl.DroughtsIn(list, level)), all(runs, longest, worst, ok), "DroughtsIn", list, level)
		}
	}
}

// knownAt tells which numbers are known: those where a text has x.
func knownAt(text string) []bool {
	known := make([]bool, len(text))
	for i := range text {
		known[i] = text[i] == 'x'
	}
	return known
}

func TestFillGapsByHand(t *testing.T) {
	for _, c := range []struct {
		list  []float32
		known string
		want  []float32
	}{
		{floats(9, 2, 9, 4, 9), ".x.x.", floats(2, 2, 3, 4, 4)}, {floats(1, 2, 3), "xxx", floats(1, 2, 3)}, {floats(5), "x", floats(5)}, {floats(1, 2, 3), "x..", floats(1, 1, 1)}, {floats(1, 2, 3), ".x.", floats(2, 2, 2)}, {floats(1, 2, 3), "..x", floats(3, 3, 3)}, {floats(1, 7), "x.", floats(1, 1)}, {floats(1, 7), ".x", floats(7, 7)},
		{floats(0, 9, 9, 9, 8), "x...x", floats(0, 2, 4, 6, 8)}, {floats(8, 9, 9, 9, 0), "x...x", floats(8, 6, 4, 2, 0)}, {floats(0, 9, 6, 9, 9, 0), "x.x..x", floats(0, 3, 6, 4, 2, 0)}, {floats(1, 5, 2, 5, 5, 8, 5), "x.x..x.", floats(1, 1.5, 2, 4, 6, 8, 8)}, {floats(4, 0, 0, 4), "x..x", floats(4, 4, 4, 4)},
		// signs of zeros, and the greatest ones
		{floats(1, minusZero, 1), ".x.", floats(minusZero, minusZero, minusZero)}, {floats(minusZero, 1, 0), "x.x", floats(minusZero, 0, 0)}, {floats(minusZero, 1, minusZero), "x.x", floats(minusZero, 0, minusZero)}, {floats(0, 1, minusZero), "x.x", floats(0, 0, minusZero)}, {floats(tiniest, 1, 0), "x.x", floats(tiniest, tiniest, 0)}, {floats(0, 1, tiniest), "x.x", floats(0, 0, tiniest)}, {floats(greatest, 0, greatest), "x.x", floats(greatest, greatest, greatest)}, {floats(0, 1, greatest), "x.x", floats(0, number(0x7effffff), greatest)}, {floats(greatest, 1, 0), "x.x", floats(greatest, number(0x7effffff), 0)},
		// the quotient is rounded before it is multiplied
		{floats(0, 9, 9, 3), "x..x", floats(0, times(over(1, 3), 3), times(over(2, 3), 3), 3)}, {floats(0, 9, 9, 9, 9, 9, 9, 7), "x......x", floats(0, times(over(1, 7), 7), times(over(2, 7), 7), times(over(3, 7), 7), times(over(4, 7), 7), times(over(5, 7), 7), times(over(6, 7), 7), 7)},
	} {
		known := knownAt(c.known)
		wantResults(t, all(impl.FillGaps(c.list, known)), all(c.want, true), "FillGaps", c.list, c.known)
		wantResults(t, all(gapsOracle(c.list, known)), all(c.want, true), "the oracle", c.list, c.known)
	}
}

func TestFillGapsThatFails(t *testing.T) {
	failed := all(noFloats, false)
	for _, c := range []struct {
		list  []float32
		known string
	}{
		{nil, ""}, {nil, "x"}, {floats(1), ""}, {floats(1), "."}, {floats(1), "xx"}, {floats(1), ".x"}, {floats(1, 2), "x"}, {floats(1, 2), "xxx"}, {floats(1, 2), "..x"}, {floats(1, 2), ".."}, {floats(1, 2, 3), "xx"}, {floats(1, 2, 3), "..."}, {floats(1, 2, 3), "...x"},
	} {
		wantResults(t, all(impl.FillGaps(c.list, knownAt(c.known))), failed, "FillGaps", c.list, c.known)
	}
	// numbers break the gauge, whether they are known or not
	for _, x := range invalidNumbers() {
		for i := range 3 {
			for _, known := range []string{"xxx", "x..", ".x.", "..x", "x.x"} {
				wantResults(t, all(impl.FillGaps(with(floats(1, 2, 3), i, x), knownAt(known))), failed, "FillGaps", x, i, known)
			}
		}
	}
	for _, list := range wrongGauges() {
		for _, known := range [][]bool{alike(len(list), true), alike(len(list), false), alike(len(list)+1, true), nil} {
			wantResults(t, all(impl.FillGaps(list, known)), failed, "FillGaps", list, known)
		}
	}
	for count := range impl.MaxGauge + 3 {
		_, ok := impl.FillGaps(evenList(count, 1), alike(count, true))
		wantThat(t, ok, count >= 1 && count <= impl.MaxGauge, "FillGaps of so many", count)
		wantResults(t, all(impl.FillGaps(evenList(count, 1), alike(count, false))), failed, "FillGaps of none that is known", count)
	}
}

func TestFillGapsOfAllKinds(t *testing.T) {
	d := drawer(725)
	for _, list := range sampleGauges(726, 3000) {
		known := make([]bool, len(list))
		often := 1 + d.next()%6
		for i := range known {
			known[i] = d.next()%often == 0
		}
		want, ok := gapsOracle(list, known)
		filled, fine := impl.FillGaps(list, known)
		wantResults(t, all(filled, fine), all(want, ok), "FillGaps", list, known)
		if !ok {
			continue
		}
		wantThat(t, impl.IsGauge(filled), true, "FillGaps tells a gauge", list, known)
		again, _ := impl.FillGaps(filled, known)
		wantResults(t, all(again), all(filled), "FillGaps again", list, known)
		for i, x := range filled {
			if known[i] {
				wantNumber(t, x, list[i], "FillGaps of what is known", list, i)
			}
		}
	}
	// a gap of each length at each place of the longest gauge
	for from := range impl.MaxGauge {
		for _, to := range []int{from + 1, from + 2, from + 9, impl.MaxGauge} {
			list := rising(impl.MaxGauge)
			known := alike(impl.MaxGauge, true)
			for i := from; i < min(to, impl.MaxGauge); i++ {
				known[i], list[i] = false, 1000
			}
			want, ok := gapsOracle(list, known)
			wantThat(t, ok, to < impl.MaxGauge || from > 0, "a gap", from, to)
			wantResults(t, all(impl.FillGaps(list, known)), all(want, ok), "FillGaps", from, to)
		}
	}
}

func TestScoreByHand(t *testing.T) {
	for _, c := range []struct {
		told, seen []float32
		want       float32
	}{
		{floats(1, 2), floats(1, 3), 0.5}, {floats(1, 3), floats(1, 3), 1}, {floats(2, 2), floats(1, 3), 0}, {floats(3, 1), floats(1, 3), -3}, {floats(0, 0, 0), floats(1, 2, 3), -6}, {floats(1, 2, 3), floats(1, 2, 3), 1}, {floats(1, 2, 4), floats(1, 2, 3), 0.5}, {floats(5, 5), floats(0, 2), -16}, {floats(minusZero, 2), floats(0, 2), 1}, {floats(4, 4, 4, 4), floats(0, 8, 0, 8), 0}, {evenList(3, 9), floats(0, 9, 0), -2},
		// all squares are infinite, or those of what is seen
		{floats(0, greatest), floats(greatest, 0), notANumber}, {floats(0, greatest), floats(0, greatest), 1}, {floats(1, greatest), floats(2, greatest), 1}, {floats(0, greatest), floats(0, 1), notANumber}, {floats(greatest, greatest), floats(greatest, greatest), 1},
		// what is seen is the same each time, or nearly so
		{floats(1), floats(1), notANumber}, {floats(1), floats(2), notANumber}, {floats(2, 2), floats(2, 2), notANumber}, {floats(1, 3), floats(2, 2), notANumber}, {floats(0, 1), floats(0, minusZero), notANumber}, {evenList(impl.MaxGauge, 1), evenList(impl.MaxGauge, 1), notANumber}, {floats(1, 1), floats(1e-30, 3e-30), notANumber},
	} {
		wantTold(t, all(impl.ScoreOf(c.told, c.seen)), c.want, "ScoreOf", c.told, c.seen)
		wantNumber(t, scoreOracle(c.told, c.seen), c.want, "the oracle", c.told, c.seen)
	}
	failed := all(float32(0), false)
	for _, pair := range unequalPairs() {
		wantResults(t, all(impl.ScoreOf(pair[0], pair[1])), failed, "ScoreOf", pair)
	}
	for _, list := range wrongGauges() {
		good := rising(len(list))
		wantResults(t, all(impl.ScoreOf(list, good)), failed, "ScoreOf", list)
		wantResults(t, all(impl.ScoreOf(good, list)), failed, "ScoreOf", list)
		wantResults(t, all(impl.ScoreOf(list, list)), failed, "ScoreOf", list)
	}
}

func TestLagsByHand(t *testing.T) {
	for _, c := range []struct {
		a, b []float32
		most int64
		lag  int64
		want float32
	}{
		{floats(1, 0, 0), floats(0, 1, 0), 2, 1, 0.5}, {floats(1, 0, 0), floats(0, 1, 0), 1, 1, 0.5}, {floats(1, 0, 0), floats(0, 1, 0), 0, 0, 0}, {floats(1, 0, 0), floats(0, 0, 1), 2, 2, 1}, {floats(1, 0, 0), floats(0, 0, 1), 1, 0, 0}, {floats(0, 1, 0), floats(1, 0, 0), 2, 0, 0}, {floats(3), floats(4), 0, 0, 12}, {floats(0), floats(minusZero), 0, 0, 0}, {floats(minusZero), floats(5), 0, 0, 0},
		// the first one of several
		{floats(1, 1, 1), floats(1, 1, 1), 2, 0, 1}, {floats(0, 0, 0), floats(1, 2, 3), 2, 0, 0}, {floats(1, 1, 0), floats(0, 2, 2), 2, 1, 2}, {floats(2, 0, 0, 0), floats(0, 3, 0, 0), 3, 1, 2}, {floats(1, 0, 0, 0), floats(0, 3, 2, 1), 3, 1, 1}, {floats(1, 0, 0, 0), floats(0, 3, 2, 2), 3, 3, 2}, {floats(1, 0, 0, 0), floats(0, 3, 2, 2), 2, 1, 1},
		// the mean is greatest, not the sum
		{floats(2, 2, 2), floats(2, 2, 3), 2, 2, 6}, {floats(5, 1, 1), floats(1, 1, 2), 2, 2, 10}, {floats(5, 1, 1), floats(9, 1, 2), 2, 0, 16},
	} {
		wantResults(t, all(impl.BestLag(c.a, c.b, c.most)), all(c.lag, c.want, true), "BestLag", c)
		wantResults(t, all(lagOracle(c.a, c.b, c.most)), all(c.lag, c.want, true), "the oracle", c)
	}
	failed := all(0, float32(0), false)
	for _, count := range []int{1, 2, 5, impl.MaxGauge} {
		list := evenList(count, 2)
		wantResults(t, all(impl.BestLag(list, list, int64(count)-1)), all(0, float32(4), true), "BestLag of the greatest most", count)
		for _, most := range ints(-1, int64(count), int64(count)+1, math.MinInt64, math.MaxInt64, 1<<32) {
			wantResults(t, all(impl.BestLag(list, list, most)), failed, "BestLag", count, most)
		}
	}
	for _, pair := range unequalPairs() {
		for _, most := range ints(0, 1, -1) {
			wantResults(t, all(impl.BestLag(pair[0], pair[1], most)), failed, "BestLag", pair, most)
		}
	}
	for _, list := range wrongGauges() {
		good := rising(len(list))
		wantResults(t, all(impl.BestLag(list, good, 0)), failed, "BestLag", list)
		wantResults(t, all(impl.BestLag(good, list, 0)), failed, "BestLag", list)
	}
	// one mean is infinite, before or behind others
	wantResults(t, all(impl.BestLag(floats(1e20, 1), floats(1e20, 1), 1)), failed, "BestLag that is infinite")
	wantResults(t, all(impl.BestLag(floats(1e20, 1), floats(1, 1e20), 1)), failed, "BestLag that is infinite")
	wantResults(t, all(impl.BestLag(floats(1e20, 1), floats(1, 1e20), 0)), all(0, float32(1e20), true), "BestLag that is not infinite")
}

func TestScoresAndLagsOfAllKinds(t *testing.T) {
	d := drawer(727)
	scores, lags := 0, 0
	for n, a := range sampleGauges(728, 2500) {
		b := d.rain(len(a), 1+n%amountKinds)
		if n%4 == 0 {
			b = slices.Clone(a)
			b[d.next()%uint64(len(b))] = d.amount(tame)
		}
		want := scoreOracle(a, b)
		wantTold(t, all(impl.ScoreOf(a, b)), want, "ScoreOf", a, b)
		if want == want {
			scores++
			wantThat(t, want <= 1, true, "ScoreOf is at most 1", a, b)
		}
		most := int64(d.next() % uint64(len(a)+1))
		lag, top, ok := lagOracle(a, b, most)
		wantResults(t, all(impl.BestLag(a, b, most)), all(lag, top, ok), "BestLag", a, b, most)
		if ok {
			lags++
		}
	}
	wantThat(t, scores > 1000 && lags > 1000, true, "scores and lags that are told", fmt.Sprint(scores, lags))
}
