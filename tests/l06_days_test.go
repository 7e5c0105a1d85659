package tests

import (
	"math"
	"runtime"
	"slices"
	"sync"
	"testing"

	"loop.example/g01302/impl"
)

// The water of a day is told at each bound of a dam: just below it, at it, and
// just above it.
func TestDayOfOneNodeByHand(t *testing.T) {
	const most = impl.MaxUnits
	for _, c := range []struct {
		d                         impl.Dam
		want                      int64
		inflow, now, give, leaves int64
	}{
		// nothing is held at all
		{dam(0, 0, 0, 0), 0, 0, 0, 0, 0}, {dam(0, 0, 0, 0), 0, 8, 0, 0, 8}, {dam(0, 0, 0, 0), 5, 0, 0, 0, 0}, {dam(0, 0, 0, 0), 5, 4, 0, 4, 0}, {dam(0, 0, 0, 0), 5, 5, 0, 5, 0}, {dam(0, 0, 0, 0), 5, 8, 0, 5, 3}, {dam(0, 0, 2, 0), 5, 6, 0, 5, 1}, {dam(0, 0, 2, 0), 0, 1, 0, 0, 1}, {dam(0, 0, 2, 0), 0, 9, 0, 0, 9}, {dam(0, 0, most, 0), most, most, 0, most, 0},
		// up to Size
		{dam(5, 0, 0, 0), 0, 8, 5, 0, 3}, {dam(5, 0, 0, 0), 0, 5, 5, 0, 0}, {dam(5, 0, 0, 0), 0, 4, 4, 0, 0}, {dam(5, 0, 0, 0), 0, 6, 5, 0, 1}, {dam(5, 0, 0, 5), 0, 0, 5, 0, 0}, {dam(5, 0, 0, 5), 0, 8, 5, 0, 8}, {dam(5, 0, 0, 5), 7, 0, 0, 5, 0}, {dam(5, 0, 0, 5), 7, 8, 5, 7, 1},
		// Size 20, Dead 3, Least 5, a want of 4, and 2 are there: all bounds of w from 2 to 30
		{dam(20, 3, 5, 2), 4, 0, 2, 0, 0}, {dam(20, 3, 5, 2), 4, 1, 3, 0, 0}, {dam(20, 3, 5, 2), 4, 2, 3, 1, 0}, {dam(20, 3, 5, 2), 4, 4, 3, 3, 0}, {dam(20, 3, 5, 2), 4, 5, 3, 4, 0}, {dam(20, 3, 5, 2), 4, 6, 3, 4, 1}, {dam(20, 3, 5, 2), 4, 9, 3, 4, 4}, {dam(20, 3, 5, 2), 4, 10, 3, 4, 5}, {dam(20, 3, 5, 2), 4, 11, 4, 4, 5}, {dam(20, 3, 5, 2), 4, 18, 11, 4, 5}, {dam(20, 3, 5, 2), 4, 26, 19, 4, 5}, {dam(20, 3, 5, 2), 4, 27, 20, 4, 5}, {dam(20, 3, 5, 2), 4, 28, 20, 4, 6}, {dam(20, 3, 5, 2), 4, 100, 20, 4, 78},
		// all is dead, and neither given nor let go on
		{dam(6, 6, 5, 0), 4, 5, 5, 0, 0}, {dam(6, 6, 5, 0), 4, 6, 6, 0, 0}, {dam(6, 6, 5, 6), 4, 0, 6, 0, 0}, {dam(6, 6, 5, 6), 4, 3, 6, 3, 0}, {dam(6, 6, 5, 6), 4, 7, 6, 4, 3}, {dam(6, 6, 5, 6), 4, 10, 6, 4, 6}, {dam(6, 6, 0, 6), 0, 1, 6, 0, 1},
		// the want comes first
		{dam(9, 0, 4, 3), 4, 0, 0, 3, 0}, {dam(9, 0, 4, 3), 4, 1, 0, 4, 0}, {dam(9, 0, 4, 3), 4, 3, 0, 4, 2}, {dam(9, 0, 4, 3), 0, 0, 0, 0, 3}, {dam(9, 0, 4, 9), 0, 0, 5, 0, 4},
		// the greatest numbers
		{dam(most, 0, 0, most), 0, most, most, 0, most}, {dam(most, 0, 0, 0), 0, most, most, 0, 0}, {dam(most, 0, 0, 1), 0, most, most, 0, 1}, {dam(most, most, most, most), most, most, most, most, 0}, {dam(most, 0, most, most), most, most, 0, most, most}, {dam(most, 0, most, most), 0, most, most, 0, most}, {dam(most, most, most, most-1), 1, 1, most, 0, 0}, {dam(most, most, most, most-1), 1, 2, most, 1, 0},
	} {
		next := c.d
		next.Now = c.now
		want := all(single(next, c.want), ints(c.give), ints(c.leaves), true)
		r := single(c.d, c.want)
		wantResults(t, all(impl.DayOf(r, ints(c.inflow))), want, "DayOf", r, c.inflow)
		wantResults(t, all(dayOracle(r, ints(c.inflow))), want, "the oracle", r, c.inflow)
	}
}

func TestDayOfRiversByHand(t *testing.T) {
	r := river(ints(1, 2, -1), []impl.Dam{dam(5, 0, 1, 0), dam(0, 0, 0, 0), dam(10, 2, 0, 4)}, ints(2, 3, 0))
	// The first one gives 2, lets 1 go on, keeps 5, and 2 go on as well; the second one gives 3 of 4.
	wantResults(t, all(impl.DayOf(r, ints(10, 1, 7))), all(river(r.Downs, []impl.Dam{dam(5, 0, 1, 5), dam(0, 0, 0, 0), dam(10, 2, 0, 10)}, r.Wants), ints(2, 3, 0), ints(3, 1, 2), true), "DayOf")
	wantResults(t, all(impl.DayOf(r, ints(0, 0, 0))), all(r, ints(0, 0, 0), ints(0, 0, 0), true), "DayOf without inflows")
	// Upwards, and from several nodes to one.
	up := dryRiver(-1, 0, 1)
	wantResults(t, all(impl.DayOf(up, ints(1, 10, 100))), all(up, ints(0, 0, 0), ints(111, 110, 100), true), "DayOf of a river whose nodes lead upwards")
	fork := dryRiver(2, 2, -1, 2, -1)
	wantResults(t, all(impl.DayOf(fork, ints(1, 20, 300, 4000, 50000))), all(fork, alike(5, int64(0)), ints(1, 20, 4321, 4000, 50000), true), "DayOf of a river that comes together")
	// What comes and what leaves can be more than MaxUnits.
	most := int64(impl.MaxUnits)
	full := lineTo(impl.MaxNodes)
	full.Dams = alike(impl.MaxNodes, dam(most, 0, most, most))
	empty, leaves := ownRiver(full), noInts
	for i := range int64(impl.MaxNodes) {
		empty.Dams[i].Now = most
		leaves = append(leaves, (i+1)*most)
	}
	wantResults(t, all(impl.DayOf(full, alike(impl.MaxNodes, most))), all(empty, make([]int64, impl.MaxNodes), leaves, true), "DayOf of the greatest river")
}

// failedDay and failedRun are the results of calls that fail.
func failedDay() []any { return all(noRiver, noInts, noInts, false) }
func failedRun() []any { return all(noRiver, noDays, noInts, false) }

func TestWrongDaysFail(t *testing.T) {
	r := river(ints(1, -1), []impl.Dam{dam(5, 0, 1, 0), dam(9, 2, 0, 4)}, ints(2, 0))
	for _, inflows := range append(days(nil, ints(1), ints(1, 2, 3), alike(impl.MaxNodes, int64(1))), days(ints(-1, 0), ints(0, -1), ints(impl.MaxUnits+1, 0), ints(0, impl.MaxUnits+1), ints(math.MinInt64, 0), ints(0, math.MaxInt64))...) {
		wantResults(t, all(impl.DayOf(r, inflows)), failedDay(), "DayOf", inflows)
	}
	for _, list := range wrongDays() {
		wantResults(t, all(impl.RunDays(r, list)), failedRun(), "RunDays", list)
		wantResults(t, all(impl.LedgerOf(r, list)), all(0, 0, 0, 0, false), "LedgerOf", list)
		wantResults(t, all(impl.ShortDays(r, list)), all(noInts, false), "ShortDays", list)
		for _, most := range ints(0, 9, impl.MaxUnits) {
			wantResults(t, all(impl.LeastSize(r, 0, list, most)), all(0, false), "LeastSize", list, most)
			wantResults(t, all(impl.LeastSize(r, 1, list, most)), all(0, false), "LeastSize", list, most)
		}
		for workers := int64(1); workers <= impl.MaxCrew; workers++ {
			wantResults(t, all(impl.RunManyDays(rivers(r), list, workers)), all(noRivers, false), "RunManyDays", list, workers)
			wantResults(t, all(impl.RunManyDays(alike(impl.MaxNodes, r), list, workers)), all(noRivers, false), "RunManyDays", list, workers)
		}
	}
}

func TestDaysAtTheirLimits(t *testing.T) {
	d := drawer(610)
	for _, nodes := range []int{1, 2, impl.MaxNodes} {
		for _, count := range []int{0, 1, 2, impl.MaxDays - 1, impl.MaxDays} {
			r, list := d.river(nodes, unitKinds), d.days(count, nodes, unitKinds)
			end, given, gone, ok := runDaysOracle(r, list)
			wantThat(t, ok && len(given) == count && len(gone) == count, true, "the oracle")
			wantResults(t, all(impl.RunDays(r, list)), all(end, given, gone, true), "RunDays", r, list)
			wantResults(t, all(impl.LedgerOf(r, list)), all(ledgerOracle(r, list)), "LedgerOf", r, list)
			wantResults(t, all(impl.ShortDays(r, list)), all(shortOracle(r, list)), "ShortDays", r, list)
		}
		r := d.river(nodes, unitKinds)
		for _, list := range [][][]int64{evenDays(impl.MaxDays+1, nodes, 0), evenDays(2*impl.MaxDays, nodes, 0)} {
			wantResults(t, all(impl.RunDays(r, list)), failedRun(), "RunDays of too many days", nodes)
		}
		for _, inflow := range ints(0, impl.MaxUnits) {
			for _, count := range []int{1, impl.MaxDays} {
				list := evenDays(count, nodes, inflow)
				wantResults(t, all(impl.RunDays(r, list)), all(runDaysOracle(r, list)), "RunDays", r, inflow)
				wantResults(t, all(impl.LedgerOf(r, list)), all(ledgerOracle(r, list)), "LedgerOf", r, inflow)
			}
		}
	}
}

func TestRunsByHand(t *testing.T) {
	r := single(dam(5, 0, 0, 0), 2)
	list := days(ints(8), ints(0), ints(1), ints(0), ints(0))
	wantResults(t, all(impl.RunDays(r, list)), all(single(dam(5, 0, 0, 0), 2), days(ints(2), ints(2), ints(2), ints(2), ints(0)), ints(1, 0, 0, 0, 0), true), "RunDays")
	wantResults(t, all(impl.LedgerOf(r, list)), all(9, 8, 1, 0, true), "LedgerOf")
	wantResults(t, all(impl.LedgerOf(r, list[:1])), all(8, 2, 1, 5, true), "LedgerOf of a day")
	wantResults(t, all(impl.LedgerOf(single(dam(5, 0, 3, 5), 1), days(ints(0), ints(0)))), all(0, 2, 3, -5, true), "LedgerOf of a dam that runs empty")
	wantResults(t, all(impl.LedgerOf(r, nil)), all(0, 0, 0, 0, true), "LedgerOf of no days")
	wantResults(t, all(impl.ShortDays(r, list)), all(ints(1), true), "ShortDays")
	wantResults(t, all(impl.ShortDays(r, nil)), all(ints(0), true), "ShortDays of no days")
	wantResults(t, all(impl.ShortDays(single(dam(0, 0, 0, 0), 0), list)), all(ints(0), true), "ShortDays without a want")
	wantResults(t, all(impl.ShortDays(river(ints(1, -1), make([]impl.Dam, 2), ints(3, 4)), days(ints(2, 9), ints(3, 3), ints(7, 0), ints(8, 0)))), all(ints(1, 1), true), "ShortDays of two nodes")
	wantResults(t, all(impl.ShortDays(lineTo(3), evenDays(4, 3, 0))), all(ints(0, 0, 0), true), "ShortDays of a dry line")
	wantResults(t, all(impl.RunDays(r, nil)), all(r, noDays, noInts, true), "RunDays of no days")
	// Two outlets, of which both give to the sea.
	two := dryRiver(-1, -1, 0)
	wantResults(t, all(impl.RunDays(two, days(ints(1, 10, 100), ints(2, 0, 0)))), all(two, evenDays(2, 3, 0), ints(111, 2), true), "RunDays of two outlets")
}

func TestDaysOfAllKinds(t *testing.T) {
	d := drawer(611)
	for n := range 3000 {
		nodes, kinds := d.nodeCount(), 1+n%unitKinds
		r, list := d.river(nodes, kinds), d.days(int(d.next()%8), nodes, kinds)
		if n%8 == 0 {
			list = append(list, d.unitList(d.nodeCount(), kinds))
		}
		for _, inflows := range list {
			wantResults(t, all(impl.DayOf(r, inflows)), all(dayOracle(r, inflows)), "DayOf", r, inflows)
		}
		wantResults(t, all(impl.RunDays(r, list)), all(runDaysOracle(r, list)), "RunDays", r, list)
		wantResults(t, all(impl.LedgerOf(r, list)), all(ledgerOracle(r, list)), "LedgerOf", r, list)
		wantResults(t, all(impl.ShortDays(r, list)), all(shortOracle(r, list)), "ShortDays", r, list)
	}
}

// What comes is given, kept, or goes to the sea, exactly: at each node, each
// day, and altogether.
func TestRiversLoseNothing(t *testing.T) {
	d := drawer(612)
	for n := range 2000 {
		nodes, kinds := d.nodeCount(), 1+n%unitKinds
		r, list := d.river(nodes, kinds), d.days(1+int(d.next()%9), nodes, kinds)
		for _, inflows := range list {
			next, gives, leaves, ok := impl.DayOf(r, inflows)
			comes := slices.Clone(inflows)
			for i, down := range r.Downs {
				if down >= 0 {
					comes[down] += leaves[i]
				}
			}
			for i, come := range comes {
				wantThat(t, come+r.Dams[i].Now, gives[i]+leaves[i]+next.Dams[i].Now, "DayOf keeps the water of a node", r, inflows, i)
				wantThat(t, gives[i] <= r.Wants[i], true, "DayOf gives no more than the want", r, inflows, i)
			}
			wantThat(t, ok && impl.ValidRiver(next), true, "DayOf", r, inflows)
		}
		in, out, away, kept, ok := impl.LedgerOf(r, list)
		wantThat(t, ok && in == out+away+kept && in == sum(list...), true, "LedgerOf", r, list)
		end, given, gone, ok := impl.RunDays(r, list)
		before, _ := impl.StoredIn(r)
		behind, _ := impl.StoredIn(end)
		wantThat(t, ok && out == sum(given...) && away == sum(gone) && kept == behind-before, true, "LedgerOf tells RunDays", r, list)
	}
}

// Runs can be cut anywhere: what comes of the days before and behind is what
// comes of all.
func TestRunsAreCutAnywhere(t *testing.T) {
	d := drawer(613)
	for n := range 300 {
		nodes, kinds := d.nodeCount(), 1+n%unitKinds
		r, list := d.river(nodes, kinds), d.days(int(d.next()%12), nodes, kinds)
		if n%30 == 0 {
			list = d.days(impl.MaxDays, nodes, kinds)
		}
		end, given, gone, ok := impl.RunDays(r, list)
		in, out, away, kept, _ := impl.LedgerOf(r, list)
		shorts, _ := impl.ShortDays(r, list)
		wantThat(t, ok, true, "RunDays", r, list)
		for k := range len(list) + 1 {
			middle, early, lost, fine := impl.RunDays(r, list[:k])
			last, late, more, good := impl.RunDays(middle, list[k:])
			wantThat(t, fine && good, true, "RunDays of a part", r, list, k)
			wantResults(t, all(last, append(early, late...), append(lost, more...)), all(end, given, gone), "RunDays that is cut", r, list, k)
			in1, out1, away1, kept1, _ := impl.LedgerOf(r, list[:k])
			in2, out2, away2, kept2, _ := impl.LedgerOf(middle, list[k:])
			wantResults(t, all(in1+in2, out1+out2, away1+away2, kept1+kept2), all(in, out, away, kept), "LedgerOf that is cut", r, list, k)
			first, _ := impl.ShortDays(r, list[:k])
			second, _ := impl.ShortDays(middle, list[k:])
			for i := range shorts {
				wantThat(t, first[i]+second[i], shorts[i], "ShortDays that is cut", r, list, k, i)
			}
		}
		step := r
		for k, inflows := range list {
			var gives []int64
			step, gives, _, ok = impl.DayOf(step, inflows)
			wantResults(t, all(gives, ok), all(given[k], true), "DayOf after DayOf", r, list, k)
		}
		wantThat(t, impl.SameRiver(step, end), true, "DayOf day by day", r, list)
	}
}

// What goes to the sea from one river comes to a node of another one, if both
// are joined.
func TestJoinedRiversFlowOn(t *testing.T) {
	d := drawer(614)
	tried := 0
	for n := range 1000 {
		kinds := 1 + n%3
		a, b := d.river(1+int(d.next()%6), kinds), d.river(1+int(d.next()%6), kinds)
		at := int64(d.next() % uint64(len(a.Downs)))
		joined, ok := impl.JoinRivers(a, b, at)
		wantThat(t, ok, true, "JoinRivers", a, b, at)
		one, other := d.unitList(len(a.Downs), kinds), d.unitList(len(b.Downs), kinds)
		end, gives, leaves, ok := impl.DayOf(joined, append(slices.Clone(one), other...))
		wantThat(t, ok, true, "DayOf of joined rivers", joined)
		upper, upGives, upLeaves, _ := impl.DayOf(b, other)
		_, _, gone, _ := impl.RunDays(b, days(other))
		lower, lowGives, lowLeaves, ok := impl.DayOf(a, with(one, int(at), one[at]+gone[0]))
		if !ok {
			continue // more comes to the node than an inflow can be
		}
		tried++
		parts, _ := impl.JoinRivers(lower, upper, at)
		wantResults(t, all(end, gives, leaves), all(parts, append(lowGives, upGives...), append(lowLeaves, upLeaves...)), "DayOf of joined rivers", a, b, at)
	}
	wantThat(t, tried > 900, true, "joined rivers are tried", tried)
}

func TestRunManyDaysAtItsLimits(t *testing.T) {
	d := drawer(615)
	for _, nodes := range []int{1, 3, impl.MaxNodes} {
		for _, length := range []int{0, 1, impl.MaxDays} {
			dates := d.days(length, nodes, unitKinds)
			for count := range impl.MaxNodes + 1 {
				list := noRivers
				for range count {
					list = append(list, d.river(nodes, unitKinds))
				}
				want, ok := manyOracle(list, dates, 1)
				wantThat(t, ok && len(want) == count, true, "the oracle")
				for workers := int64(1); workers <= impl.MaxCrew; workers++ {
					wantResults(t, all(impl.RunManyDays(list, dates, workers)), all(want, true), "RunManyDays", list, dates, workers)
				}
				for _, workers := range ints(0, -1, impl.MaxCrew+1, 2*impl.MaxCrew, math.MaxInt64, math.MinInt64, 1<<32+1) {
					wantResults(t, all(impl.RunManyDays(list, dates, workers)), all(noRivers, false), "RunManyDays with workers", count, workers)
				}
			}
			for _, count := range []int{impl.MaxNodes + 1, 2 * impl.MaxNodes} {
				for workers := int64(1); workers <= impl.MaxCrew; workers++ {
					wantResults(t, all(impl.RunManyDays(alike(count, d.river(nodes, unitKinds)), dates, workers)), all(noRivers, false), "RunManyDays of too many rivers", count, workers)
				}
			}
		}
	}
}

// One river makes all fail: one that is not valid, or has another number of nodes.
func TestRunManyDaysFailsWithOneRiver(t *testing.T) {
	d := drawer(616)
	for _, bad := range append(wrongRivers()[:40], lineTo(2), lineTo(4), dryRiver(-1)) {
		for _, count := range []int{1, 2, 5, impl.MaxNodes} {
			for at := range count {
				list := noRivers
				for range count {
					list = append(list, d.river(3, unitKinds))
				}
				list[at] = bad
				for workers := int64(1); workers <= impl.MaxCrew; workers++ {
					wantResults(t, all(impl.RunManyDays(list, d.days(2, 3, unitKinds), workers)), all(noRivers, false), "RunManyDays", list, workers)
				}
			}
		}
	}
}

// Of no rivers none fails, whatever the days: only the workers can be wrong.
func TestRunManyDaysOfNoRivers(t *testing.T) {
	fine := [][][]int64{nil, {}, evenDays(1, 1, 0), evenDays(impl.MaxDays, impl.MaxNodes, impl.MaxUnits)}
	odd := append(wrongDays(), evenDays(1, impl.MaxNodes+1, 1), make([][]int64, impl.MaxDays+1), alike(1000, ints(-1)))
	for _, dates := range append(fine, odd...) {
		for _, list := range [][]impl.River{nil, {}} {
			for workers := int64(1); workers <= impl.MaxCrew; workers++ {
				wantResults(t, all(impl.RunManyDays(list, dates, workers)), all(noRivers, true), "RunManyDays without rivers", dates, workers)
			}
			for _, workers := range ints(0, -1, impl.MaxCrew+1, math.MaxInt64, math.MinInt64) {
				wantResults(t, all(impl.RunManyDays(list, dates, workers)), all(noRivers, false), "RunManyDays without rivers", dates, workers)
			}
		}
	}
}

func TestRunManyDaysOfAllKinds(t *testing.T) {
	d := drawer(617)
	failed := 0
	for n := range 1500 {
		nodes, kinds := d.nodeCount(), 1+n%unitKinds
		list, dates := noRivers, d.days(int(d.next()%5), nodes, kinds)
		for range d.next() % 6 {
			r := d.river(nodes, kinds)
			if d.next()%12 == 0 {
				r = d.river(d.nodeCount(), kinds)
			}
			list = append(list, r)
		}
		want, ok := manyOracle(list, dates, 1)
		if !ok {
			failed++
		}
		for _, workers := range ints(1, 2, 3, 8) {
			wantResults(t, all(impl.RunManyDays(list, dates, workers)), all(want, ok), "RunManyDays", list, dates, workers)
		}
		for i := range want {
			end, _, _, _ := impl.RunDays(list[i], dates)
			wantThat(t, impl.SameRiver(end, want[i]), true, "RunManyDays tells RunDays", list, dates, i)
		}
	}
	wantThat(t, failed > 100 && failed < 500, true, "RunManyDays is tried with rivers that fail, and that do not", failed)
}

func TestRiverWorkersAreAtAnEndWithTheCall(t *testing.T) {
	d := drawer(618)
	list, dates := noRivers, d.days(impl.MaxDays, 3, unitKinds)
	for range impl.MaxNodes {
		list = append(list, d.river(3, unitKinds))
	}
	before := runtime.NumGoroutine()
	for range 100 {
		for _, r := range []impl.River{list[0], lineTo(2), noRiver} {
			impl.RunManyDays(append(rivers(r), list[1:]...), dates, impl.MaxCrew)
			impl.RunManyDays(append(slices.Clone(list[1:]), r), dates, impl.MaxCrew-1)
		}
		impl.RunManyDays(nil, dates, impl.MaxCrew)
	}
	wantNoMoreWorkers(t, before)
}

func TestRiversAreRunByManyCallersAtOnce(t *testing.T) {
	d := drawer(619)
	list, dates := noRivers, d.days(impl.MaxDays, 5, unitKinds)
	for range impl.MaxNodes {
		list = append(list, d.river(5, unitKinds))
	}
	want, ok := manyOracle(list, dates, 1)
	wantThat(t, ok, true, "the oracle")
	var callers sync.WaitGroup
	for n := range 16 {
		callers.Go(func() {
			wantResults(t, all(impl.RunManyDays(list, dates, int64(n%impl.MaxCrew+1))), all(want, true), "RunManyDays beside others", n)
		})
	}
	callers.Wait()
}

func TestLeastSizeByHand(t *testing.T) {
	const most = impl.MaxUnits
	dry := days(ints(8), ints(0), ints(0))
	for _, c := range []struct {
		d          impl.Dam
		want       int64
		dates      [][]int64
		most, size int64
	}{
		{dam(5, 0, 0, 0), 2, dry, 10, 4}, {dam(0, 0, 0, 0), 2, dry, 4, 4}, {dam(0, 0, 0, 0), 2, dry, 3, -1}, {dam(9, 0, 0, 0), 2, dry, most, 4}, {dam(9, 0, 0, 0), 2, dry, 0, -1},
		// nothing is wanted, or no days come, or enough comes each day
		{dam(5, 0, 0, 0), 0, dry, 10, 0}, {dam(5, 0, 0, 0), 0, dry, 0, 0}, {dam(5, 0, 0, 0), most, nil, most, 0}, {dam(5, 0, 0, 0), most, nil, 0, 0}, {dam(5, 0, 0, 0), most, nil, 1, 0}, {dam(0, 0, 0, 0), 3, days(ints(3), ints(4)), most, 0}, {dam(0, 0, 0, 0), most, days(ints(most)), most, 0},
		// even the Size most is too small
		{dam(5, 0, 0, 5), 4, days(ints(0), ints(0)), most, -1}, {dam(5, 0, 0, 5), 1, evenDays(6, 1, 0), most, -1}, {dam(5, 0, 0, 5), 1, evenDays(5, 1, 0), most, 5}, {dam(5, 0, 0, 5), 1, evenDays(5, 1, 0), 5, 5}, {dam(5, 0, 0, 5), 1, evenDays(5, 1, 0), 4, -1}, {dam(0, 0, 0, 0), 1, days(ints(0)), most, -1}, {dam(0, 0, 0, 0), 1, days(ints(0)), 0, -1},
		// Now becomes less with the Size
		{dam(100, 0, 0, 60), 7, days(ints(0)), 100, 7}, {dam(100, 0, 0, 60), 30, days(ints(0), ints(0)), 100, 60}, {dam(100, 0, 0, 60), 30, days(ints(0), ints(0)), 59, -1}, {dam(100, 0, 0, 60), 30, days(ints(0), ints(0)), 60, 60}, {dam(most, 0, 0, most), most, days(ints(0)), most, most}, {dam(most, 0, 0, most), most, days(ints(0)), most - 1, -1},
		// so does Dead: what is dead cannot be given, so that less can be more
		{dam(100, 40, 0, 50), 5, days(ints(0)), 100, 45}, {dam(100, 40, 0, 50), 5, days(ints(0)), 45, 45}, {dam(100, 40, 0, 50), 5, days(ints(0)), 44, -1}, {dam(100, 40, 0, 50), 11, days(ints(0)), 100, -1}, {dam(100, 100, 0, 0), 5, days(ints(9)), 2, 0}, {dam(100, 100, 0, 0), 5, days(ints(9)), 4, 0}, {dam(100, 100, 0, 0), 5, days(ints(9)), 5, -1}, {dam(100, 100, 0, 100), 5, days(ints(9)), 100, 0}, {dam(100, 3, 0, 0), 2, dry, 20, -1}, {dam(100, 3, 0, 0), 2, days(ints(9), ints(0), ints(0)), 20, 7}, {dam(100, 6, 0, 0), 1, days(ints(6)), 5, 0}, {dam(100, 6, 0, 0), 1, days(ints(6)), 6, -1},
		// what must go on is gone
		{dam(100, 0, 2, 0), 2, dry, 100, -1}, {dam(100, 0, 1, 0), 2, dry, 100, 5}, {dam(100, 0, most, 50), 3, days(ints(0)), 100, 3}, {dam(100, 0, most, 50), 3, days(ints(0), ints(0)), 100, -1},
	} {
		r := single(c.d, c.want)
		want := all(max(c.size, 0), c.size >= 0)
		wantResults(t, all(leastOracle(r, 0, c.dates, c.most)), want, "the oracle", r, c.dates, c.most)
		wantResults(t, all(impl.LeastSize(r, 0, c.dates, c.most)), want, "LeastSize", r, c.dates, c.most)
	}
	r := lineTo(3)
	for _, i := range ints(-1, 3, -2, 4, impl.MaxNodes, 1<<32, math.MaxInt64, math.MinInt64) {
		wantResults(t, all(impl.LeastSize(r, i, nil, 5)), all(0, false), "LeastSize", i)
	}
	for i := range int64(3) {
		wantResults(t, all(impl.LeastSize(r, i, nil, 5)), all(0, true), "LeastSize", i)
		for _, limit := range notUnits() {
			wantResults(t, all(impl.LeastSize(r, i, nil, limit)), all(0, false), "LeastSize", i, limit)
		}
		for _, limit := range ints(0, 1, 2, most-1, most) {
			wantResults(t, all(impl.LeastSize(r, i, nil, limit)), all(0, true), "LeastSize", i, limit)
		}
	}
	// Only the days on which the node itself is short count, not those of others.
	two := river(ints(-1, 0), []impl.Dam{dam(0, 0, 0, 0), dam(5, 0, 0, 0)}, ints(9, 2))
	wantResults(t, all(impl.LeastSize(two, 1, days(ints(0, 8), ints(0, 0)), 10)), all(2, true), "LeastSize beside a node that is short")
	wantResults(t, all(impl.LeastSize(two, 0, days(ints(0, 8), ints(0, 0)), 10)), all(0, false), "LeastSize of a node that is short")
}

func TestLeastSizesOfAllKinds(t *testing.T) {
	d := drawer(620)
	failed, inner := 0, 0
	for n := range 4000 {
		nodes, kinds := 1+int(d.next()%4), 1+n%unitKinds
		r, dates := d.river(nodes, kinds), d.days(int(d.next()%6), nodes, kinds)
		i := int(d.next() % uint64(nodes))
		r.Wants[i] /= 1 + int64(d.next()%5)
		if d.next()%3 > 0 {
			r.Dams[i].Least = 0
		}
		most := d.units(kinds)
		if d.next()%2 == 0 {
			most = r.Dams[i].Size
		}
		want, ok := leastOracle(r, int64(i), dates, most)
		wantResults(t, all(impl.LeastSize(r, int64(i), dates, most)), all(want, ok), "LeastSize", r, i, dates, most)
		if !ok {
			failed++
		} else if want > 0 && want < most {
			inner++
		}
	}
	wantThat(t, failed > 1000 && inner > 150, true, "LeastSize is tried with rivers that fail, and with sizes between", failed, inner)
}
