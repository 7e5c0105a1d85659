package tests

import (
	"fmt"
	"math"
	"slices"
	"testing"

	"loop.example/g01302/impl"
)

func TestValidRivers(t *testing.T) {
	for _, r := range []impl.River{
		dryRiver(-1), valley(), lineTo(2), lineTo(impl.MaxNodes), dryRiver(alike(impl.MaxNodes, int64(-1))...), dryRiver(-1, 0, 1, 2), dryRiver(append(ints(-1), make([]int64, impl.MaxNodes-1)...)...), dryRiver(1, -1, -1, 0),
		single(dam(impl.MaxUnits, impl.MaxUnits, impl.MaxUnits, impl.MaxUnits), impl.MaxUnits), single(dam(0, 0, impl.MaxUnits, 0), 0), single(dam(5, 5, 0, 0), 0), single(dam(5, 0, 9, 5), 0), single(dam(5, 5, 5, 5), 0), single(dam(1, 0, 0, 0), 0), single(dam(0, 0, 0, 0), impl.MaxUnits),
	} {
		wantThat(t, impl.ValidRiver(r), true, "ValidRiver", r)
		wantThat(t, validRiverOracle(r), true, "the oracle", r)
	}
	for _, r := range wrongRivers() {
		wantThat(t, impl.ValidRiver(r), false, "ValidRiver", r)
		wantThat(t, validRiverOracle(r), false, "the oracle", r)
	}
}

// allDowns are all lists of so many numbers from -2 on, of which some lead
// around, or to no node.
func allDowns(count int) [][]int64 {
	list := days(nil)
	for range count {
		longer := noDays
		for _, downs := range list {
			for down := int64(-2); down <= int64(count); down++ {
				longer = append(longer, append(slices.Clone(downs), down))
			}
		}
		list = longer
	}
	return list
}

func TestAllSmallRivers(t *testing.T) {
	trees := 0
	for count := range 5 {
		for _, downs := range allDowns(count) {
			r := dryRiver(downs...)
			if validRiverOracle(r) {
				trees++
			}
			wantThat(t, impl.ValidRiver(r), validRiverOracle(r), "ValidRiver", downs)
			wantWays(t, r)
		}
	}
	// So many forests have up to four labelled nodes, each tree with a root.
	wantThat(t, trees, 1+3+16+125, "rivers of up to four nodes")
}

// wantWays holds all that is told of the ways of a river against the oracle.
func wantWays(t *testing.T, r impl.River) {
	t.Helper()
	wantResults(t, all(impl.FlowOrder(r)), all(flowOrderOracle(r)), "FlowOrder", r.Downs)
	wantResults(t, all(impl.OutletsOf(r)), all(outletsOracle(r)), "OutletsOf", r.Downs)
	wantResults(t, all(impl.DepthsIn(r)), all(depthsOracle(r)), "DepthsIn", r.Downs)
	for i := int64(-1); i <= int64(len(r.Downs)); i++ {
		wantResults(t, all(impl.UpFrom(r, i)), all(upOracle(r, i)), "UpFrom", r.Downs, i)
		for k := int64(-1); k <= int64(len(r.Downs)); k++ {
			wantResults(t, all(impl.MeetingOf(r, i, k)), all(meetOracle(r, i, k)), "MeetingOf", r.Downs, i, k)
		}
	}
}

func TestWaysOfRiversOfAllKinds(t *testing.T) {
	d := drawer(600)
	for n := range 1500 {
		r := d.river(d.nodeCount(), 1+n%unitKinds)
		wantThat(t, impl.ValidRiver(r), true, "ValidRiver", r)
		wantWays(t, r)
	}
	for n := range 3000 {
		r := d.river(d.nodeCount(), 1+n%unitKinds)
		i, x := int(d.next()%uint64(len(r.Downs))), int64(d.next()%20)-5
		switch n % 7 {
		case 0:
			r.Dams[i].Size = x
		case 1:
			r.Dams[i].Dead += x
		case 2:
			r.Dams[i].Now += x
		case 3:
			r.Dams[i].Least += x
		case 4:
			r.Wants[i] += x
		default:
			r.Downs[i] = x
		}
		wantThat(t, impl.ValidRiver(r), validRiverOracle(r), "ValidRiver", r)
		wantWays(t, r)
	}
}

func TestWaysOfRiversByHand(t *testing.T) {
	for _, c := range []struct {
		downs, order, outlets, depths []int64
	}{
		{ints(-1), ints(0), ints(0), ints(0)},
		{ints(1, 2, -1), ints(0, 1, 2), ints(2), ints(2, 1, 0)},
		{ints(-1, 0, 1), ints(2, 1, 0), ints(0), ints(0, 1, 2)},
		// several nodes can come next: also one that a later one has just made able to
		{ints(-1, -1, -1), ints(0, 1, 2), ints(0, 1, 2), ints(0, 0, 0)},
		{ints(2, 2, -1, 2), ints(0, 1, 3, 2), ints(2), ints(1, 1, 0, 1)},
		{ints(-1, -1, 0, 1), ints(2, 0, 3, 1), ints(0, 1), ints(0, 0, 1, 1)},
		{ints(-1, -1, 1, 0), ints(2, 1, 3, 0), ints(0, 1), ints(0, 0, 1, 1)},
		{ints(-1, 0, -1, 1, 1, 2), ints(3, 4, 1, 0, 5, 2), ints(0, 2), ints(0, 1, 0, 2, 2, 1)},
		{ints(4, 4, 3, -1, 3, -1), ints(0, 1, 2, 4, 3, 5), ints(3, 5), ints(2, 2, 1, 0, 1, 0)},
	} {
		r := dryRiver(c.downs...)
		wantResults(t, all(impl.FlowOrder(r)), all(c.order, true), "FlowOrder", c.downs)
		wantResults(t, all(impl.OutletsOf(r)), all(c.outlets, true), "OutletsOf", c.downs)
		wantResults(t, all(impl.DepthsIn(r)), all(c.depths, true), "DepthsIn", c.downs)
	}
	r := dryRiver(2, 2, 4, -1, -1, 3)
	for i, up := range days(ints(0), ints(1), ints(0, 1, 2), ints(3, 5), ints(0, 1, 2, 4), ints(5)) {
		wantResults(t, all(impl.UpFrom(r, int64(i))), all(up, true), "UpFrom", i)
	}
	for _, c := range []struct{ i, k, meet int64 }{
		{0, 0, 0}, {3, 3, 3}, {4, 4, 4}, {0, 1, 2}, {0, 2, 2}, {0, 4, 4}, {1, 4, 4}, {2, 4, 4}, {3, 5, 3}, {0, 3, -1}, {4, 3, -1}, {1, 5, -1}, {5, 2, -1},
	} {
		want := all(max(c.meet, 0), c.meet >= 0)
		wantResults(t, all(impl.MeetingOf(r, c.i, c.k)), want, "MeetingOf", c.i, c.k)
		wantResults(t, all(impl.MeetingOf(r, c.k, c.i)), want, "MeetingOf", c.k, c.i)
	}
	for _, i := range ints(-1, -2, 6, 7, impl.MaxNodes, 1<<32, math.MaxInt64, math.MinInt64) {
		wantResults(t, all(impl.UpFrom(r, i)), all(noInts, false), "UpFrom", i)
		wantResults(t, all(impl.MeetingOf(r, i, 0)), all(int64(0), false), "MeetingOf", i, 0)
		wantResults(t, all(impl.MeetingOf(r, 0, i)), all(int64(0), false), "MeetingOf", 0, i)
		wantResults(t, all(impl.MeetingOf(r, i, i)), all(int64(0), false), "MeetingOf", i, i)
	}
}

// Of all orders in which each node comes behind those that lead to it, that of
// FlowOrder is the least one.
func TestFlowOrderIsTheLeastOne(t *testing.T) {
	orders := permutations(6)
	d := drawer(601)
	for range 200 {
		r := dryRiver(d.downs(6, 2+d.next()%6)...)
		fits := func(order []int64) bool {
			for k, i := range order {
				if slices.Contains(order[:k], r.Downs[i]) {
					return false
				}
			}
			return true
		}
		least := noInts
		for _, order := range orders {
			if fits(order) && (least == nil || slices.Compare(order, least) < 0) {
				least = order
			}
		}
		wantResults(t, all(impl.FlowOrder(r)), all(least, true), "FlowOrder", r.Downs)
	}
}

// permutations are all orders of the numbers less than count.
func permutations(count int64) [][]int64 {
	list := days(nil)
	for i := range count {
		longer := noDays
		for _, order := range list {
			for k := range len(order) + 1 {
				longer = append(longer, slices.Insert(slices.Clone(order), k, i))
			}
		}
		list = longer
	}
	return list
}

func TestSameRivers(t *testing.T) {
	wantThat(t, impl.SameRiver(noRiver, noRiver), true, "SameRiver of nothing")
	wantThat(t, impl.SameRiver(noRiver, river(ints(), []impl.Dam{}, ints())), true, "SameRiver of nothing")
	a := valley()
	for _, b := range []impl.River{
		noRiver, lineTo(5), dryRiver(a.Downs...),
		river(nil, a.Dams, a.Wants), river(a.Downs, nil, a.Wants), river(a.Downs, a.Dams, nil), river(a.Wants, a.Dams, a.Downs), river(a.Downs[:4], a.Dams[:4], a.Wants[:4]),
		river(a.Downs[:4], a.Dams, a.Wants), river(a.Downs, a.Dams[:4], a.Wants), river(a.Downs, a.Dams, a.Wants[:4]), river(append(slices.Clone(a.Downs), -1), a.Dams, a.Wants), river(a.Downs, append(slices.Clone(a.Dams), dam(0, 0, 0, 0)), a.Wants), river(a.Downs, a.Dams, append(slices.Clone(a.Wants), 0)),
		river(a.Downs[:4], a.Dams, append(ints(-1), a.Wants...)), // the same numbers one after another, but in other lists
	} {
		wantThat(t, impl.SameRiver(a, b) || impl.SameRiver(b, a), false, "SameRiver", a, b)
		wantThat(t, impl.SameRiver(b, ownRiver(b)), true, "SameRiver", b)
	}
	for _, r := range append(wrongRivers(), a, dryRiver(-1), lineTo(3), lineTo(4), lineTo(7), lineTo(8), lineTo(9), lineTo(impl.MaxNodes)) {
		wantThat(t, impl.SameRiver(r, r) && impl.SameRiver(r, ownRiver(r)) && impl.SameRiver(ownRiver(r), roomyRiver(r)), true, "SameRiver", r)
		for i := range r.Downs {
			wantThat(t, impl.SameRiver(r, withDown(r, i, r.Downs[i]+1)), false, "SameRiver with another Down", r, i)
		}
		for i := range r.Wants {
			wantThat(t, impl.SameRiver(withWant(r, i, r.Wants[i]-1), r), false, "SameRiver with another want", r, i)
		}
		for i, d := range r.Dams {
			for _, other := range []impl.Dam{dam(d.Size+1, d.Dead, d.Least, d.Now), dam(d.Size, d.Dead-1, d.Least, d.Now), dam(d.Size, d.Dead, d.Least+1, d.Now), dam(d.Size, d.Dead, d.Least, d.Now-1)} {
				wantThat(t, impl.SameRiver(r, withDam(r, i, other)) || impl.SameRiver(withDam(r, i, other), r), false, "SameRiver with another dam", r, i, other)
			}
		}
		if len(r.Dams) > 0 {
			shorter := river(r.Downs, r.Dams[1:], r.Wants)
			wantThat(t, impl.SameRiver(r, shorter) || impl.SameRiver(shorter, r), false, "SameRiver with a dam less", r)
		}
	}
}

func TestLineRivers(t *testing.T) {
	for count := int64(1); count <= impl.MaxNodes; count++ {
		wantResults(t, all(impl.LineRiver(count)), all(lineTo(int(count)), true), "LineRiver", count)
	}
	for _, count := range ints(0, -1, impl.MaxNodes+1, 2*impl.MaxNodes, 1<<32+1, math.MaxInt64, math.MinInt64) {
		wantResults(t, all(impl.LineRiver(count)), all(noRiver, false), "LineRiver", count)
	}
}

func TestSetDamAndSetWant(t *testing.T) {
	most := int64(impl.MaxUnits)
	for _, r := range []impl.River{dryRiver(-1), lineTo(3), valley(), lineTo(impl.MaxNodes)} {
		last := int64(len(r.Downs)) - 1
		for _, i := range ints(0, last, last/2) {
			for _, d := range []impl.Dam{dam(0, 0, 0, 0), dam(5, 0, 0, 0), dam(5, 5, 9, 5), dam(5, 4, 3, 2), dam(most, most, most, most), dam(0, 0, most, 0), dam(most, 0, 0, most)} {
				wantResults(t, all(impl.SetDam(r, i, d)), all(withDam(r, int(i), d), true), "SetDam", r, i, d)
			}
			for _, d := range wrongDams() {
				wantResults(t, all(impl.SetDam(r, i, d)), all(noRiver, false), "SetDam", r, i, d)
			}
			for _, want := range ints(0, 1, 7, most-1, most) {
				wantResults(t, all(impl.SetWant(r, i, want)), all(withWant(r, int(i), want), true), "SetWant", r, i, want)
			}
			for _, want := range notUnits() {
				wantResults(t, all(impl.SetWant(r, i, want)), all(noRiver, false), "SetWant", r, i, want)
			}
		}
		for _, i := range ints(-1, last+1, -2, last+2, 1<<32, math.MaxInt64, math.MinInt64) {
			wantResults(t, all(impl.SetDam(r, i, dam(0, 0, 0, 0))), all(noRiver, false), "SetDam", r, i)
			wantResults(t, all(impl.SetWant(r, i, 0)), all(noRiver, false), "SetWant", r, i)
		}
	}
	// What is set in the place of what is wrong does not make a river valid first.
	wantResults(t, all(impl.SetDam(single(dam(1, 2, 0, 0), 0), 0, dam(2, 2, 0, 0))), all(noRiver, false), "SetDam in a river that is not valid")
	wantResults(t, all(impl.SetWant(single(dam(0, 0, 0, 0), -1), 0, 1)), all(noRiver, false), "SetWant in a river that is not valid")
}

func TestJoinRiversByHand(t *testing.T) {
	a, b := valley(), river(ints(-1, 0, -1), []impl.Dam{dam(1, 0, 0, 1), dam(2, 1, 0, 0), dam(3, 0, 5, 2)}, ints(7, 8, 9))
	for at := range int64(5) {
		want := river(ints(2, 2, 4, -1, -1, at, 5, at), append(slices.Clone(a.Dams), b.Dams...), ints(4, 0, 6, 3, 11, 7, 8, 9))
		wantResults(t, all(impl.JoinRivers(a, b, at)), all(want, true), "JoinRivers", at)
	}
	wantResults(t, all(impl.JoinRivers(b, b, 0)), all(river(ints(-1, 0, -1, 0, 3, 0), append(slices.Clone(b.Dams), b.Dams...), ints(7, 8, 9, 7, 8, 9)), true), "JoinRivers of a river and itself")
	wantResults(t, all(impl.JoinRivers(dryRiver(-1), dryRiver(-1), 0)), all(dryRiver(-1, 0), true), "JoinRivers of single nodes")
	for _, at := range ints(-1, 5, -2, 6, 8, 1<<32, math.MaxInt64, math.MinInt64) {
		wantResults(t, all(impl.JoinRivers(a, b, at)), all(noRiver, false), "JoinRivers", at)
	}
	for _, at := range ints(-1, 3, 4, 5) {
		wantResults(t, all(impl.JoinRivers(b, a, at)), all(noRiver, false), "JoinRivers", at)
	}
}

func TestJoinRiversAtItsLimits(t *testing.T) {
	for first := 1; first <= impl.MaxNodes; first++ {
		for second := 1; second <= impl.MaxNodes; second++ {
			a, b := lineTo(first), lineTo(second)
			for _, at := range ints(0, int64(first)-1) {
				want, ok := joinOracle(a, b, at)
				wantThat(t, ok, first+second <= impl.MaxNodes, "the oracle")
				wantResults(t, all(impl.JoinRivers(a, b, at)), all(want, ok), "JoinRivers", first, second, at)
			}
		}
	}
}

func TestJoinRiversOfAllKinds(t *testing.T) {
	d := drawer(602)
	for n := range 2000 {
		a, b := d.river(1+int(d.next()%7), 1+n%unitKinds), d.river(1+int(d.next()%6), 1+n%unitKinds)
		at := int64(d.next()%9) - 1
		want, ok := joinOracle(a, b, at)
		wantResults(t, all(impl.JoinRivers(a, b, at)), all(want, ok), "JoinRivers", a, b, at)
	}
}

func TestStoredIn(t *testing.T) {
	most := int64(impl.MaxUnits)
	wantResults(t, all(impl.StoredIn(valley())), all(int64(33), true), "StoredIn")
	wantResults(t, all(impl.StoredIn(lineTo(3))), all(int64(0), true), "StoredIn of dams that hold nothing")
	full := lineTo(impl.MaxNodes)
	full.Dams = alike(impl.MaxNodes, dam(most, 0, 0, most))
	wantResults(t, all(impl.StoredIn(full)), all(12*most, true), "StoredIn of the greatest dams")
	d := drawer(603)
	for n := range 500 {
		r := d.river(d.nodeCount(), 1+n%unitKinds)
		wantResults(t, all(impl.StoredIn(r)), all(storedOracle(r)), "StoredIn", r)
	}
}

// What CutWants cuts are wants times part, which can be very great.
func TestCutWants(t *testing.T) {
	most := int64(impl.MaxUnits)
	r := river(ints(1, 2, 3, -1), make([]impl.Dam, 4), ints(10, 0, most, 7))
	for _, c := range []struct {
		part, whole int64
		want        []int64
	}{
		{1, 2, ints(5, 0, most/2, 3)}, {0, 1, ints(0, 0, 0, 0)}, {1, 1, r.Wants}, {0, most, ints(0, 0, 0, 0)}, {most, most, r.Wants}, {most - 1, most, ints(9, 0, most-1, 6)}, {1, most, ints(0, 0, 1, 0)}, {2, 3, ints(6, 0, 666666666, 4)}, {333333333, 999999999, ints(3, 0, 333333333, 2)}, {5, 7, ints(7, 0, 714285714, 5)}, {6, 7, ints(8, 0, 857142857, 6)}, {7, 7, r.Wants},
	} {
		wantResults(t, all(impl.CutWants(r, c.part, c.whole)), all(river(r.Downs, r.Dams, c.want), true), "CutWants", c.part, c.whole)
	}
	for _, c := range [][2]int64{{-1, 1}, {-1, 2}, {2, 1}, {8, 7}, {0, 0}, {1, 0}, {0, -1}, {-1, -1}, {-2, -1}, {-1, most}, {most + 1, most}, {0, most + 1}, {1, most + 1}, {most, most + 1}, {most + 1, most + 1}, {math.MinInt64, 1}, {math.MaxInt64, 1}, {0, math.MaxInt64}, {0, math.MinInt64}, {math.MinInt64, math.MinInt64}, {math.MaxInt64, math.MaxInt64}} {
		wantResults(t, all(impl.CutWants(r, c[0], c[1])), all(noRiver, false), "CutWants", c[0], c[1])
	}
	d := drawer(604)
	for n := range 1000 {
		r, whole := d.river(d.nodeCount(), 1+n%unitKinds), 1+d.units(1+n%unitKinds)
		part := d.upTo(whole)
		want, ok := cutOracle(r, part, whole)
		wantThat(t, ok, whole <= most, "the oracle", part, whole)
		wantResults(t, all(impl.CutWants(r, part, whole)), all(want, ok), "CutWants", r, part, whole)
	}
}

// Each function with rivers requires valid ones.
func TestWrongRiversFail(t *testing.T) {
	good := lineTo(3)
	for _, r := range wrongRivers() {
		inflows := make([]int64, len(r.Downs))
		for _, results := range [][]any{
			all(impl.SetDam(r, 0, dam(0, 0, 0, 0))), all(impl.SetWant(r, 0, 0)), all(impl.JoinRivers(r, good, 0)), all(impl.JoinRivers(good, r, 0)), all(impl.JoinRivers(r, r, 0)),
			all(impl.FlowOrder(r)), all(impl.UpFrom(r, 0)), all(impl.OutletsOf(r)), all(impl.DepthsIn(r)), all(impl.MeetingOf(r, 0, 0)), all(impl.StoredIn(r)),
			all(impl.DayOf(r, inflows)), all(impl.RunDays(r, nil)), all(impl.RunDays(r, days(inflows))), all(impl.RunManyDays(rivers(r), nil, 1)), all(impl.RunManyDays(rivers(r), days(inflows), 2)), all(impl.LedgerOf(r, nil)), all(impl.LedgerOf(r, days(inflows))),
			all(impl.ShortDays(r, nil)), all(impl.ShortDays(r, days(inflows))), all(impl.LeastSize(r, 0, nil, 9)), all(impl.LeastSize(r, 0, days(inflows), impl.MaxUnits)), all(impl.CutWants(r, 1, 1)), all(impl.CutWants(r, 0, 1)),
		} {
			wantFailed(t, results, "a function with a river that is not valid", fmt.Sprint(r))
		}
	}
}
