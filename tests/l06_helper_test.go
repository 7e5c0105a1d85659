package tests

import (
	"math"
	"slices"

	"loop.example/g01302/impl"
)

func dam(size, dead, least, now int64) impl.Dam {
	return impl.Dam{Size: size, Dead: dead, Least: least, Now: now}
}

func river(downs []int64, dams []impl.Dam, wants []int64) impl.River {
	return impl.River{Downs: downs, Dams: dams, Wants: wants}
}

// dryRiver has dams of which all numbers are 0, and no wants.
func dryRiver(downs ...int64) impl.River {
	return river(downs, make([]impl.Dam, len(downs)), make([]int64, len(downs)))
}

// single is a river of one node.
func single(d impl.Dam, want int64) impl.River { return river(ints(-1), []impl.Dam{d}, ints(want)) }

// lineTo is the line of so many nodes, and of too many as well.
func lineTo(count int) impl.River {
	r := dryRiver(make([]int64, count)...)
	for i := range r.Downs {
		r.Downs[i] = int64(i) + 1
	}
	if count > 0 {
		r.Downs[count-1] = -1
	}
	return r
}

// valley is a river with two outlets, of which all numbers differ.
func valley() impl.River {
	return river(ints(2, 2, 4, -1, -1), []impl.Dam{dam(20, 3, 5, 2), dam(9, 0, 1, 9), dam(30, 4, 2, 4), dam(7, 7, 0, 6), dam(50, 10, 8, 12)}, ints(4, 0, 6, 3, 11))
}

// ownRiver is a copy of a river.
func ownRiver(r impl.River) impl.River {
	return river(slices.Clone(r.Downs), slices.Clone(r.Dams), slices.Clone(r.Wants))
}

// roomyRiver is a copy of a river with unused capacity that is filled.
func roomyRiver(r impl.River) impl.River {
	return river(roomy(r.Downs, 7), roomy(r.Dams, dam(7, 7, 7, 7)), roomy(r.Wants, 7))
}

// withDown, withDam and withWant are rivers with another number of a node.
func withDown(r impl.River, i int, down int64) impl.River {
	return river(with(r.Downs, i, down), r.Dams, r.Wants)
}

func withDam(r impl.River, i int, d impl.Dam) impl.River {
	return river(r.Downs, with(r.Dams, i, d), r.Wants)
}

func withWant(r impl.River, i int, want int64) impl.River {
	return river(r.Downs, r.Dams, with(r.Wants, i, want))
}

// days collects inflows of days.
func days(lists ...[]int64) [][]int64 { return lists }

// evenDays are so many days of so many equal inflows.
func evenDays(count, nodes int, inflow int64) [][]int64 {
	list := noDays
	for range count {
		list = append(list, alike(nodes, inflow))
	}
	return list
}

// rivers collects rivers.
func rivers(list ...impl.River) []impl.River { return list }

var (
	noRiver  impl.River
	noRivers []impl.River
	noDays   [][]int64
	noInts   []int64
)

// notUnits are numbers that are no units.
func notUnits() []int64 {
	return ints(-1, impl.MaxUnits+1, -impl.MaxUnits, math.MinInt64, math.MaxInt64, 1<<32, 1<<62)
}

// wrongDams have one number that is wrong.
func wrongDams() []impl.Dam {
	list := []impl.Dam{dam(5, 6, 0, 0), dam(5, 0, 0, 6), dam(0, 1, 0, 0), dam(0, 0, 0, 1), dam(0, 1, 0, 1), dam(impl.MaxUnits-1, impl.MaxUnits, 0, 0), dam(impl.MaxUnits-1, 0, 0, impl.MaxUnits), dam(4, 4, 9, 5), dam(4, 5, 9, 4)}
	for _, x := range notUnits() {
		list = append(list, dam(x, 0, 0, 0), dam(5, x, 0, 0), dam(5, 0, x, 0), dam(5, 0, 0, x), dam(x, x, x, x), dam(x, x, 0, 0), dam(x, 0, 0, x))
	}
	return list
}

// wrongRivers have too many or too few nodes, unequal counts, wrong ways, or a
// number that is wrong.
func wrongRivers() []impl.River {
	three, great := lineTo(3), alike(impl.MaxNodes+1, int64(-1))
	list := rivers(
		noRiver, dryRiver(), lineTo(impl.MaxNodes+1), dryRiver(great...), lineTo(2*impl.MaxNodes), lineTo(256),
		river(ints(-1), nil, nil), river(nil, make([]impl.Dam, 1), nil), river(nil, nil, ints(0)), river(ints(-1), make([]impl.Dam, 1), nil), river(ints(-1), nil, ints(0)), river(nil, make([]impl.Dam, 1), ints(0)),
		river(three.Downs[:2], three.Dams, three.Wants), river(three.Downs[2:], three.Dams, three.Wants), river(three.Downs, three.Dams[:2], three.Wants), river(three.Downs, three.Dams, three.Wants[:2]), river(ints(1, 2, 3, -1), three.Dams, three.Wants), river(three.Downs, make([]impl.Dam, 4), three.Wants), river(three.Downs, three.Dams, ints(0, 0, 0, 0)),
		river(great, make([]impl.Dam, impl.MaxNodes), make([]int64, impl.MaxNodes)), river(great[1:], make([]impl.Dam, impl.MaxNodes+1), make([]int64, impl.MaxNodes)), river(great[1:], make([]impl.Dam, impl.MaxNodes), make([]int64, impl.MaxNodes+1)),
		// to itself, around, with and without nodes that lead there, and to the sea as well
		dryRiver(0), dryRiver(0, -1), dryRiver(-1, 1), dryRiver(1, 0), dryRiver(1, 0, -1), dryRiver(-1, 2, 1), dryRiver(1, 2, 0), dryRiver(2, 0, 1), dryRiver(1, 1), dryRiver(1, 2, 1), dryRiver(1, 2, 3, 1, -1), dryRiver(1, 0, 3, 2), dryRiver(-1, 0, 0, 3), withDown(lineTo(impl.MaxNodes), impl.MaxNodes-1, 0), withDown(lineTo(impl.MaxNodes), impl.MaxNodes-1, impl.MaxNodes-2), withDown(lineTo(impl.MaxNodes), impl.MaxNodes-1, impl.MaxNodes-1),
	)
	for i := range 3 {
		for _, down := range ints(int64(i), 3, 4, -2, -3, 1<<32, math.MaxInt64, math.MinInt64) {
			list = append(list, withDown(dryRiver(-1, -1, -1), i, down))
		}
		for _, d := range wrongDams() {
			list = append(list, withDam(three, i, d))
		}
		for _, want := range notUnits() {
			list = append(list, withWant(three, i, want))
		}
	}
	last := impl.MaxNodes - 1
	return append(list, dryRiver(-2), dryRiver(1), withDown(lineTo(impl.MaxNodes), last, impl.MaxNodes), withDown(lineTo(impl.MaxNodes), last, -2), withDam(lineTo(impl.MaxNodes), last, dam(5, 6, 0, 0)), withWant(lineTo(impl.MaxNodes), last, -1))
}

// wrongDays are no days of a river of two nodes.
func wrongDays() [][][]int64 {
	list := [][][]int64{
		days(nil), days(ints(1)), days(ints(1, 2, 3)), days(ints(1, 2), nil), days(ints(1, 2), ints(1)), days(ints(1), ints(1, 2)), days(ints(1, 2), ints(1, 2, 3), ints(1, 2)),
		evenDays(impl.MaxDays+1, 2, 1), evenDays(2*impl.MaxDays, 2, 0), with(evenDays(impl.MaxDays, 2, 1), impl.MaxDays-1, ints(1)),
	}
	for _, x := range notUnits() {
		list = append(list, days(ints(x, 1)), days(ints(1, x)), days(ints(x, x)), days(ints(1, 1), ints(0, x)), days(ints(x, 0), ints(1, 1)), with(evenDays(impl.MaxDays, 2, 1), impl.MaxDays-1, ints(1, x)))
	}
	return list
}

// unitKinds is how many kinds of units there are: few ones, none, some, nearly
// the most, and any.
const unitKinds = 5

// units draws units of one of the first kinds.
func (d *drawer) units(kinds int) int64 {
	switch d.next() % uint64(kinds) {
	case 0:
		return int64(d.next() % 9)
	case 1:
		return 0
	case 2:
		return int64(d.next() % 1000)
	case 3:
		return impl.MaxUnits - int64(d.next()%3)
	}
	return int64(d.next() % (impl.MaxUnits + 1))
}

// unitList draws so many units.
func (d *drawer) unitList(count, kinds int) []int64 {
	list := make([]int64, count)
	for i := range list {
		list[i] = d.units(kinds)
	}
	return list
}

// upTo draws a number from 0 to a limit, often one of both.
func (d *drawer) upTo(limit int64) int64 {
	switch d.next() % 4 {
	case 0:
		return 0
	case 1:
		return limit
	}
	return int64(d.next() % uint64(limit+1))
}

// dam draws a valid dam.
func (d *drawer) dam(kinds int) impl.Dam {
	size := d.units(kinds)
	return dam(size, d.upTo(size), d.units(kinds), d.upTo(size))
}

// downs draws where so many nodes lead to: each one to a node before it, in a
// drawn order, or, one of ends, to the sea.
func (d *drawer) downs(count int, ends uint64) []int64 {
	order, downs := make([]int64, count), make([]int64, count)
	for i := range order {
		k := int(d.next() % uint64(i+1))
		order[i] = order[k]
		order[k] = int64(i)
	}
	for i, node := range order {
		downs[node] = -1
		if i > 0 && d.next()%ends > 0 {
			downs[node] = order[d.next()%uint64(i)]
		}
	}
	return downs
}

// river draws a valid river.
func (d *drawer) river(count, kinds int) impl.River {
	r := river(d.downs(count, 2+d.next()%9), make([]impl.Dam, count), d.unitList(count, kinds))
	for i := range r.Dams {
		r.Dams[i] = d.dam(kinds)
	}
	return r
}

// nodeCount draws how many nodes a river has.
func (d *drawer) nodeCount() int { return 1 + int(d.next()%impl.MaxNodes) }

// days draws inflows of so many days.
func (d *drawer) days(count, nodes, kinds int) [][]int64 {
	list := noDays
	for range count {
		list = append(list, d.unitList(nodes, kinds))
	}
	return list
}

// sum is the sum of some lists.
func sum(lists ...[]int64) int64 {
	var sum int64
	for _, list := range lists {
		for _, n := range list {
			sum += n
		}
	}
	return sum
}
