package tests

import (
	"math/big"
	"slices"

	"loop.example/g01302/impl"
)

// The oracle of chapter 6 walks down the ways of nodes, lays the water of dams
// in layers, asks nodes for what leaves them, and splits with big numbers.

func unitsOracle(list ...int64) bool {
	for _, n := range list {
		if n < 0 || n > 1000000000 {
			return false
		}
	}
	return true
}

// wayOracle returns the way from a node, if this comes to the sea.
func wayOracle(downs []int64, i int64) ([]int64, bool) {
	way := noInts
	for range downs {
		if i < 0 || i >= int64(len(downs)) {
			return nil, false
		}
		way = append(way, i)
		i = downs[i]
		if i == -1 {
			return way, true
		}
	}
	return nil, false
}

func validRiverOracle(r impl.River) bool {
	count := len(r.Downs)
	if count == 0 || count > 12 || count != len(r.Dams) || count != len(r.Wants) || !unitsOracle(r.Wants...) {
		return false
	}
	for i, d := range r.Dams {
		_, ok := wayOracle(r.Downs, int64(i))
		if !ok || !unitsOracle(d.Size, d.Dead, d.Least, d.Now, d.Size-d.Dead, d.Size-d.Now) {
			return false
		}
	}
	return true
}

func hasNodeOracle(r impl.River, i int64) bool {
	return validRiverOracle(r) && i >= 0 && i < int64(len(r.Wants))
}

// joinOracle takes the nodes of b one by one.
func joinOracle(a, b impl.River, at int64) (impl.River, bool) {
	if !hasNodeOracle(a, at) || !validRiverOracle(b) || len(a.Wants)+len(b.Wants) > 12 {
		return noRiver, false
	}
	joined := ownRiver(a)
	for i, down := range b.Downs {
		to := at
		if down != -1 {
			to = down + int64(len(a.Wants))
		}
		joined.Downs = append(joined.Downs, to)
		joined.Dams = append(joined.Dams, b.Dams[i])
		joined.Wants = append(joined.Wants, b.Wants[i])
	}
	return joined, true
}

// flowOrderOracle takes the least node that is behind all nodes on whose ways it is.
func flowOrderOracle(r impl.River) ([]int64, bool) {
	if !validRiverOracle(r) {
		return nil, false
	}
	order := noInts
	for range r.Downs {
		for i := range int64(len(r.Downs)) {
			ups, _ := upOracle(r, i)
			ups = slices.DeleteFunc(ups, func(k int64) bool { return slices.Contains(order, k) })
			if len(ups) == 1 && ups[0] == i {
				order = append(order, i)
				break
			}
		}
	}
	return order, true
}

func upOracle(r impl.River, i int64) ([]int64, bool) {
	if !hasNodeOracle(r, i) {
		return nil, false
	}
	up := noInts
	for k := range r.Downs {
		way, _ := wayOracle(r.Downs, int64(k))
		if slices.Contains(way, i) {
			up = append(up, int64(k))
		}
	}
	return up, true
}

func outletsOracle(r impl.River) ([]int64, bool) {
	if !validRiverOracle(r) {
		return nil, false
	}
	outlets := noInts
	for k := range r.Downs {
		way, _ := wayOracle(r.Downs, int64(k))
		outlets = append(outlets, way[len(way)-1])
	}
	slices.Sort(outlets)
	return slices.Compact(outlets), true
}

func depthsOracle(r impl.River) ([]int64, bool) {
	if !validRiverOracle(r) {
		return nil, false
	}
	depths := make([]int64, len(r.Downs))
	for i := range depths {
		way, _ := wayOracle(r.Downs, int64(i))
		depths[i] = int64(len(way[1:]))
	}
	return depths, true
}

// meetOracle goes up both ways from the sea, as long as they are the same.
func meetOracle(r impl.River, i, k int64) (int64, bool) {
	if !hasNodeOracle(r, i) || !hasNodeOracle(r, k) {
		return 0, false
	}
	one, _ := wayOracle(r.Downs, i)
	other, _ := wayOracle(r.Downs, k)
	meet := int64(-1)
	for len(one) > 0 && len(other) > 0 && one[len(one)-1] == other[len(other)-1] {
		meet = one[len(one)-1]
		one, other = one[:len(one)-1], other[:len(other)-1]
	}
	return max(meet, 0), meet >= 0
}

// dayOracle asks each node for what leaves it, which asks the nodes above. The
// water of a node lies in layers: what is dead, what is wanted, what must go on,
// what there is place for, and what is more.
func dayOracle(r impl.River, inflows []int64) (impl.River, []int64, []int64, bool) {
	if !validRiverOracle(r) || len(inflows) != len(r.Wants) || !unitsOracle(inflows...) {
		return noRiver, nil, nil, false
	}
	next := ownRiver(r)
	gives, leaves := make([]int64, len(inflows)), make([]int64, len(inflows))
	var leavesOf func(i int) int64
	leavesOf = func(i int) int64 {
		d := r.Dams[i]
		water := inflows[i] + d.Now
		for k, down := range r.Downs {
			if down == int64(i) {
				water += leavesOf(k)
			}
		}
		layer := func(size int64) int64 {
			if size > water {
				size = water
			}
			water -= size
			return size
		}
		dead := layer(d.Dead)
		gives[i] = layer(r.Wants[i])
		lets := layer(d.Least)
		next.Dams[i].Now = dead + layer(d.Size-d.Dead)
		leaves[i] = lets + water
		return leaves[i]
	}
	for i, down := range r.Downs {
		if down == -1 {
			leavesOf(i)
		}
	}
	return next, gives, leaves, true
}

func runDaysOracle(r impl.River, days [][]int64) (impl.River, [][]int64, []int64, bool) {
	if !validRiverOracle(r) || len(days) > 64 {
		return noRiver, nil, nil, false
	}
	given, gone := noDays, noInts
	for _, inflows := range days {
		next, gives, leaves, ok := dayOracle(r, inflows)
		if !ok {
			return noRiver, nil, nil, false
		}
		var away int64
		for i, left := range leaves {
			if r.Downs[i] == -1 {
				away += left
			}
		}
		r, given, gone = next, append(given, gives), append(gone, away)
	}
	return r, given, gone, true
}

func manyOracle(list []impl.River, days [][]int64, workers int64) ([]impl.River, bool) {
	if len(list) > 12 || workers < 1 || workers > 8 {
		return nil, false
	}
	ends := noRivers
	for _, r := range list {
		end, _, _, ok := runDaysOracle(r, days)
		if !ok {
			return nil, false
		}
		ends = append(ends, end)
	}
	return ends, true
}

func storedOracle(r impl.River) (int64, bool) {
	if !validRiverOracle(r) {
		return 0, false
	}
	var stored int64
	for i := range r.Dams {
		stored += r.Dams[i].Now
	}
	return stored, true
}

func ledgerOracle(r impl.River, days [][]int64) (int64, int64, int64, int64, bool) {
	end, given, gone, ok := runDaysOracle(r, days)
	if !ok {
		return 0, 0, 0, 0, false
	}
	before, _ := storedOracle(r)
	behind, _ := storedOracle(end)
	return sum(days...), sum(given...), sum(gone), behind - before, true
}

func shortOracle(r impl.River, days [][]int64) ([]int64, bool) {
	_, given, _, ok := runDaysOracle(r, days)
	if !ok {
		return nil, false
	}
	shorts := make([]int64, len(r.Wants))
	for i, want := range r.Wants {
		for _, gives := range given {
			if gives[i] != want {
				shorts[i]++
			}
		}
	}
	return shorts, true
}

func leastOracle(r impl.River, i int64, days [][]int64, most int64) (int64, bool) {
	if !hasNodeOracle(r, i) || !unitsOracle(most) {
		return 0, false
	}
	isShort := func(size int64) bool {
		d := r.Dams[i]
		d.Size = size
		if d.Dead > size {
			d.Dead = size
		}
		if d.Now > size {
			d.Now = size
		}
		shorts, ok := shortOracle(withDam(r, int(i), d), days)
		return !ok || shorts[i] > 0
	}
	if isShort(most) {
		return 0, false
	}
	var search func(low, high int64) int64
	search = func(low, high int64) int64 {
		if high-low < 2 {
			return high
		}
		middle := low + (high-low)/2
		if isShort(middle) {
			return search(middle, high)
		}
		return search(low, middle)
	}
	return search(-1, most), true
}

// portion returns n times part / whole, rounded down, and what remains.
func portion(n, part, whole int64) (int64, int64) {
	product := new(big.Int).Mul(big.NewInt(n), big.NewInt(part))
	quotient, rest := new(big.Int).DivMod(product, big.NewInt(whole), new(big.Int))
	return quotient.Int64(), rest.Int64()
}

func cutOracle(r impl.River, part, whole int64) (impl.River, bool) {
	if !validRiverOracle(r) || !unitsOracle(whole-1, part, whole, whole-part) {
		return noRiver, false
	}
	r = ownRiver(r)
	for i, want := range r.Wants {
		r.Wants[i], _ = portion(want, part, whole)
	}
	return r, true
}

// splitOracle gives what is left one by one, each time to the greatest of the
// remainders that have got nothing yet.
func splitOracle(amount int64, weights []int64) ([]int64, bool) {
	whole := sum(weights)
	if !unitsOracle(amount) || !unitsOracle(weights...) || len(weights) > 64 || whole == 0 {
		return nil, false
	}
	shares, rests := make([]int64, len(weights)), make([]int64, len(weights))
	for i, weight := range weights {
		shares[i], rests[i] = portion(amount, weight, whole)
	}
	for sum(shares) < amount {
		i := slices.Index(rests, slices.Max(rests))
		shares[i]++
		rests[i] = -1
	}
	return shares, true
}

func rightsOracle(amount int64, wants, ranks []int64) ([]int64, bool) {
	if !unitsOracle(amount) || !unitsOracle(wants...) || len(wants) == 0 || len(wants) > 64 || len(ranks) != len(wants) {
		return nil, false
	}
	sorted := slices.Clone(ranks)
	slices.Sort(sorted)
	if sorted[0] < 0 || sorted[len(sorted)-1] > 64 {
		return nil, false
	}
	shares := make([]int64, len(wants))
	for _, rank := range slices.Compact(sorted) {
		members, claims := noInts, noInts
		for i := range ranks {
			if ranks[i] == rank {
				members, claims = append(members, int64(i)), append(claims, wants[i])
			}
		}
		if sum(claims) > amount {
			claims, _ = splitOracle(amount, claims)
		}
		for k, i := range members {
			shares[i] = claims[k]
		}
		amount -= sum(claims)
	}
	return shares, true
}

func halfOracle(days [][]int64) ([]int64, bool) {
	if len(days) == 0 || len(days) > 64 || len(days[0]) == 0 || len(days[0]) > 12 {
		return nil, false
	}
	halves := make([]int64, len(days[0]))
	for _, day := range days {
		if len(day) != len(halves) || !unitsOracle(day...) {
			return nil, false
		}
	}
	for i := range halves {
		column := noInts
		for _, day := range days {
			column = append(column, day[i])
		}
		for 2*sum(column[:halves[i]+1]) < sum(column) {
			halves[i]++
		}
	}
	return halves, true
}
