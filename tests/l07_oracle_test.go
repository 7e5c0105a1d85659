package tests

import (
	"encoding/binary"
	"math/big"
	"slices"
	"strconv"
	"strings"

	"loop.example/g01302/impl"
)

// These functions tell the results of chapter 7 in another way than the program:
// numbers that fail are no numbers, which go on through all operations, ranks
// are counted, runs are looked for from each of their numbers, and bytes are
// told by texts of binary digits. The operations are those of
// l02_oracle_test.go, and logarithms and powers of e those of chapter 1.

func gaugeOracle(list []float32) bool {
	return len(list) > 0 && len(list) < 129 && amountsOracle(list)
}

// sumOracle is +0 for none, and the sum of all before the last one, plus it, for
// others.
func sumOracle(list []float32) float32 {
	if len(list) == 0 {
		return 0
	}
	last := len(list) - 1
	return plus(sumOracle(list[:last]), list[last])
}

// each makes a list of what is told by the indices of another one.
func each(list []float32, of func(i int) float32) []float32 {
	out := make([]float32, len(list))
	for i := range out {
		out[i] = of(i)
	}
	return out
}

// meanOracle is the mean of a list.
func meanOracle(list []float32) float32 { return over(sumOracle(list), float32(len(list))) }

// apartOracle is the sum of the squares of what all are more than their mean.
func apartOracle(list []float32) float32 {
	return sumOracle(each(list, func(i int) float32 {
		rest := less(list[i], meanOracle(list))
		return times(rest, rest)
	}))
}

func fitOracle(levels, flows []float32, zero float32) (float32, float32, bool) {
	if len(levels) < 2 || len(levels) > 128 || len(levels) != len(flows) || !finite(zero) {
		return 0, 0, false
	}
	for i, level := range levels {
		if !finite(level) || level <= zero || need(1, flows[i]) != 1 {
			return 0, 0, false
		}
	}
	u := func(i int) float32 { return impl.LogNumber(less(levels[i], zero)) }
	v := func(i int) float32 { return impl.LogNumber(flows[i]) }
	n, a, b := float32(len(levels)), sumOracle(each(levels, u)), sumOracle(each(levels, v))
	c := sumOracle(each(levels, func(i int) float32 { return times(u(i), u(i)) }))
	d := sumOracle(each(levels, func(i int) float32 { return times(u(i), v(i)) }))
	e := less(times(n, c), times(a, a))
	power := over(less(times(n, d), times(a, b)), e)
	size := impl.ExpNumber(over(less(b, times(power, a)), n))
	if e == 0 || !finite(power) || !finite(size) {
		return 0, 0, false
	}
	return size, power, true
}

func ratedOracle(size, power, zero, level float32) float32 {
	switch {
	case !finite(zero) || !finite(level):
		return notANumber
	case level > zero:
		u := impl.LogNumber(less(level, zero))
		return kept(need(times(size, impl.ExpNumber(times(power, u))), size, power))
	}
	return need(0, size, power)
}

func levelledOracle(size, power, zero, flow float32) float32 {
	u := over(impl.LogNumber(over(flow, size)), power)
	if !finite(zero) {
		return notANumber
	}
	return kept(need(plus(zero, impl.ExpNumber(u)), size, power, flow))
}

func missOracle(levels, flows []float32, size, power, zero float32) float32 {
	if len(levels) < 1 || len(levels) > 128 || len(levels) != len(flows) || !allFinite(flows) {
		return notANumber
	}
	misses := each(levels, func(i int) float32 {
		miss := less(ratedOracle(size, power, zero, levels[i]), flows[i])
		if miss < 0 {
			return less(0, miss)
		}
		return miss
	})
	for _, miss := range misses {
		if miss != miss {
			return notANumber
		}
	}
	slices.Sort(misses)
	return kept(misses[len(misses)-1])
}

const (
	scaleBits = 0x3f479a36
	eulerBits = 0x3f13c468
)

func fitFloodsOracle(list []float32) (float32, float32, bool) {
	if !gaugeOracle(list) || len(list) == 1 {
		return 0, 0, false
	}
	s := root(over(apartOracle(list), float32(len(list)-1)))
	scale := times(number(scaleBits), s)
	place := less(meanOracle(list), times(number(eulerBits), scale))
	if !finite(place) || !finite(scale) {
		return 0, 0, false
	}
	return place, scale, true
}

func floodOracle(place, scale, years float32) float32 {
	if !finite(place) || !amountOracle(scale) || !finite(years) || years <= 1 {
		return notANumber
	}
	x := impl.LogNumber(less(1, over(1, years)))
	return kept(less(place, times(scale, impl.LogNumber(times(x, -1)))))
}

func yearsOracle(place, scale, flood float32) float32 {
	if !finite(place) || !finite(flood) {
		return notANumber
	}
	x := impl.ExpNumber(times(over(less(flood, place), scale), -1))
	return kept(need(over(1, less(1, impl.ExpNumber(times(x, -1)))), scale))
}

// placeOracle counts how many numbers of a gauge come before one of them.
func placeOracle(list []float32, i int) int {
	before := 0
	for k, x := range list {
		if x > list[i] || x == list[i] && k < i {
			before++
		}
	}
	return before
}

func rankedOracle(list []float32) ([]int64, []float32, bool) {
	if !gaugeOracle(list) {
		return nil, nil, false
	}
	order, years := make([]int64, len(list)), make([]float32, len(list))
	for i := range list {
		place := placeOracle(list, i)
		order[place] = int64(i)
		years[place] = over(float32(len(list)+1), float32(place+1))
	}
	return order, years, true
}

func shareOracle(list []float32, share float32) float32 {
	if !gaugeOracle(list) || !(share >= 0) || !(share <= 1) {
		return notANumber
	}
	x, place := times(share, float32(len(list)-1)), 0
	for float32(place+1) <= x {
		place++
	}
	for i := range list {
		if placeOracle(list, i) == place {
			return list[i]
		}
	}
	return notANumber
}

// quickOracle is q of the number with the index k.
func quickOracle(list []float32, keep float32, k int) float32 {
	if k == 0 {
		return 0
	}
	grown := times(times(0.5, plus(1, keep)), less(list[k], list[k-1]))
	if q := plus(times(keep, quickOracle(list, keep, k-1)), grown); q > 0 {
		return q
	}
	return 0
}

func baseOracle(list []float32, keep float32) ([]float32, bool) {
	if !gaugeOracle(list) || !(keep >= 0) || !(keep <= 1) {
		return nil, false
	}
	return each(list, func(k int) float32 {
		slow := less(list[k], quickOracle(list, keep, k))
		if slow < 0 {
			return 0
		}
		return slow
	}), true
}

func recedeOracle(list []float32) float32 {
	if !gaugeOracle(list) || slices.Contains(list, 0) {
		return notANumber
	}
	var logs []float32
	for k, x := range list {
		if k > 0 && x < list[k-1] {
			logs = append(logs, impl.LogNumber(over(x, list[k-1])))
		}
	}
	// The mean of none is no number.
	return kept(times(meanOracle(logs), -1))
}

func droughtsOracle(list []float32, level float32) (int64, int64, float32, bool) {
	if !gaugeOracle(list) || level != level {
		return 0, 0, 0, false
	}
	var runs, longest int
	worst := float32(0)
	for from := range list {
		if list[from] >= level || from > 0 && list[from-1] < level {
			continue
		}
		to := from
		for to < len(list) && list[to] < level {
			to++
		}
		run := list[from:to]
		sum := sumOracle(each(run, func(i int) float32 { return less(level, run[i]) }))
		runs, longest, worst = runs+1, max(longest, len(run)), max(worst, sum)
	}
	if !finite(worst) {
		return 0, 0, 0, false
	}
	return int64(runs), int64(longest), worst, true
}

func gapsOracle(list []float32, known []bool) ([]float32, bool) {
	if !gaugeOracle(list) || len(known) != len(list) || !slices.Contains(known, true) {
		return nil, false
	}
	return each(list, func(i int) float32 {
		a, b := i, i
		for a >= 0 && !known[a] {
			a--
		}
		for b < len(list) && !known[b] {
			b++
		}
		switch {
		case a < 0:
			return list[b]
		case b == len(list) || a == b:
			return list[a]
		}
		return plus(list[a], times(over(float32(i-a), float32(b-a)), less(list[b], list[a])))
	}), true
}

func scoreOracle(told, seen []float32) float32 {
	if !gaugeOracle(told) || !gaugeOracle(seen) || len(told) != len(seen) {
		return notANumber
	}
	missed := sumOracle(each(told, func(i int) float32 {
		miss := less(told[i], seen[i])
		return times(miss, miss)
	}))
	spread := apartOracle(seen)
	if spread == 0 {
		return notANumber
	}
	return kept(less(1, over(missed, spread)))
}

func lagOracle(a, b []float32, most int64) (int64, float32, bool) {
	if !gaugeOracle(a) || !gaugeOracle(b) || len(a) != len(b) || most < 0 || most > int64(len(a))-1 {
		return 0, 0, false
	}
	var means []float32
	for k := range int(most) + 1 {
		means = append(means, meanOracle(each(b[k:], func(i int) float32 { return times(a[i], b[i+k]) })))
	}
	top := slices.Max(means)
	if !finite(top) {
		return 0, 0, false
	}
	return int64(slices.Index(means, top)), top, true
}

const letters = "abcdefghijklmnopqrstuvwxyz"

func validRecordOracle(r impl.Record) bool {
	named := len(r.Name) > 0 && len(r.Name) < 9 && strings.Trim(r.Name, letters) == "" && strings.ToLower(r.Name) == r.Name
	for _, b := range []byte(r.Name) {
		named = named && strings.Contains(letters, string(rune(b)))
	}
	return named && r.Start>>32 == 0 && r.Step>>16 == 0 && r.Step != 0 && len(r.Values) > 0 && len(r.Values) < 129
}

func madeOracle(r impl.Record) (impl.Record, bool) {
	if !validRecordOracle(r) {
		return noRecord, false
	}
	return r, true
}

func joinedOracle(a, b impl.Record) (impl.Record, bool) {
	if !validRecordOracle(a) || !validRecordOracle(b) || a.Name != b.Name || a.Step != b.Step {
		return noRecord, false
	}
	if (b.Start-a.Start)%a.Step != 0 || (b.Start-a.Start)/a.Step != int64(len(a.Values)) {
		return noRecord, false
	}
	return madeOracle(withValues(a, append(slices.Clone(a.Values), b.Values...)))
}

func cutRecordOracle(r impl.Record, from, to int64) (impl.Record, bool) {
	if !validRecordOracle(r) || from < 0 || to > int64(len(r.Values)) || from >= to {
		return noRecord, false
	}
	start := r.Start
	for range from {
		start += r.Step
	}
	return madeOracle(record(r.Name, start, r.Step, r.Values[from:to]...))
}

// changeOracle tells the bytes of a change from 0 to 4294967295 by its digits.
func changeOracle(change int64) string {
	n := 2 * change
	if change >= 1<<31 {
		n = -2*(change-1<<32) - 1
	}
	digits := strconv.FormatInt(n, 2)
	digits = strings.Repeat("0", (7-len(digits)%7)%7) + digits
	var packed []byte
	for more := "0"; digits != ""; more = "1" {
		b, _ := strconv.ParseUint(more+digits[:7], 2, 8)
		packed = append([]byte{byte(b)}, packed...)
		digits = digits[7:]
	}
	return string(packed)
}

func packOracle(list []float32) (string, bool) {
	if len(list) < 1 || len(list) > 128 {
		return "", false
	}
	packed, before := "", int64(0)
	for _, x := range list {
		change := int64(bits(x)) - before
		if change < 0 {
			change += 1 << 32
		}
		packed += changeOracle(change)
		before = int64(bits(x))
	}
	return packed, true
}

// unpackOracle reads all numbers, however long they are, and takes them if they
// are packed to the same bytes.
func unpackOracle(s string) ([]float32, bool) {
	var list []float32
	before, n, place := big.NewInt(0), big.NewInt(0), uint(0)
	for _, b := range []byte(s) {
		n.Add(n, new(big.Int).Lsh(big.NewInt(int64(b%128)), place))
		place += 7
		if b > 127 {
			continue
		}
		change := new(big.Int).Rsh(n, 1)
		if n.Bit(0) == 1 {
			change.Not(change)
		}
		before.Add(before, change)
		if before.Sign() < 0 || before.BitLen() > 32 {
			// It goes around once at most: what is farther away is no change.
			before.Sub(before, new(big.Int).Lsh(big.NewInt(int64(before.Sign())), 32))
		}
		if before.Sign() < 0 || before.BitLen() > 32 {
			return nil, false
		}
		list = append(list, number(uint32(before.Uint64())))
		n, place = big.NewInt(0), 0
	}
	packed, ok := packOracle(list)
	if !ok || packed != s {
		return nil, false
	}
	return list, true
}

// checkOracle is the check number of a text that begins with 0.
func checkOracle(s string) uint16 {
	check := big.NewInt(0)
	for i := range len(s) {
		check.Mul(check, big.NewInt(827))
		check.Add(check, big.NewInt(int64(s[i])+127))
		check.Mod(check, big.NewInt(65003))
	}
	return uint16(check.Uint64())
}

func storeOracle(r impl.Record) (string, bool) {
	packed, ok := packOracle(r.Values)
	if !ok || !validRecordOracle(r) {
		return "", false
	}
	s := "RIV1" + string([]byte{byte(len(r.Name))}) + r.Name
	s += string(binary.LittleEndian.AppendUint32(nil, uint32(r.Start)))
	s += string(binary.LittleEndian.AppendUint16(nil, uint16(r.Step)))
	s += string(binary.LittleEndian.AppendUint16(nil, uint16(len(packed)))) + packed
	return s + string(binary.LittleEndian.AppendUint16(nil, checkOracle(s))), true
}

// loadOracle cuts a text where its parts would end, however wrong they are, and
// takes the record if it is stored as this text.
func loadOracle(s string) (impl.Record, bool) {
	if len(s) < 5 || len(s) < 15+int(s[4]) {
		return noRecord, false
	}
	behind := []byte(s[5+int(s[4]):])
	values, ok := unpackOracle(string(behind[8 : len(behind)-2]))
	r := record(s[5:5+int(s[4])], int64(binary.LittleEndian.Uint32(behind)), int64(binary.LittleEndian.Uint16(behind[4:])), values...)
	stored, fine := storeOracle(r)
	if !ok || !fine || stored != s {
		return noRecord, false
	}
	return r, true
}

func storesOracle(list []impl.Record) (string, bool) {
	all := ""
	for _, r := range list {
		s, ok := storeOracle(r)
		if !ok {
			return "", false
		}
		all += s
	}
	if len(list) > 8 {
		return "", false
	}
	return all, true
}

// recoverOracle tries all texts with which a text begins for the next record,
// the longest ones first.
func recoverOracle(s string, most int) ([]impl.Record, int64) {
	for end := min(len(s), 700); end > 0 && most > 0; end-- {
		if r, ok := loadOracle(s[:end]); ok {
			more, length := recoverOracle(s[end:], most-1)
			return append(records(r), more...), int64(end) + length
		}
	}
	return nil, 0
}
