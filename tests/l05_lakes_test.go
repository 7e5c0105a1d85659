package tests

import (
	"slices"
	"testing"

	"loop.example/g01302/impl"
)

// pond lets out half of what it stores, up to 1, and basin nothing at all.
func pond() impl.Lake  { return lake(floats(0, 2), floats(0, 1)) }
func basin() impl.Lake { return lake(floats(0, 8), floats(0, 0)) }

// weirs has an out that is rounded up to infinity at its store in the middle.
func weirs() impl.Lake {
	return lake(floats(0, 1, 2), floats(number(0x73c00000), greatest, greatest))
}

// wrongLakes have a number that is wrong, or too many or too few of them.
func wrongLakes() []impl.Lake {
	list := []impl.Lake{
		{}, lake(floats(1), floats(1)), lake(nil, floats(0, 1)), lake(floats(0, 1), nil), lake(floats(0, 1), floats(1)), lake(floats(0, 1), floats(0, 1, 2)), lake(floats(0, 1, 2), floats(0, 1)), lake(floats(0), floats(0, 1)),
		lake(rising(17), rising(17)), lake(rising(16), rising(17)), lake(rising(17), rising(16)), lake(rising(256), rising(256)),
		lake(floats(1, 1), floats(0, 1)), lake(floats(0, 0), floats(0, 0)), lake(floats(minusZero, 0), floats(0, 1)), lake(floats(0, minusZero), floats(0, 1)), lake(floats(2, 1), floats(0, 1)), lake(floats(0, 2, 2), floats(0, 1, 2)), lake(floats(0, 2, 1, 3), floats(0, 1, 2, 3)), lake(floats(0, 2), floats(1, 0)), lake(floats(0, 1, 2), floats(0, 1, under(1))), lake(floats(0, 1, 2), floats(tiniest, 0, 1)),
		lake(with(rising(16), 15, 14), rising(16)), lake(rising(16), with(rising(16), 15, 13)),
	}
	for _, x := range invalidNumbers() {
		for i := range 3 {
			list = append(list, lake(with(rising(3), i, x), rising(3)), lake(rising(3), with(rising(3), i, x)))
		}
	}
	return list
}

func TestValidLakes(t *testing.T) {
	for _, l := range []impl.Lake{
		pond(), basin(), weirs(), lake(rising(2), rising(2)), lake(rising(16), rising(16)), lake(rising(16), make([]float32, 16)), lake(floats(minusZero, tiniest), floats(minusZero, 0)), lake(floats(0, 1), floats(0, minusZero)), lake(floats(1, 2), floats(minusZero, minusZero)), lake(floats(0, tiniest), floats(0, greatest)), lake(floats(under(greatest), greatest), floats(greatest, greatest)), lake(floats(0, 1, 2), floats(1, 1, 3)), lake(floats(5, 6, 7), floats(2, 3, 3)),
	} {
		wantThat(t, impl.ValidLake(l), true, "ValidLake", l)
	}
	for _, l := range wrongLakes() {
		wantThat(t, impl.ValidLake(l), false, "ValidLake", l)
	}
	d := drawer(510)
	for _, x := range sampleNumbers(300) {
		for _, l := range []impl.Lake{lake(floats(x, 2), floats(0, 1)), lake(floats(1, x), floats(0, 1)), lake(floats(1, 2), floats(x, 1)), lake(floats(1, 2), floats(1, x)), lake(floats(0, x, 2), floats(1, 1, 2)), lake(floats(1, 2, 3), floats(0, x, 1))} {
			wantThat(t, impl.ValidLake(l), validLakeOracle(l), "ValidLake", l)
		}
		l := d.lake(amountKinds)
		wantThat(t, impl.ValidLake(l), validLakeOracle(l), "ValidLake", l)
	}
}

func TestSameLakes(t *testing.T) {
	a := lake(floats(1, notANumber, minusZero), floats(infinity, 0))
	wantThat(t, impl.SameLake(a, lake(floats(1, number(0xff800001), minusZero), floats(infinity, 0))), true, "SameLake with other not-a-numbers")
	wantThat(t, impl.SameLake(impl.Lake{}, lake(floats(), floats())), true, "SameLake of nothing")
	for _, b := range []impl.Lake{
		{}, lake(a.Stores, nil), lake(nil, a.Outs), lake(a.Outs, a.Stores), lake(a.Stores, a.Stores), lake(a.Stores[:2], a.Outs), lake(append(slices.Clone(a.Stores), 0), a.Outs), lake(a.Stores, a.Outs[:1]), lake(a.Stores, append(slices.Clone(a.Outs), 0)),
		lake(with(a.Stores, 0, 2), a.Outs), lake(with(a.Stores, 1, 1), a.Outs), lake(with(a.Stores, 2, 0), a.Outs), lake(a.Stores, with(a.Outs, 0, minusInf)), lake(a.Stores, with(a.Outs, 1, minusZero)),
		lake(a.Stores[:2], floats(minusZero, infinity, 0)), lake(floats(1, notANumber, minusZero, infinity), floats(0)), // the same numbers one after another, but in other lists
	} {
		wantThat(t, impl.SameLake(a, b) || impl.SameLake(b, a), false, "SameLake", a, b)
		wantThat(t, impl.SameLake(b, lake(slices.Clone(b.Stores), slices.Clone(b.Outs))), true, "SameLake", b)
	}
}

func TestLakeOutByHand(t *testing.T) {
	steps := lake(floats(1, 2, 4, 8), floats(0, 2, 2, 3))
	for _, c := range []struct {
		l           impl.Lake
		store, want float32
	}{
		{pond(), 1, 0.5}, {pond(), 0.5, 0.25}, {pond(), 2, 1}, {pond(), 9, 1}, {pond(), 0, 0}, {pond(), minusZero, 0}, {pond(), -5, 0}, {pond(), greatest, 1}, {pond(), -greatest, 0}, {pond(), tiniest, 0}, {pond(), 3 * tiniest, 2 * tiniest}, {pond(), under(2), under(1)},
		{steps, 1.5, 1}, {steps, 1, 0}, {steps, above(1), times(number(0x34000000), 2)}, {steps, under(1), 0}, {steps, 0.5, 0}, {steps, -1, 0}, {steps, 2, 2}, {steps, under(2), number(0x3ffffffe)}, {steps, above(2), 2}, {steps, 3, 2}, {steps, 4, 2}, {steps, 6, 2.5}, {steps, 7, 2.75}, {steps, 8, 3}, {steps, above(8), 3}, {steps, under(8), 3}, {steps, 5, 2.25},
		// zeros of both signs are told only at the ends, and below and above them
		{lake(floats(1, 2, 3), floats(minusZero, minusZero, minusZero)), 1, minusZero}, {lake(floats(1, 2, 3), floats(minusZero, minusZero, minusZero)), 0, minusZero}, {lake(floats(1, 2, 3), floats(minusZero, minusZero, minusZero)), 2, 0}, {lake(floats(1, 2, 3), floats(minusZero, minusZero, minusZero)), 2.5, 0}, {lake(floats(1, 2, 3), floats(0, 0, minusZero)), 3, minusZero}, {lake(floats(1, 2, 3), floats(0, 0, minusZero)), 4, minusZero}, {lake(floats(minusZero, 2), floats(5, 6)), 0, 5}, {lake(floats(0, 2), floats(5, 6)), minusZero, 5}, {lake(floats(1, 2), floats(minusZero, 0)), 1.5, 0},
		// at one of the stores, the former out need not come out exactly
		{lake(floats(0, 1, 2), floats(0.1, 16, 16)), 1, plus(0.1, less(16, 0.1))}, {lake(floats(0, 1, 2), floats(number(0x33ffffff), 1, 1)), 1, 1}, {lake(floats(0, 1, 2), floats(3, greatest, greatest)), 1, greatest},
		// subnormal and very great ones
		{lake(floats(0, tiniest), floats(0, greatest)), tiniest, greatest}, {lake(floats(0, 2*tiniest), floats(0, greatest)), tiniest, greatest / 2}, {lake(floats(0, greatest), floats(0, greatest)), 1, under(1)}, {lake(floats(0, greatest), floats(0, greatest)), greatest / 2, greatest / 2}, {lake(floats(0, greatest), floats(0, greatest)), tiniest, 0}, {lake(floats(0, greatest), floats(0, tiniest)), greatest / 4 * 3, tiniest}, {lake(floats(0, greatest), floats(tiniest, greatest)), under(greatest), under(greatest)}, {lake(floats(under(greatest), greatest), floats(1, 2)), under(greatest), 1},
		// the sum is rounded up to infinity, at a store, and where the quotient is rounded up to 1
		{weirs(), 1, notANumber}, {weirs(), under(1), under(greatest)}, {weirs(), above(1), greatest}, {weirs(), 2, greatest}, {weirs(), 0, number(0x73c00000)}, {lake(floats(0.5, 16777215), floats(number(0x73c00000), greatest)), 16777214, notANumber}, {lake(floats(0.5, 16777215), floats(number(0x73c00000), greatest)), 16777215, greatest}, {lake(floats(0.5, 16777215), floats(1, 9)), 16777214, 9},
	} {
		wantTold(t, all(impl.LakeOut(c.l, c.store)), c.want, "LakeOut", c.l, c.store)
	}
}

func TestLakeOutsOfAllKinds(t *testing.T) {
	d := drawer(511)
	for n := range 10000 {
		l := d.lake(1 + n%amountKinds)
		for _, store := range append(floats(d.storeIn(l), d.storeIn(l), d.signed(1+n%amountKinds), d.bitwise()), l.Stores...) {
			wantTold(t, all(impl.LakeOut(l, store)), lakeOracle(l, store), "LakeOut", l, store)
		}
		low, high := d.storeIn(l), d.storeIn(l)
		if low > high {
			low, high = high, low
		}
		a, b := must(impl.LakeOut(l, low)), must(impl.LakeOut(l, high))
		wantThat(t, a <= times(b, 1.000001) || a <= b+tiniest, true, "LakeOut of more is more", l, low, high)
	}
}

func TestStepLakeByHand(t *testing.T) {
	deep := lake(floats(0, greatest), floats(0, 0))
	for _, c := range []struct {
		l                           impl.Lake
		store, in, next, tick, want float32
	}{
		// it stays as it is if as much flows in as out
		{pond(), 1, 0.5, 0.5, 1, 1}, {pond(), 1, 0.25, 0.75, 4, 1}, {pond(), 0, 0, 0, 1, 0}, {basin(), 5, 0, 0, 1, 5}, {basin(), 5, 0, 0, greatest, 5}, {pond(), 0.5, 0.25, 0.25, 64, 0.5},
		{basin(), 2, 3, 1, 2, 6}, {basin(), 2, 1, 3, 2, 6}, {basin(), 2, 4, 0, 2, 6}, {basin(), 2, 0, 1, 2, 3}, {basin(), 2, tiniest, 0, 1, 2}, {basin(), 0, 0.25, 0, 1, 0.125}, {pond(), 0, 1, 1.5, 1, 1}, {pond(), 1, 0, 0, 1, 0.6}, {pond(), 2, 0, 0, 2, over(2, 3)},
		// the first and the last one of Stores, and next to them
		{basin(), 0, 1, 1, 1, 1}, {basin(), 8, 0, 0, 1, 8}, {basin(), under(8), 0, 0, 1, under(8)}, {basin(), tiniest, 0, 0, 1, 0}, {basin(), minusZero, 0, 0, 1, 0}, {lake(floats(1, 2), floats(0, 0)), 1, 0, 0, 1, 1}, {lake(floats(1, 2), floats(0, 0)), 2, 0, 0, 1, 2}, {lake(floats(minusZero, 2), floats(1, 1)), 0, 0, 0, 1, minusZero},
		// full ones: what flows in is lost, and empty ones
		{basin(), 8, 9, 9, 9, 8}, {basin(), 4, 9, 9, 9, 8}, {pond(), 2, 100, 100, 1, 2}, {basin(), 2, greatest, greatest, greatest, 8}, {lake(floats(0, 8), floats(8, 8)), 4, 0, 0, 0.5, number(0x34000000)}, {lake(floats(0, 8), floats(8, 8)), 8, 0, 0, 100, 0}, {lake(floats(3, 8), floats(8, 8)), 4, 0, 0, 1, 3}, {lake(floats(0, 8), floats(2, 2)), 4, 0, 0, 0.5, 3}, {lake(floats(0, 8), floats(2, 2)), 4, 2, 2, 0.5, 4},
		// half of the tick is 0, or rounded up
		{pond(), 1, 100, 100, tiniest, 1}, {basin(), 0, number(0x7e800000), 0, 3 * tiniest, number(0x34800000)},
		// what comes is no number, or infinite: nothing is greater
		{lake(floats(0, 8), floats(8, 8)), 4, greatest, greatest, greatest, 8}, {lake(floats(0, 8), floats(8, 8)), 4, 8, 8, greatest, 8}, {lake(floats(0, 8), floats(8, 8)), 4, 0, 0, greatest, 0},
		// m is infinite: at first, at last, and where nothing is greater than what comes
		{deep, greatest, 0, 0, 1, greatest / 2}, {deep, 1e38, 0, 0, 1, halfway(1e38)}, {lake(floats(3e38, greatest), floats(0, 0)), greatest, 0, 0, 1, 3e38}, {lake(floats(3e38, greatest), floats(0, 5)), 3.2e38, 5, 5, 1, 3e38}, {deep, greatest, greatest, greatest, 1, notANumber}, {deep, 1, greatest, greatest, 4, notANumber}, {lake(floats(3e38, greatest), floats(0, 0)), 3e38, greatest, 0, 2, notANumber}, {lake(floats(0, greatest), floats(greatest, greatest)), greatest, greatest, greatest, greatest, notANumber},
		// LakeOut fails: at the store, or at one that is tried
		{weirs(), 1, 1, 1, 1, notANumber}, {weirs(), 0, 0, 0, 1, notANumber}, {weirs(), 2, 1, 1, 1, notANumber}, {lake(floats(0, 1, 3), floats(number(0x73c00000), greatest, greatest)), 2.5, 0, 0, 1, 0},
	} {
		wantTold(t, all(impl.StepLake(c.l, c.store, c.in, c.next, c.tick)), c.want, "StepLake", c.l, c.store, c.in, c.next, c.tick)
	}
}

// halfway is the last store of a very deep lake that is tried without a sum that
// is infinite, if the store is not less.
func halfway(store float32) float32 {
	low, high := float32(0), greatest
	for range 40 {
		if m := over(plus(low, high), 2); m > store {
			high = m
		} else {
			low = m
		}
	}
	return low
}

func TestStepLakeFails(t *testing.T) {
	for _, l := range wrongLakes() {
		wantTold(t, all(impl.StepLake(l, 1, 1, 1, 1)), notANumber, "StepLake", l)
		wantTold(t, all(impl.LakeOut(l, 1)), notANumber, "LakeOut", l)
		for _, ins := range rows(floats(1), floats(1, 1)) {
			wantResults(t, all(impl.RouteLake(l, 1, ins, 1)), all(noFloats, noFloats, false), "RouteLake", l, ins)
		}
	}
	inner := lake(floats(1, 2, 4), floats(0, 1, 2))
	for _, store := range append(notFinite(), under(1), above(4), 0, minusZero, -1, 5, greatest, -greatest, tiniest) {
		wantTold(t, all(impl.StepLake(inner, store, 1, 1, 1)), notANumber, "StepLake with the store", store)
		for _, ins := range rows(floats(0), floats(1), floats(1, 1)) {
			wantResults(t, all(impl.RouteLake(inner, store, ins, 1)), all(noFloats, noFloats, false), "RouteLake with the store", store, ins)
		}
	}
	for _, store := range notFinite() {
		wantTold(t, all(impl.LakeOut(inner, store)), notANumber, "LakeOut of the store", store)
	}
	for _, x := range invalidNumbers() {
		wantTold(t, all(impl.StepLake(inner, 2, x, 1, 1)), notANumber, "StepLake with the in", x)
		wantTold(t, all(impl.StepLake(inner, 2, 1, x, 1)), notANumber, "StepLake with the next in", x)
		for _, ins := range rows(floats(x), floats(x, 1), floats(1, x), floats(1, x, 1), append(make([]float32, impl.MaxRain-1), x)) {
			wantResults(t, all(impl.RouteLake(inner, 2, ins, 1)), all(noFloats, noFloats, false), "RouteLake with the ins", ins)
		}
	}
	for _, x := range nonPositive() {
		wantTold(t, all(impl.StepLake(inner, 2, 1, 1, x)), notANumber, "StepLake with the tick", x)
		for _, ins := range rows(floats(1), floats(1, 1)) {
			wantResults(t, all(impl.RouteLake(inner, 2, ins, x)), all(noFloats, noFloats, false), "RouteLake with the tick", x, ins)
		}
	}
}

func TestRouteLakeByHand(t *testing.T) {
	for _, c := range []struct {
		l                  impl.Lake
		store              float32
		ins                []float32
		tick               float32
		wantStore, wantOut []float32
	}{
		{pond(), 1, floats(0.5), 1, floats(1), floats(0.5)}, {pond(), 1, floats(0.5, 0.5, 0.5), 1, floats(1, 1, 1), floats(0.5, 0.5, 0.5)}, {basin(), 1, floats(1, 3, 1, 0), 1, floats(1, 3, 5, 5.5), floats(0, 0, 0, 0)}, {basin(), 6, floats(4, 4, 4), 1, floats(6, 8, 8), floats(0, 0, 0)}, {lake(floats(0, 8), floats(2, 2)), 5, floats(0, 0, 0, 0), 1, floats(5, above(3), number(0x3f800002), 0), floats(2, 2, 2, 2)}, {pond(), 0, floats(minusZero, minusZero), 1, floats(0, 0), floats(0, 0)},
		// one in needs no step: the store is told as it is, from the first to the last of Stores
		{pond(), 0, floats(9), 1, floats(0), floats(0)}, {pond(), 2, floats(9), 1, floats(2), floats(1)}, {pond(), tiniest, floats(0), 1, floats(tiniest), floats(0)}, {pond(), under(2), floats(0), 1, floats(under(2)), floats(under(1))}, {pond(), minusZero, floats(0), 1, floats(minusZero), floats(0)}, {pond(), 1, floats(greatest), greatest, floats(1), floats(0.5)}, {lake(floats(3, greatest), floats(1, 2)), greatest, floats(1), 1, floats(greatest), floats(2)}, {lake(floats(3, greatest), floats(1, 2)), 3, floats(1), 1, floats(3), floats(1)},
	} {
		wantResults(t, all(impl.RouteLake(c.l, c.store, c.ins, c.tick)), all(c.wantStore, c.wantOut, true), "RouteLake", c.l, c.store, c.ins, c.tick)
	}
	failed := all(noFloats, noFloats, false)
	deep := lake(floats(0, greatest), floats(0, 0))
	wantResults(t, all(impl.RouteLake(deep, 0, floats(1, greatest, greatest), 4)), failed, "RouteLake where the last step fails")
	wantResults(t, all(impl.RouteLake(deep, 0, floats(greatest, greatest, 1, 1), 4)), failed, "RouteLake where the first step fails")
	wantResults(t, all(impl.RouteLake(weirs(), 1, floats(1), 1)), failed, "RouteLake where LakeOut fails")
}

// The store is one that the lake can have, also where no tick is made with it.
func TestRouteLakeBeginsInTheLake(t *testing.T) {
	for _, l := range []impl.Lake{pond(), basin(), lake(floats(1, 2, 4), floats(0, 1, 1)), lake(floats(minusZero, tiniest), floats(0, 1)), lake(rising(impl.MaxLake), rising(impl.MaxLake)), lake(floats(5, under(greatest)), floats(0, 0))} {
		first, last := l.Stores[0], l.Stores[len(l.Stores)-1]
		for _, ins := range rows(floats(0), floats(1), floats(1, 1), make([]float32, impl.MaxRain)) {
			for _, store := range floats(under(first), above(last), -tiniest, -1, -greatest, greatest) {
				wantResults(t, all(impl.RouteLake(l, store, ins, 1)), all(noFloats, noFloats, false), "RouteLake", l, store, len(ins))
			}
			for _, store := range floats(first, last) {
				stores, outs, ok := impl.RouteLake(l, store, ins, 1)
				wantThat(t, ok && len(stores) == len(ins) && len(outs) == len(ins), true, "RouteLake", l, store, len(ins))
				wantNumber(t, stores[0], store, "the first store of RouteLake", l, store)
				wantNumber(t, outs[0], must(impl.LakeOut(l, store)), "the first out of RouteLake", l, store)
			}
		}
	}
}

func TestRouteLakeAtItsLimits(t *testing.T) {
	for _, l := range []impl.Lake{pond(), basin(), lake(rising(impl.MaxLake), rising(impl.MaxLake))} {
		for _, count := range []int{1, 2, impl.MaxRain} {
			ins := evenList(count, 0.75)
			stores, outs, ok := routeLakeOracle(l, 1.5, ins, 0.5)
			wantThat(t, ok && len(stores) == count && len(outs) == count, true, "the oracle")
			wantResults(t, all(impl.RouteLake(l, 1.5, ins, 0.5)), all(stores, outs, true), "RouteLake of so many ins", count)
		}
		for _, count := range []int{0, impl.MaxRain + 1, 2 * impl.MaxRain} {
			wantResults(t, all(impl.RouteLake(l, 1.5, evenList(count, 0.75), 0.5)), all(noFloats, noFloats, false), "RouteLake of so many ins", count)
		}
	}
}

func TestLakesOfAllKinds(t *testing.T) {
	d := drawer(512)
	steps, routes := 0, 0
	for n := range 6000 {
		kinds := tame + n%4
		l := d.lake(kinds)
		store, in, next, tick := d.storeIn(l), d.amount(kinds), d.amount(kinds), d.length(kinds)
		want := stepLakeOracle(l, store, in, next, tick)
		wantTold(t, all(impl.StepLake(l, store, in, next, tick)), want, "StepLake", l, store, in, next, tick)
		if want != want {
			steps++
		}
		if n%10 == 0 {
			ins := d.rain(1+int(d.next()%20), kinds)
			stores, outs, ok := routeLakeOracle(l, store, ins, tick)
			wantResults(t, all(impl.RouteLake(l, store, ins, tick)), all(stores, outs, ok), "RouteLake", l, store, ins, tick)
			if !ok {
				routes++
			}
		}
	}
	for n := range 3000 {
		l, in, tick := d.lake(1+n%amountKinds), d.rain(1, 1+n%amountKinds), d.length(tame)
		for _, store := range floats(d.storeIn(l), d.amount(1+n%amountKinds), d.bitwise()) {
			stores, outs, ok := routeLakeOracle(l, store, in, tick)
			wantResults(t, all(impl.RouteLake(l, store, in, tick)), all(stores, outs, ok), "RouteLake of one in", l, store, in, tick)
		}
	}
	wantThat(t, steps > 20 && routes > 10 && routes < 300, true, "StepLake and RouteLake are tried with lakes that fail, and that do not", steps, routes)
}

// What has flowed in is in the lake, or has flowed out, where it is never full
// and never empty.
func TestLakesLoseNothing(t *testing.T) {
	d := drawer(513)
	tried := 0
	for range 600 {
		l := d.lake(1)
		for i := range l.Stores {
			l.Stores[i], l.Outs[i] = float32(40*i), times(l.Outs[i], 3)
		}
		ins, tick := d.rain(100, 3), d.between(0.1, 3)
		for i := range ins {
			ins[i] = d.between(0, 10)
		}
		stores, outs, ok := impl.RouteLake(l, d.storeIn(l), ins, tick)
		wantThat(t, ok, true, "RouteLake", l)
		last := l.Stores[len(l.Stores)-1]
		for i := 1; i < len(ins); i++ {
			if stores[i] < 0.001 || stores[i] > last-0.001 {
				continue
			}
			tried++
			came := float64(stores[i-1]) + float64(tick)*(float64(ins[i-1])+float64(ins[i]))/2
			left := float64(stores[i]) + float64(tick)*(float64(outs[i-1])+float64(outs[i]))/2
			wantThat(t, isNear(came, left, came+1), true, "RouteLake", l, tick, i, came, left)
		}
	}
	wantThat(t, tried > 10000, true, "RouteLake is tried with lakes that are not full", tried)
}

// In time, as much flows out of a lake as in.
func TestLakesComeToRest(t *testing.T) {
	l := lake(floats(0, 10, 20, 40), floats(0, 1, 4, 16))
	for _, in := range floats(0.5, 1, 2.5, 4, 10, 15) {
		for _, store := range floats(0, 10, 40) {
			stores, outs, ok := impl.RouteLake(l, store, evenList(impl.MaxRain, in), 2)
			wantThat(t, ok && isClose(outs[impl.MaxRain-1], in, 1e-4), true, "RouteLake comes to rest", in, store, outs[impl.MaxRain-1])
			for i, s := range stores {
				wantNumber(t, outs[i], must(impl.LakeOut(l, s)), "RouteLake tells LakeOut", in, store, i)
			}
		}
	}
}
