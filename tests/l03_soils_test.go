package tests

import (
	"testing"

	"loop.example/g01302/impl"
)

var noSoil impl.Soil

func TestValidSoils(t *testing.T) {
	for _, x := range sampleNumbers(200) {
		for _, s := range []impl.Soil{soil(x, 1, 2, 1, 1), soil(1, x, 2, 1, 1), soil(1, 1, x, 1, 1), soil(1, 1, 2, x, 1), soil(1, 1, 2, 1, x), soil(0, 0, x, 0, x), soil(0, 0, x, 0, 0)} {
			wantThat(t, impl.ValidSoil(s), validSoilOracle(s), "ValidSoil", s)
		}
	}
	for _, s := range []impl.Soil{{}, soil(minusZero, minusZero, minusZero, minusZero, minusZero), soil(0, 0, minusZero, 0, 0), soil(0, 0, 0, 0, minusZero), soil(greatest, greatest, greatest, greatest, greatest), soil(0, 0, 1, 0, 1)} {
		wantThat(t, impl.ValidSoil(s), true, "ValidSoil", s)
	}
	for _, s := range []impl.Soil{soil(0, 0, 0, 0, tiniest), soil(0, 0, 1, 0, number(0x3f800001)), soil(0, 0, infinity, 0, 1), soil(0, 0, infinity, 0, infinity), soil(0, 0, 1, 0, -tiniest), soil(0, 0, 1, 0, notANumber), soil(0, 0, notANumber, 0, 0)} {
		wantThat(t, impl.ValidSoil(s), false, "ValidSoil", s)
	}
}

func TestSameSoils(t *testing.T) {
	a := soil(1, 2, notANumber, minusZero, infinity)
	wantThat(t, impl.SameSoil(a, soil(1, 2, number(0xff800001), minusZero, infinity)), true, "SameSoil with other not-a-numbers")
	for _, b := range []impl.Soil{soil(2, 2, notANumber, minusZero, infinity), soil(1, 1, notANumber, minusZero, infinity), soil(1, 2, 3, minusZero, infinity), soil(1, 2, notANumber, 0, infinity), soil(1, 2, notANumber, minusZero, minusInf), soil(2, 1, notANumber, minusZero, infinity)} {
		wantThat(t, impl.SameSoil(a, b) || impl.SameSoil(b, a), false, "SameSoil", a, b)
	}
	wantThat(t, impl.SameSoil(noSoil, soil(0, 0, 0, 0, 0)), true, "SameSoil")
	for _, b := range []impl.Soil{soil(minusZero, 0, 0, 0, 0), soil(0, minusZero, 0, 0, 0), soil(0, 0, minusZero, 0, 0), soil(0, 0, 0, minusZero, 0), soil(0, 0, 0, 0, minusZero)} {
		wantThat(t, impl.SameSoil(noSoil, b) || !impl.SameSoil(b, b), false, "SameSoil of zeros", b)
	}
}

func TestCanTake(t *testing.T) {
	for _, c := range []struct {
		s    impl.Soil
		want float32
		ok   bool
	}{
		{soil(2, 3, 5, 0, 2), 4, true}, {soil(2, 0, 5, 0, 2), 2, true}, {soil(0, 3, 5, 0, 2), 0, true}, {soil(minusZero, 3, 5, 0, 2), minusZero, true}, {soil(1, 3, 0, 0, 0), 4, true}, {soil(1, 3, 1, 0, 1), 2.5, true},
		{soil(0, greatest, 5, 0, 0), 0, true}, {soil(greatest, 0, 5, 0, 0), greatest, true}, {soil(greatest, 1, 5, 0, 0), 0, false}, {soil(greatest, 1e-9, 5, 0, 0), greatest, true}, {soil(2, greatest, 5, 0, 0), 0, false}, {soil(1, greatest, 5, 0, 0), greatest, true}, {soil(2, greatest, 5, 0, 1), greatest, true}, {soil(2, greatest, greatest, 0, greatest), 4, true},
		{soil(tiniest, 1, 5, 0, 0), number(2), true}, {soil(1, tiniest, 5, 0, 0), 1, true},
		{soil(1, 1, 1, 1, 2), 0, false}, {soil(-1, 1, 1, 1, 1), 0, false}, {soil(1, notANumber, 1, 1, 1), 0, false}, {soil(1, 1, 1, infinity, 1), 0, false},
	} {
		wantResults(t, all(impl.CanTake(c.s)), all(c.want, c.ok), "CanTake", c.s)
	}
}

func TestStepSoilByHand(t *testing.T) {
	rounded := number(0x3f800001)
	for _, c := range []struct {
		s               impl.Soil
		fall, tick      float32
		wet, off, falls float32
	}{
		{soil(1, 0, 2, 0, 0), 3, 1, 1, 2, 0}, {soil(1, 0, 2, 0, 1.5), 3, 1, 2, 2.5, 0}, {soil(1, 0, 2, 0, 0.5), 0.25, 1, 0.75, 0, 0}, {soil(1, 0, 9, 0, 0), 3, 2, 2, 1, 0}, {soil(1, 3, 9, 0, 2), 9, 1, 4, 7, 0},
		{soil(0, 0, 4, 0.25, 4), 0, 1, 3, 0, 1}, {soil(0, 0, 4, 0.25, 4), 0, 2, 2, 0, 2}, {soil(0, 0, 4, 0.25, 4), 0, 4, 0, 0, 4}, {soil(0, 0, 4, 0.25, 4), 0, 5, 0, 0, 4}, {soil(8, 0, 4, 0.25, 0), 9, 1, 3, 5, 1},
		// full ones, and ones that hold nothing
		{soil(5, 5, 2, 0, 2), 3, 1, 2, 3, 0}, {soil(5, 5, 2, 0.5, 2), 3, 1, 1, 3, 1}, {soil(5, 5, 0, 1, 0), 3, 1, 0, 3, 0}, {soil(5, 5, minusZero, 1, 0), 3, 1, 0, 3, 0}, {soil(5, 5, 2, 0, 2), 0, 1, 2, 0, 0},
		{soil(0, 5, 2, 0, 0), 3, 1, 0, 3, 0}, {soil(5, 5, 2, 9, 2), 3, 1, 0, 3, 2}, {soil(greatest, 0, greatest, 0, greatest), greatest, greatest, greatest, greatest, 0},
		// equal numbers: all three, and two of them
		{soil(2, 0, 2, 0, 0), 2, 1, 2, 0, 0}, {soil(2, 0, 2, 0, 0), 5, 1, 2, 3, 0}, {soil(5, 0, 2, 0, 0), 2, 1, 2, 0, 0}, {soil(2, 0, 5, 0, 0), 2, 1, 2, 0, 0},
		// the first one of zeros of both signs: the fall, what the soil can take, and what it has room for
		{soil(0, 0, 0, 0, 0), minusZero, 1, 0, 0, 0}, {soil(0, 0, 5, 0, minusZero), minusZero, 1, 0, 0, minusZero}, {soil(minusZero, 0, 5, 0, minusZero), 0, 1, 0, 0, 0}, {soil(minusZero, 0, 0, 0, minusZero), 1, 1, 0, 1, minusZero}, {soil(0, 0, 0, 0, minusZero), 1, 1, 0, 1, 0},
		{soil(1, 0, 5, minusZero, 2), 0, 1, 2, 0, minusZero},
		// Hold less Wet is rounded up, and so is the sum
		{soil(9, 0, rounded, 0, 1.5*number(0x34000000)), 5, 1, rounded, 4, 0},
		// from left to right: the first product is infinite, or 0
		{soil(0, 0, 3e38, 10, 3e38), 0, 1e-38, 0, 0, 3e38}, {soil(0, 0, 1e-30, 1e-30, 1e-30), 0, 1e30, 1e-30, 0, 0},
		{soil(3e38, 0, 7, 0, 1), 100, 10, 7, 94, 0}, {soil(tiniest, 0, 7, 0, 1), 100, 0.5, 1, 100, 0}, {soil(1, 0, tiniest, 0, 0), 1, 1, tiniest, 1, 0}, {soil(1, 0, 7, 0, 0), tiniest, 1, tiniest, 0, 0},
	} {
		want := c.s
		want.Wet = c.wet
		wantResults(t, all(impl.StepSoil(c.s, c.fall, c.tick)), all(want, c.off, c.falls, true), "StepSoil", c.s, c.fall, c.tick)
	}
}

func TestStepSoilFails(t *testing.T) {
	good := soil(1, 1, 2, 1, 1)
	failed := all(noSoil, float32(0), float32(0), false)
	for _, x := range invalidNumbers() {
		wantResults(t, all(impl.StepSoil(good, x, 1)), failed, "StepSoil with the fall", x)
		wantResults(t, all(impl.StepSoil(good, 1, x)), failed, "StepSoil with the tick", x)
		for _, s := range []impl.Soil{soil(x, 1, 2, 1, 1), soil(1, x, 2, 1, 1), soil(1, 1, x, 1, 1), soil(1, 1, 2, x, 1), soil(1, 1, 2, 1, x)} {
			wantResults(t, all(impl.StepSoil(s, 1, 1)), failed, "StepSoil", s)
			wantResults(t, all(impl.CanTake(s)), all(float32(0), false), "CanTake", s)
		}
	}
	for _, tick := range floats(0, minusZero) {
		wantResults(t, all(impl.StepSoil(good, 1, tick)), failed, "StepSoil with the tick", tick)
	}
	wantResults(t, all(impl.StepSoil(soil(1, 1, 1, 1, 2), 1, 1)), failed, "StepSoil with more than the soil can hold")
	wantResults(t, all(impl.StepSoil(soil(greatest, 1, 1, 1, 0), 1, 1)), failed, "StepSoil where CanTake fails")
}

func TestRunSoilByHand(t *testing.T) {
	wantResults(t, all(impl.RunSoil(soil(1, 0, 2, 0, 0), floats(3, 0.5, 3), 1)), all(soil(1, 0, 2, 0, 2), floats(2, 0, 2.5), floats(0, 0, 0), true), "RunSoil")
	wantResults(t, all(impl.RunSoil(soil(4, 0, 4, 0.5, 0), floats(6, 0, 0, 8), 1)), all(soil(4, 0, 4, 0.5, 2), floats(2, 0, 0, 4.5), floats(2, 1, 0.5, 2), true), "RunSoil")
}

// Without rain, nothing is done with a soil, whatever it can take.
func TestRunSoilWithoutRain(t *testing.T) {
	for _, s := range []impl.Soil{noSoil, soil(1, 2, 3, 4, 3), soil(greatest, 1, 1, 1, 0), soil(minusZero, 0, 0, 0, minusZero)} {
		wantResults(t, all(impl.RunSoil(s, nil, 1)), all(s, noFloats, noFloats, true), "RunSoil without rain", s)
	}
}

func TestRunSoilFails(t *testing.T) {
	good := soil(1, 1, 2, 1, 1)
	failed := all(noSoil, noFloats, noFloats, false)
	for _, rain := range [][]float32{nil, {1}, {1, 2}} {
		for _, x := range append(invalidNumbers(), 0, minusZero) {
			wantResults(t, all(impl.RunSoil(good, rain, x)), failed, "RunSoil with the tick", rain, x)
		}
		for _, x := range invalidNumbers() {
			for _, s := range []impl.Soil{soil(x, 1, 2, 1, 1), soil(1, x, 2, 1, 1), soil(1, 1, x, 1, 1), soil(1, 1, 2, x, 1), soil(1, 1, 2, 1, x)} {
				wantResults(t, all(impl.RunSoil(s, rain, 1)), failed, "RunSoil", s, rain)
			}
			wantResults(t, all(impl.RunSoil(good, append(rain[:len(rain):len(rain)], x), 1)), failed, "RunSoil with the rain", rain, x)
		}
	}
	wantResults(t, all(impl.RunSoil(good, make([]float32, impl.MaxRain+1), 1)), failed, "RunSoil with too much rain")
	_, offs, lets, ok := impl.RunSoil(good, make([]float32, impl.MaxRain), 1)
	wantThat(t, ok && len(offs) == impl.MaxRain && len(lets) == impl.MaxRain, true, "RunSoil with MaxRain numbers")
	// It can take so much only as long as it is wet.
	wet := soil(greatest, 1, 1e9, 1, 1e9)
	wantResults(t, all(impl.RunSoil(wet, floats(0), 1)), all(soil(greatest, 1, 1e9, 1, 0), floats(0), floats(1e9), true), "RunSoil once")
	wantResults(t, all(impl.RunSoil(wet, floats(0, 0), 1)), failed, "RunSoil where CanTake fails at last")
}

func TestSoilsOfAllKinds(t *testing.T) {
	d := drawer(320)
	failed := 0
	for n := range 6000 {
		kinds := tame + n%4
		s := d.soil(kinds)
		fast, ok := canTakeOracle(s)
		wantResults(t, all(impl.CanTake(s)), all(fast, ok), "CanTake", s)
		rain, tick := d.rain(int(d.next()%12), kinds), d.length(kinds)
		for _, fall := range rain {
			next, off, gone, ok := stepSoilOracle(s, fall, tick)
			wantResults(t, all(impl.StepSoil(s, fall, tick)), all(next, off, gone, ok), "StepSoil", s, fall, tick)
		}
		next, offs, lets, ok := runSoilOracle(s, rain, tick)
		wantResults(t, all(impl.RunSoil(s, rain, tick)), all(next, offs, lets, ok), "RunSoil", s, rain, tick)
		if !ok {
			failed++
		}
	}
	wantThat(t, failed > 100 && failed < 3000, true, "RunSoil is tried with soils that fail, and that do not", failed)
}

// What falls is in the soil, or has run off, or was let go.
func TestSoilsLoseNothing(t *testing.T) {
	d := drawer(321)
	for range 2000 {
		s := d.soil(tame)
		rain := d.rain(impl.MaxRain, tame)
		next, offs, lets, ok := impl.RunSoil(s, rain, d.length(tame))
		came := wideSum(rain, floats(s.Wet))
		if left := wideSum(offs, lets, floats(next.Wet)); !ok || !impl.ValidSoil(next) || !isNear(came, left, came) {
			t.Errorf("RunSoil of %v makes %v of %v", s, left, came)
		}
		if !impl.IsRain(offs) || !impl.IsRain(lets) {
			t.Errorf("RunSoil of %v lets %v run off, and %v go", s, offs, lets)
		}
	}
}

func TestCurveRunoff(t *testing.T) {
	for _, c := range []struct {
		fall, hold, want float32
		ok               bool
	}{
		{3, 5, over(4, 7), true}, {5, 0, 5, true}, {5, minusZero, 5, true}, {0, 0, 0, true}, {minusZero, 0, 0, true}, {minusZero, minusZero, 0, true}, {0, 5, 0, true}, {0.5, 5, 0, true}, {11, 5, over(100, 15), true}, {1, 5, 0, true}, {number(0x3f7fffff), 5, 0, true}, {number(0x3f800001), 5, over(number(0x28800000), 5), true},
		{1e19, 0, 1e19, true}, {1e20, 0, 0, false}, {greatest, 0, 0, false}, {greatest, greatest, 0, false}, {0, greatest, 0, true}, {6e37, greatest, 0, true}, {7e37, greatest, 0, false}, {tiniest, 0, 0, true}, {1e-22, 0, over(number(7), 1e-22), true}, {1, tiniest, 1, true},
	} {
		wantResults(t, all(impl.CurveRunoff(c.fall, c.hold)), all(c.want, c.ok), "CurveRunoff", c.fall, c.hold)
	}
	for _, x := range invalidNumbers() {
		wantResults(t, all(impl.CurveRunoff(x, 1)), all(float32(0), false), "CurveRunoff with the fall", x)
		wantResults(t, all(impl.CurveRunoff(1, x)), all(float32(0), false), "CurveRunoff with the hold", x)
		wantResults(t, all(impl.CurveRunoff(x, 0)), all(float32(0), false), "CurveRunoff with the fall", x)
		wantResults(t, all(impl.CurveRunoff(0, x)), all(float32(0), false), "CurveRunoff with the hold", x)
	}
	d := drawer(322)
	for n := range 20000 {
		fall, hold := d.amount(1+n%amountKinds), d.amount(1+n%amountKinds)
		want, ok := curveOracle(fall, hold)
		wantResults(t, all(impl.CurveRunoff(fall, hold)), all(want, ok), "CurveRunoff", fall, hold)
		if got, _ := impl.CurveRunoff(fall, hold); n%amountKinds < tame && got > fall*1.0001 {
			t.Errorf("CurveRunoff(%v, %v) is %v, more than has fallen", fall, hold, got)
		}
	}
}
