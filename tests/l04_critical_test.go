package tests

import (
	"testing"

	"loop.example/g01302/impl"
)

// criticals are flows whose critical depth depends on the order of the products.
// The other one comes where gravity is multiplied by the area before the third
// power is taken. With the rough, the normal depth is the greater one of both.
var criticals = []struct {
	s               impl.Section
	flow            float32
	critical, other uint32
	rough           uint32
}{
	{section(4, 1, 0.0068359375, 0.03125), 8, 0x3f329844, 0x3f329843, 0x3cb9f468},
	{section(0.5, 1, 0.005859375, 0.015625), 3.75, 0x3f81d71c, 0x3f81d71b, 0x3c982bbe},
	{section(4, 2, 0.013671875, 0.015625), 5.25, 0x3f0301f9, 0x3f0301fa, 0x3d012d2c},
	{section(3.5, 0.5, 0.01171875, 0.09375), 7.5, 0x3f3f8d67, 0x3f3f8d68, 0x3ce8f892},
	{section(2, 1.5, 0.0087890625, 0.03125), 1.5, 0x3eb3ef2d, 0x3eb3ef2e, 0x3cbed161},
}

func TestGravityIsMultipliedByTheThirdPower(t *testing.T) {
	for _, c := range criticals {
		wantTold(t, all(impl.CriticalDepth(c.s, c.flow)), number(c.critical), "CriticalDepth", c.s, c.flow)
	}
}

// The last bit of the critical depth decides which side of it a depth is on.
func TestSidesOfDepthsNextToTheCriticalOne(t *testing.T) {
	for _, c := range criticals {
		critical := number(c.critical)
		low, high := min(critical, number(c.other)), max(critical, number(c.other))
		for _, f := range crossings {
			other, ok := f.call(c.s, low, c.flow)
			right := other <= critical
			if low < critical {
				right = other >= critical
			}
			wantThat(t, ok && right, true, f.name+" is on the other side", c.s, low, c.flow, other)
		}
		_, ok := impl.JumpLoss(c.s, low, c.flow)
		wantThat(t, ok, low < critical, "JumpLoss succeeds below the critical depth", c.s, low, c.flow)
		_, ok = impl.BackStep(c.s, high, c.flow, 16)
		wantThat(t, ok, high > critical, "BackStep succeeds above the critical depth", c.s, high, c.flow)
		_, ok = impl.BackWater(c.s, high, c.flow, 16, 1)
		wantThat(t, ok, high > critical, "BackWater succeeds above the critical depth", c.s, high, c.flow)

		s := c.s
		s.Rough = number(c.rough)
		wantTold(t, all(impl.NormalDepth(s, c.flow)), high, "NormalDepth", s, c.flow)
		wantResults(t, all(impl.IsMild(s, c.flow)), all(high > critical, true), "IsMild", s, c.flow)
	}
}

// Third powers of small areas are few times the tiniest number, or nothing, and
// gravity multiplies what is left of them: once the tiniest number becomes ten
// times it, and nothing stays nothing.
func TestCriticalDepthsOfTinyAreas(t *testing.T) {
	s := section(1.0/(1<<48), 0, 1, 1) // the third power is half of the tiniest number at 0.25
	unit := float32(1.0 / (1 << 50))   // the other side is twice the tiniest number for this flow
	for _, flow := range floats(1e-30, unit, times(unit, root(4.5))) {
		wantTold(t, all(impl.CriticalDepth(s, flow)), above(0.25), "CriticalDepth of a tiny area", flow)
	}
	// Ten times it is not greater than ten times it: it takes the tiniest number twice.
	deep, ok := impl.CriticalDepth(s, times(unit, root(5)))
	wantThat(t, ok && deep > 0.3605 && deep < 0.3607, true, "CriticalDepth of a tiny area", deep)
}
