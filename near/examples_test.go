package near

import (
	"math/big"
	"testing"

	"numeral/api"
)

func TestExamplesOfNeighbours(t *testing.T) {
	for bits, want := range map[uint64]toldBits{
		0: {1, api.OK}, 0x8000: {1, api.OK}, 0x8001: {0x8000, api.OK}, 0x7bff: {0x7c00, api.OK}, 0xfc00: {0xfbff, api.OK},
		0x7c00: {0, api.ErrStep}, 0x7c01: {0, api.ErrArg},
	} {
		wants(t, tellBits(Up(half, bits)), want, half, "Up", bits)
	}
	for bits, want := range map[uint64]toldBits{1: {0, api.OK}, 0x8000: {0x8001, api.OK}, 0xfc00: {0, api.ErrStep}} {
		wants(t, tellBits(Down(half, bits)), want, half, "Down", bits)
	}
}

func TestExamplesOfUlp(t *testing.T) {
	for bits, exp := range map[uint64]int{0x3c00: -10, 0: -24, 0x7bff: 5} {
		if d, e := Ulp(half, bits); e != api.OK || !sameDyadic(d, twoTo(exp)) {
			t.Errorf("Ulp(Half, %#x): %v, error %d, want 2^%d", bits, d, int(e), exp)
		}
	}
	if d, e := Ulp(half, 0x7c00); e != api.ErrFinite || !zeroDyadic(d) {
		t.Errorf("Ulp(Half, 0x7c00): %v, error %d", d, int(e))
	}
}

func TestExamplesOfRows(t *testing.T) {
	wants(t, tellCmp(Cmp(half, 0, 0x8000)), toldCmp{0, true, api.OK}, half, "Cmp", 0, 0x8000)
	wants(t, tellOrder(Order(half, 0, 0x8000)), toldOrder{1, api.OK}, half, "Order", 0, 0x8000)
	wants(t, tellCmp(Cmp(half, 0x7e00, 0)), toldCmp{0, false, api.OK}, half, "Cmp", 0x7e00, 0)
	wants(t, tellOrder(Order(half, 0x7e00, 0x7c00)), toldOrder{1, api.OK}, half, "Order", 0x7e00, 0x7c00)
	wants(t, tellSteps(Steps(half, 0x8001, 1)), toldSteps{false, 2, api.OK}, half, "Steps", 0x8001, 1)
	wants(t, tellSteps(Steps(half, 0x7c00, 0xfc00)), toldSteps{true, 63488, api.OK}, half, "Steps", 0x7c00, 0xfc00)
	wants(t, tellSteps(Steps(half, 0, 0x8000)), toldSteps{false, 0, api.OK}, half, "Steps", 0, 0x8000)
}

func TestExamplesOfReach(t *testing.T) {
	one, none := big.NewRat(1, 1), new(big.Rat)
	onePlus := func(n int64, exp int) *big.Rat { return plus(one, times(big.NewRat(n, 1), twoTo(exp))) }
	neg := func(x *big.Rat) *big.Rat { return new(big.Rat).Neg(x) }
	for _, c := range []struct {
		bits uint64
		mode uint8
		want reach
	}{
		{0x3c00, api.Even, reach{onePlus(-1, -12), onePlus(1, -11), true, true}},
		{0x3c01, api.Even, reach{onePlus(1, -11), onePlus(3, -11), false, false}},
		{0x3c01, api.Away, reach{onePlus(1, -11), onePlus(3, -11), true, false}},
		{0x3c00, api.Zero, reach{one, onePlus(1, -10), true, false}},
		{0x3c00, api.Up, reach{onePlus(-1, -11), one, false, true}},
		{0x3c00, api.Down, reach{one, onePlus(1, -10), true, false}},
		{0xbc00, api.Zero, reach{neg(onePlus(1, -10)), neg(one), false, true}},
		{0, api.Even, reach{none, twoTo(-25), true, true}},
		{0, api.Away, reach{none, twoTo(-25), true, false}},
		{0, api.Up, reach{none, none, true, true}},
		{0, api.Down, reach{none, twoTo(-24), true, false}},
		{0x8000, api.Even, reach{neg(twoTo(-25)), none, true, true}},
		{0x8000, api.Up, reach{neg(twoTo(-24)), none, false, true}},
		{0x8000, api.Down, reach{none, none, true, true}},
		{0x7bff, api.Even, reach{big.NewRat(65488, 1), big.NewRat(65520, 1), false, false}},
		{0x7bff, api.Zero, reach{big.NewRat(65504, 1), big.NewRat(65536, 1), true, false}},
	} {
		if got := reachOf(t, half, c.bits, c.mode); !got.is(c.want) {
			t.Errorf("Reach(Half, %#x, %d): %v, want %v", c.bits, c.mode, got, c.want)
		}
	}
	if _, _, _, _, e := Reach(half, 0x7c00, api.Even); e != api.ErrFinite {
		t.Errorf("Reach(Half, 0x7c00, Even): error %d", int(e))
	}
}

func TestExamplesOfMid(t *testing.T) {
	if d, e := Mid(half, 0x3c00, 0x3c01); e != api.OK || !sameDyadic(d, plus(big.NewRat(1, 1), twoTo(-11))) {
		t.Errorf("Mid(Half, 0x3c00, 0x3c01): %v, error %d", d, int(e))
	}
	if d, e := Mid(half, 0x7bff, 0x7c00); e != api.ErrFinite || !zeroDyadic(d) {
		t.Errorf("Mid(Half, 0x7bff, 0x7c00): %v, error %d", d, int(e))
	}
}
