package digits

import (
	"testing"

	"numeral/api"
)

// Every row of the chapter's Examples.

func TestExamplesOfAll(t *testing.T) {
	allIs(t, half, 0x2e66, dc("999755859375", -13))
	allIs(t, half, 0x8000, dc("-", 0))
	allIs(t, half, 0x7bff, dc("65504", 0))
	allIs(t, half, 1, dc("59604644775390625", -24))
}

func TestExamplesOfCount(t *testing.T) {
	for _, c := range []struct {
		f    api.Form
		bits uint64
		want int
	}{{half, 1, 17}, {double, 0xfffffffffffff, 767}, {half, 0, 0}} {
		if n, e := Count(c.f, c.bits); n != c.want || e != api.OK {
			t.Errorf("Count(%v, %#x): %d, error %d; want %d", c.f, c.bits, n, int(e), c.want)
		}
	}
}

func TestExamplesOfSome(t *testing.T) {
	bySome().is(t, half, 0x2e66, 3, api.Even, told{dc("1", -1), false})
	bySome().is(t, half, 0x2e66, 4, api.Up, told{dc("9998", -5), false})
	bySome().is(t, half, 0x2e66, 12, api.Zero, told{dc("999755859375", -13), true})
	bySome().is(t, half, 0, 1, api.Up, told{dc("", 0), true})
}

func TestExamplesOfPlaces(t *testing.T) {
	byPlaces().is(t, half, 0x3e00, 0, api.Even, told{dc("2", 0), false})
	byPlaces().is(t, half, 0x4100, 0, api.Even, told{dc("2", 0), false})
	byPlaces().is(t, half, 0x8001, 3, api.Up, told{dc("-", 0), false})
	byPlaces().is(t, half, 0x8001, 3, api.Down, told{dc("-1", -3), false})
	byPlaces().is(t, half, 0x7bff, 0, api.Zero, told{dc("65504", 0), true})
}

func TestExamplesOfErrors(t *testing.T) {
	bySome().refuses(t, half, 0x7c00, 0, 9, api.ErrFinite)
	bySome().refuses(t, half, 0, 0, 9, api.ErrPlaces)
	bySome().refuses(t, half, 0, 2001, 0, api.ErrPlaces)
	bySome().refuses(t, half, 0, 1, 5, api.ErrMode)
	byPlaces().refuses(t, half, 0, -1, 0, api.ErrPlaces)
}

func TestExamplesOfForms(t *testing.T) {
	for _, c := range []struct {
		f            api.Form
		enough, sure int
	}{{half, 5, 3}, {brain, 4, 2}, {single, 9, 6}, {double, 17, 15}, {form(2, 1), 2, 0}} {
		enoughIs(t, c.f, c.enough)
		sureIs(t, c.f, c.sure)
	}
}
