package digits

import (
	"slices"
	"testing"

	"numeral/api"
	"numeral/dec"
)

// ask is one of the two calls that round.
type ask struct {
	name  string
	least int // that may be asked for
	do    func(f api.Form, bits uint64, asked int, mode uint8) (api.Dec, bool, api.Errno)
	owes  func(f api.Form, float uint64, asked int, mode uint8) told        // by the document's words
	by    func(d api.Dec, asked int, mode uint8) (api.Dec, bool, api.Errno) // what dec does with All
	whole func(d api.Dec) int                                               // how much is to be asked for, so that nothing is lost
}

func bySome() ask {
	return ask{"Some", 1, Some, someOf, dec.Round, func(d api.Dec) int { return len(d.Digits) }}
}

func byPlaces() ask {
	return ask{"Places", 0, Places, placesOf, dec.Places, func(d api.Dec) int { return max(0, -d.Exp) }}
}

func asks() []ask { return []ask{bySome(), byPlaces()} }

// is wants this answer.
func (a ask) is(t *testing.T, f api.Form, float uint64, asked int, mode uint8, want told) {
	t.Helper()
	if d, is, e := a.do(f, float, asked, mode); (told{d, is}) != want || e != api.OK {
		t.Errorf("%s(%v, %#x, %d, mode %d): %s, %v, error %d; want %s, %v", a.name, f, float, asked, mode, show(d), is, int(e), show(want.d), want.is)
	}
}

// refuses wants this error, and nothing beside it.
func (a ask) refuses(t *testing.T, f api.Form, bits uint64, asked int, mode uint8, want api.Errno) {
	t.Helper()
	if d, is, e := a.do(f, bits, asked, mode); d != (api.Dec{}) || is || e != want {
		t.Errorf("%s(%v, %#x, %d, mode %d): %s, %v, error %d; want the error %d", a.name, f, bits, asked, mode, show(d), is, int(e), int(want))
	}
}

// holds wants, by every mode, what is owed by the document's words, and what dec says of All.
func (a ask) holds(t *testing.T, f api.Form, float uint64, asked int) {
	t.Helper()
	for _, mode := range everyMode {
		want := a.owes(f, float, asked, mode)
		a.is(t, f, float, asked, mode, want)
		d, is, e := a.by(mustAll(t, f, float), asked, mode)
		if (told{d, is}) != want || e != api.OK {
			t.Errorf("of All(%v, %#x), %d, mode %d, dec says %s, %v, error %d; %s owes %s, %v", f, float, asked, mode, show(d), is, int(e), a.name, show(want.d), want.is)
		}
	}
}

// about is what to ask for of a decimal: where its digits begin and end, and where pieces of them may be put together.
func (a ask) about(d api.Dec) []int {
	whole := a.whole(d)
	first := whole - len(d.Digits)
	all := []int{0, 1, 2, 3, 5, 17, 18, 19, 20, 38, 39, first - 1, first, first + 1, first + 2, whole / 2, whole - 2, whole - 1, whole, whole + 1, 800, 1075, most - 1, most}
	slices.Sort(all)
	return slices.DeleteFunc(slices.Compact(all), func(n int) bool { return n < a.least })
}

// row is a float without a sign, what is asked of it, and what comes of it by Even and by Away; and the two decimals that it lies between.
type row struct {
	f            api.Form
	float        uint64
	asked        int
	even, away   api.Dec
	lower, upper api.Dec
}

// are wants these rows, by all modes and with both signs.
func (a ask) are(t *testing.T, rows []row) {
	t.Helper()
	for _, c := range rows {
		for mode, d := range [...]api.Dec{api.Even: c.even, api.Away: c.away, api.Zero: c.lower, api.Up: c.upper, api.Down: c.lower} {
			a.is(t, c.f, c.float, c.asked, uint8(mode), told{d, false})
		}
		for mode, d := range [...]api.Dec{api.Even: c.even, api.Away: c.away, api.Zero: c.lower, api.Up: c.lower, api.Down: c.upper} {
			a.is(t, c.f, c.float+minus(c.f), c.asked, uint8(mode), told{turned(d), false})
		}
	}
}
