package dec

import (
	"math"
	"math/big"
	"strconv"
	"testing"

	"numeral/api"
)

// wholeWant is the whole number to which x rounds, by the chapter's words.
func wholeWant(x *big.Rat, mode uint8) *big.Int {
	low := new(big.Int).Div(x.Num(), x.Denom()) // rounded down, as Denom is above nought
	if x.IsInt() {
		return low
	}
	high := new(big.Int).Add(low, big.NewInt(1))
	near, other := low, high
	if x.Sign() < 0 {
		near, other = high, low
	}
	way := func(n *big.Int) *big.Rat {
		return new(big.Rat).Abs(new(big.Rat).Sub(x, new(big.Rat).SetInt(n)))
	}
	order := way(near).Cmp(way(other))
	switch {
	case mode == api.Up:
		return high
	case mode == api.Down:
		return low
	case mode == api.Zero || order < 0:
		return near
	case mode == api.Away || order > 0 || other.Bit(0) == 0:
		return other
	}
	return near
}

// cutWant is d, rounded to a multiple of 10 to the power of exp; the exponents of both may be far, if they lie near each other.
func cutWant(d api.Dec, exp int, mode uint8) api.Dec {
	if d.Digits == "" || d.Exp >= exp {
		return d
	}
	return only(wholeWant(shifted(asInt(d), d.Exp-exp), mode), exp, d.Neg)
}

// checkRound is for all modes.
func checkRound(t *testing.T, d api.Dec, digits int) {
	t.Helper()
	for _, mode := range everyMode {
		want, wantErr := limited(cutWant(d, d.Exp+len(d.Digits)-digits, mode))
		got, ok, e := Round(d, digits, mode)
		wantsTold(t, "Round("+show(d)+", "+strconv.Itoa(digits)+", "+strconv.Itoa(int(mode))+")", got, ok, e, want, len(d.Digits) <= digits, wantErr)
	}
}

func checkPlaces(t *testing.T, d api.Dec, places int) {
	t.Helper()
	for _, mode := range everyMode {
		got, ok, e := Places(d, places, mode)
		wantsTold(t, "Places("+show(d)+", "+strconv.Itoa(places)+", "+strconv.Itoa(int(mode))+")", got, ok, e, cutWant(d, -places, mode), d.Exp >= -places, api.OK)
	}
}

// small is all decimals of up to four digits, of both signs, with this exponent.
func small(exp int) []api.Dec {
	var all []api.Dec
	for n := 1; n < 10000; n++ {
		if n%10 != 0 {
			all = append(all, dc(strconv.Itoa(n), exp), dc(strconv.Itoa(-n), exp))
		}
	}
	return all
}

// All of up to four digits, with every way to cut them, and with all of them cut.
func TestP104SmallDecimals(t *testing.T) {
	t.Parallel()
	for _, d := range small(-3) {
		for n := range 6 {
			checkRound(t, d, 1+n)
			checkPlaces(t, d, n)
		}
		d.Exp = -5
		for n := range 3 {
			checkPlaces(t, d, n)
		}
	}
}

func TestP104Edges(t *testing.T) {
	for _, d := range near() {
		for n := range 44 {
			checkRound(t, d, 1+n)
			checkPlaces(t, d, n)
		}
	}
}

// middles is decimals that lie at a half of their place number kept, and beside it, near and far.
func middles(kept string) []api.Dec {
	var all []api.Dec
	for _, rest := range []string{"5", "49", "51", "4" + again("9", 50), "5" + again("0", 50) + "1", again("0", 50) + "1", again("9", 51), "1", "9"} {
		all = append(all, dc(kept+rest, 0), dc("-"+kept+rest, 0))
	}
	return all
}

func TestP104Middles(t *testing.T) {
	for _, kept := range []string{"1", "2", "8", "9", "10", "12", "13", "19", "20", "29", "98", "99", "100", "999", "1999", "2" + again("9", 30), again("9", 30), "1" + again("0", 30)} {
		for _, d := range middles(kept) {
			checkRound(t, d, len(kept))
			rest := len(d.Digits) - len(kept)
			for _, places := range []int{0, 1, 7} {
				d.Exp = -rest - places
				checkPlaces(t, d, places)
			}
		}
	}
	// Nothing stands ahead of the cut: the number nearer to nought is nought.
	for _, d := range middles("") {
		if d.Digits[0] == '0' {
			continue
		}
		for _, places := range []int{0, 1, 7} {
			for _, beyond := range []int{0, 1, 2, 60} {
				d.Exp = -len(d.Digits) - places - beyond
				checkPlaces(t, d, places)
			}
		}
	}
}

func TestP104Some(t *testing.T) {
	r := source(5)
	for range 3000 {
		d := some(r, 120)
		checkRound(t, d, 1+r.IntN(121))
		checkPlaces(t, d, r.IntN(60))
	}
}

func TestP104Noughts(t *testing.T) {
	for _, d := range []api.Dec{{}, {Neg: true}} {
		for _, n := range []int{1, 2, 17, api.MaxPlaces} {
			checkRound(t, d, n)
			checkPlaces(t, d, n)
		}
		checkPlaces(t, d, 0)
	}
}

// What is rounded to nought keeps its sign, however far off it is.
func TestP104PlacesOfTheLeast(t *testing.T) {
	for _, digits := range []string{"1", "5", "9", "5001", again("9", most)} {
		for _, exp := range []int{-far, 1 - far, -2 * most, -3000 - len(digits)} {
			for _, places := range []int{0, 1, api.MaxPlaces} {
				for _, neg := range []bool{false, true} {
					for _, mode := range everyMode {
						want := api.Dec{Neg: neg}
						if mode == api.Up && !neg || mode == api.Down && neg {
							want = api.Dec{Neg: neg, Digits: "1", Exp: -places}
						}
						d := api.Dec{Neg: neg, Digits: digits, Exp: exp}
						got, ok, e := Places(d, places, mode)
						wantsTold(t, "Places("+show(d)+", "+strconv.Itoa(places)+", "+strconv.Itoa(int(mode))+")", got, ok, e, want, false, api.OK)
					}
				}
			}
		}
	}
}

// Just as many digits and places as may be asked for.
func TestP104AtMaxPlaces(t *testing.T) {
	const limit = api.MaxPlaces
	for _, digits := range []string{again("9", limit), "1" + again("0", limit-2) + "5"} {
		checkRound(t, dc(digits, 3), limit)
		checkRound(t, dc(digits+"5", 3), limit)
		checkRound(t, dc("-"+digits+"51", 3), limit)
		checkRound(t, dc(digits+"5", 3), limit-1)
	}
	for _, digits := range []string{"1", "-5", "6", "15", "-25", "99", "995"} {
		for _, exp := range []int{1 - limit, -limit, -limit - 1, -limit - 2, -limit - 3, -limit - 4} {
			checkPlaces(t, dc(digits, exp), limit)
			checkPlaces(t, dc(digits, exp), limit-1)
		}
	}
}

func TestP104ManyDigits(t *testing.T) {
	t.Parallel()
	for _, digits := range []string{again("9", most), "5" + again("0", most-2) + "1", "4" + again("9", most-1), "25" + again("0", most-3) + "1", "1" + again("0", most-2) + "1"} {
		for _, n := range []int{1, 2, api.MaxPlaces} {
			checkRound(t, dc(digits, 0), n)
			checkRound(t, dc("-"+digits, -7), n)
		}
		for _, exp := range []int{-1, -2, -most, 1 - most, 2 - most, -most - 1} {
			checkPlaces(t, dc(digits, exp), 0)
			checkPlaces(t, dc("-"+digits, exp), 1)
		}
	}
}

// What is left may have an exponent beyond the end, by the digits that were cut and by noughts that came.
func TestP104RoundAtTheEndOfExponents(t *testing.T) {
	for _, digits := range []string{"15", "-25", "11", "99", "999", "-999", "101", "1003", "1999", "9994", again("9", 60)} {
		for less := range 64 {
			d := dc(digits, far-less)
			for n := 1; n <= min(len(d.Digits)+1, 6); n++ {
				checkRound(t, d, n)
			}
			d.Exp = -far + less
			checkRound(t, d, 1)
			checkRound(t, d, 2)
		}
	}
	for _, d := range []api.Dec{dc("1", far), dc("-7", far), dc("99", far)} {
		checkPlaces(t, d, 0)
		checkRound(t, d, 2)
	}
}

// The decimal's own error comes first, then the count, then the mode, whatever would stay as it is.
func TestP104Errors(t *testing.T) {
	wrongCounts := []int{-1, -2, api.MaxPlaces + 1, api.MaxPlaces + 2, 1 << 32, 1<<32 + 1, -1 << 32, math.MaxInt, math.MinInt}
	refused := func(what string, want api.Errno, d api.Dec, n int, mode uint8) {
		t.Helper()
		if n != 0 || want != api.ErrMode { // no places may be asked for, but not no digits
			got, ok, e := Round(d, n, mode)
			wantsTold(t, "Round: "+what, got, ok, e, api.Dec{}, false, want)
		}
		if n != 0 || want != api.ErrPlaces {
			got, ok, e := Places(d, n, mode)
			wantsTold(t, "Places: "+what, got, ok, e, api.Dec{}, false, want)
		}
	}
	for _, d := range []api.Dec{{}, {Neg: true}, dc("1", 0), dc("-12345", -3), dc("15", far), dc("1", -far), dc(again("9", most), 0)} {
		for _, mode := range []uint8{0, 1, 2, 3, 4, 5, 9, 255} {
			for _, n := range append(wrongCounts, 0) {
				refused("no count", api.ErrPlaces, d, n, mode)
			}
			if mode > api.Down {
				for _, n := range []int{0, 1, 2, api.MaxPlaces} {
					refused("no mode", api.ErrMode, d, n, mode)
				}
			}
		}
	}
	for _, w := range wrongDecimals() {
		for _, n := range append(wrongCounts, 0, 1, api.MaxPlaces) {
			for _, mode := range []uint8{0, 4, 5, 255} {
				refused(w.what, w.e, w.d, n, mode)
			}
		}
	}
}

func TestP104EveryOtherByteIsNoMode(t *testing.T) {
	for mode := 5; mode < 256; mode++ {
		got, ok, e := Round(dc("15", 0), 1, uint8(mode))
		wantsTold(t, "Round", got, ok, e, api.Dec{}, false, api.ErrMode)
		got, ok, e = Places(dc("15", -1), 0, uint8(mode))
		wantsTold(t, "Places", got, ok, e, api.Dec{}, false, api.ErrMode)
	}
}
