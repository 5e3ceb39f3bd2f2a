package short

import (
	"math/rand/v2"
	"strconv"
	"strings"
	"testing"

	"numeral/api"
	"numeral/digits"
	"numeral/round"
)

// rounded is the float to which a decimal rounds, as chapter 5 has it, and whether that is an overflow.
func rounded(t *testing.T, f api.Form, d api.Dec, mode uint8) (uint64, bool) {
	t.Helper()
	whole := fraction(ratOf(api.Dec{Neg: d.Neg, Digits: d.Digits}))
	float, flags, e := round.Scaled(f, whole, d.Exp, d.Neg, mode)
	if e != api.OK {
		t.Fatalf("%s is not rounded to %v: error %d", show(d), f, int(e))
	}
	return float, flags&api.FlagOverflow != 0
}

func mustDigits(t *testing.T, f api.Form, float uint64, mode uint8) api.Dec {
	t.Helper()
	d, e := Digits(f, float, mode)
	if e != api.OK {
		t.Fatalf("Digits(%v, %#x, mode %d): error %d", f, float, mode, int(e))
	}
	return d
}

// someOfAll are floats of some forms, of both signs, no noughts: the edges, powers of two and those beside them, whole numbers, and some of each form; each with a mode, one after the other.
func someOfAll(r *rand.Rand, do func(f api.Form, float uint64, mode uint8)) {
	n := 0
	for _, f := range someForms() {
		all := append(edges(f), aboutPowers(f, 20)...)
		all = append(all, wholes(f)...)
		for range 100 {
			all = append(all, someFloat(r, f))
		}
		for _, float := range both(f, all) {
			if float%minus(f) != 0 && float%minus(f) < infinite(f) {
				do(f, float, everyMode[n%len(everyMode)])
				n++
			}
		}
	}
}

// What is told is read back, by round itself and by Back.
func TestP184ReadBack(t *testing.T) {
	t.Parallel()
	someOfAll(source(2), func(f api.Form, float uint64, mode uint8) {
		d := mustDigits(t, f, float, mode)
		if read, beyond := rounded(t, f, d, mode); read != float || beyond {
			t.Errorf("Digits(%v, %#x, mode %d), %s, round to %#x, overflow %v", f, float, mode, show(d), read, beyond)
		}
		backIs(t, f, d, float, mode, true)
	})
	for _, f := range allForms() {
		for _, mode := range everyMode {
			backIs(t, f, mustDigits(t, f, 0, mode), 0, mode, true)
			backIs(t, f, mustDigits(t, f, minus(f), mode), minus(f), mode, true)
		}
	}
}

// neighbours are decimals of at most so many digits about a float: the nearest ones on either side of it, and some that lie beside them.
func neighbours(f api.Form, float uint64, n int) []api.Dec {
	at := worthOf(f, float%minus(f))
	var all []api.Dec
	for exp := magnitude(at) - n - 1; exp <= magnitude(at)-n+3; exp++ {
		m := floor(at, exp)
		if m.Cmp(power10(n+1)) >= 0 {
			continue
		}
		for other := max(m.Int64()-3, 1); other <= m.Int64()+4; other++ {
			d := only(float >= minus(f), strconv.FormatInt(other, 10), exp)
			if len(d.Digits) <= n {
				all = append(all, d)
			}
		}
	}
	return all
}

// No decimal of fewer digits is read back, and none of as many that is nearer.
func TestP184NoneFewerAndNoneNearer(t *testing.T) {
	t.Parallel()
	someOfAll(source(3), func(f api.Form, float uint64, mode uint8) {
		d := mustDigits(t, f, float, mode)
		at := worthOf(f, float)
		away := less(ratOf(d), at)
		away.Abs(away)
		n := len(d.Digits)
		others := neighbours(f, float, n)
		if n > 1 {
			others = append(others, neighbours(f, float, n-1)...)
		}
		for _, other := range others {
			if read, beyond := rounded(t, f, other, mode); read != float || beyond {
				continue
			}
			far := less(ratOf(other), at)
			if len(other.Digits) < n || far.Abs(far).Cmp(away) < 0 {
				t.Errorf("Digits(%v, %#x, mode %d): %s, though %s is read back, too", f, float, mode, show(d), show(other))
			}
		}
	})
}

func checkEnough(t *testing.T, f api.Form, float uint64) {
	t.Helper()
	most, e := digits.Enough(f)
	if d := mustDigits(t, f, float, api.Even); e != api.OK || len(d.Digits) > most {
		t.Errorf("Digits(%v, %#x, Even): %s, more digits than %d", f, float, show(d), most)
	}
}

func TestP184AtMostEnough(t *testing.T) {
	t.Parallel()
	someOfAll(source(4), func(f api.Form, float uint64, _ uint8) { checkEnough(t, f, float) })
	for _, f := range allForms() {
		for _, float := range edges(f) {
			checkEnough(t, f, float)
		}
	}
}

// A decimal of at most Sure digits comes back with at most as many, whatever float it is rounded to, the least ones too.
func TestP184AtMostSure(t *testing.T) {
	t.Parallel()
	r := source(5)
	for range 4000 {
		f := []api.Form{half, brain, single, double, someForm(r)}[r.IntN(5)]
		sure, e := digits.Sure(f)
		if e != api.OK || sure == 0 {
			continue
		}
		n := 1 + r.IntN(sure)
		text := strings.Repeat("9", n)
		if r.IntN(4) > 0 {
			text = strconv.FormatUint(1+r.Uint64N(power10(n).Uint64()-1), 10)
		}
		d := only(r.IntN(2) == 0, text, magnitude(worthOf(f, someFloat(r, f)%minus(f)))-r.IntN(n+1))
		float, beyond := rounded(t, f, d, api.Even)
		if beyond || float%minus(f) == 0 {
			continue
		}
		if back := mustDigits(t, f, float, api.Even); len(back.Digits) > len(d.Digits) {
			t.Errorf("%s rounds to %#x of %v, which is told as %s", show(d), float, f, show(back))
		}
	}
}

// The float with the other sign has by the mirrored mode the same digits.
func TestP184Mirrored(t *testing.T) {
	t.Parallel()
	someOfAll(source(6), func(f api.Form, float uint64, mode uint8) {
		digitsAre(t, f, float^minus(f), mirrored[mode], turned(mustDigits(t, f, float, mode)))
	})
}

// The library tells as many digits; which they are, it may say otherwise.
func TestP184AsManyAsStrconv(t *testing.T) {
	t.Parallel()
	r := source(7)
	for _, f := range []api.Form{double, single} {
		all := append(edges(f), aboutPowers(f, 100)...)
		all = append(all, wholes(f)...)
		for range 1500 {
			all = append(all, someFloat(r, f))
		}
		for _, float := range all {
			v, size, _ := native(f, float)
			if v == 0 {
				continue
			}
			text, _, _ := strings.Cut(strconv.FormatFloat(v, 'e', -1, size), "e")
			want := len(strings.NewReplacer("-", "", ".", "").Replace(text))
			d := mustDigits(t, f, float, api.Even)
			if len(d.Digits) != want {
				t.Errorf("Digits(%v, %#x, Even): %s; strconv has %s", f, float, show(d), text)
			}
			text = d.Digits + "e" + strconv.Itoa(d.Exp)
			if d.Neg {
				text = "-" + text
			}
			if back, err := strconv.ParseFloat(text, size); err != nil || back != v {
				t.Errorf("%s is read by strconv as %v, not %v", text, back, v)
			}
		}
	}
}
