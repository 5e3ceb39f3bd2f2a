package digits

import (
	"math/big"
	"math/rand/v2"
	"strconv"
	"testing"

	"numeral/api"
	"numeral/dec"
	"numeral/nat"
	"numeral/ratio"
	"numeral/round"
)

// rounded is the float to which a decimal rounds by Even, as chapter 5 has it.
func rounded(t *testing.T, f api.Form, d api.Dec) uint64 {
	t.Helper()
	digits := d.Digits
	if digits == "" {
		digits = "0"
	}
	n, _, e := nat.Parse(digits)
	if e != api.OK {
		t.Fatalf("no number: %s", show(d))
	}
	r, e := ratio.Make(d.Neg, n, nat.Of(1))
	if e != api.OK {
		t.Fatalf("no fraction: %s", show(d))
	}
	bits, _, e := round.Scaled(f, r, d.Exp, d.Neg, api.Even)
	if e != api.OK {
		t.Fatalf("%s is not rounded to %v: error %d", show(d), f, int(e))
	}
	return bits
}

// mustSome is Some by Even.
func mustSome(t *testing.T, f api.Form, float uint64, digits int) api.Dec {
	t.Helper()
	d, _, e := Some(f, float, digits, api.Even)
	if e != api.OK {
		t.Fatalf("Some(%v, %#x, %d): error %d", f, float, digits, int(e))
	}
	return d
}

func mustEnough(t *testing.T, f api.Form) int {
	t.Helper()
	n, e := Enough(f)
	if e != api.OK {
		t.Fatalf("Enough(%v): error %d", f, int(e))
	}
	return n
}

// comesBack wants the float that Enough digits round to; it answers these.
func comesBack(t *testing.T, f api.Form, float uint64) api.Dec {
	t.Helper()
	d := mustSome(t, f, float, mustEnough(t, f))
	if bits := rounded(t, f, d); bits != float {
		t.Errorf("%v: Enough digits of %#x, %s, round to %#x", f, float, show(d), bits)
	}
	return d
}

// Of a form that can be gone through all floats come back, and no two have the same digits.
func TestP175EnoughOfSmallForms(t *testing.T) {
	t.Parallel()
	for _, f := range append(smallForms(), half, brain) {
		seen := map[api.Dec]uint64{}
		for _, float := range both(f, finite(f)) {
			d := comesBack(t, f, float)
			if other, ok := seen[d]; ok {
				t.Errorf("%v: %#x and %#x have the same digits, %s", f, other, float, show(d))
			}
			seen[d] = float
		}
	}
}

// With one digit fewer some floats of these forms would not come back.
func TestP175FewerAreNotEnough(t *testing.T) {
	for _, f := range []api.Form{half, brain} {
		lost := 0
		for _, float := range finite(f) {
			if rounded(t, f, mustSome(t, f, float, mustEnough(t, f)-1)) != float {
				lost++
			}
		}
		if lost == 0 {
			t.Errorf("%v: one digit fewer than Enough would be enough", f)
		}
	}
}

func TestP175EnoughOfEdges(t *testing.T) {
	t.Parallel()
	for _, f := range allForms() {
		for _, float := range edges(f) {
			comesBack(t, f, float)
		}
	}
	for _, f := range someForms() {
		for _, float := range both(f, append(powers(f), wholes(f)...)) {
			comesBack(t, f, float)
			if next, ok := nextOf(f, float); ok {
				comesBack(t, f, next)
			}
		}
	}
}

func TestP175EnoughOfSomeFloats(t *testing.T) {
	t.Parallel()
	r := source(8)
	for range 5000 {
		f := someForm(r)
		comesBack(t, f, someFloat(r, f))
	}
}

// What is told in Enough digits is read by the library as the number, too, and not by fewer than these where neighbours are told alike.
func TestP175EnoughAsStrconv(t *testing.T) {
	r := source(9)
	for _, f := range []api.Form{double, single} {
		all := edges(f)
		for range 3000 {
			all = append(all, someFloat(r, f))
		}
		for _, float := range all {
			want, size, _ := native(f, float)
			d := comesBack(t, f, float)
			text := "0" + d.Digits + "e" + strconv.Itoa(d.Exp)
			if d.Neg {
				text = "-" + text
			}
			if v, err := strconv.ParseFloat(text, size); v != want || err != nil {
				t.Errorf("%v: %s is read as %g, not as %g", f, text, v, want)
			}
		}
	}
}

// nextOf is the next float farther from nought; false, if that is infinite.
func nextOf(f api.Form, float uint64) (uint64, bool) {
	return float + 1, (float+1)%minus(f) < infinite(f)
}

// Neighbours are told apart.
func TestP175Neighbours(t *testing.T) {
	t.Parallel()
	r := source(10)
	for range 3000 {
		f := someForm(r)
		float := someFloat(r, f)
		if next, ok := nextOf(f, float); ok {
			if a, b := comesBack(t, f, float), comesBack(t, f, next); a == b {
				t.Errorf("%v: %#x and %#x have the same digits, %s", f, float, next, show(a))
			}
		}
	}
}

// ends are the worths of the least normal and of the greatest finite float.
func ends(f api.Form) (low, high *big.Rat) {
	_, low, _ = worthOf(f, normal(f))
	_, high, _ = worthOf(f, infinite(f)-1)
	return low, high
}

// worthOfDec is a decimal without its sign.
func worthOfDec(d api.Dec) *big.Rat {
	n, _ := new(big.Int).SetString(d.Digits, 10)
	return units(new(big.Rat).SetInt(n), -d.Exp)
}

// staysItself wants a decimal, of either sign, to come back in Sure digits; false, if it does not lie between the ends.
func staysItself(t *testing.T, f api.Form, d api.Dec) bool {
	t.Helper()
	low, high := ends(f)
	if x := worthOfDec(d); x.Cmp(low) < 0 || x.Cmp(high) > 0 {
		return false
	}
	sure, e := Sure(f)
	if e != api.OK || len(d.Digits) > sure {
		t.Fatalf("Sure(%v): %d, error %d", f, sure, int(e))
	}
	for _, d := range []api.Dec{d, turned(d)} {
		float := rounded(t, f, d)
		if got := mustSome(t, f, float, sure); got != d {
			t.Errorf("%v: %s is rounded to %#x, which is %s in %d digits", f, show(d), float, show(got), sure)
		}
	}
	return true
}

// All decimals of Sure digits, of forms of which that are not many; the next ones beyond the ends among them.
func TestP176SureOfSmallForms(t *testing.T) {
	t.Parallel()
	for _, f := range []api.Form{half, brain, form(2, 4), form(3, 5), form(4, 6), form(4, 7), form(2, 10), form(6, 9), form(5, 13), form(3, 14)} {
		sure, end := sureOf(f), 1
		for range sure {
			end *= 10
		}
		held := 0
		for n := 1; n < end; n++ {
			if n%10 == 0 {
				continue
			}
			digits := strconv.Itoa(n)
			for exp := firstTen(f, 0) - len(digits) - 1; exp <= firstTen(f, 1); exp++ {
				if staysItself(t, f, dc(digits, exp)) {
					held++
				}
			}
		}
		if held == 0 {
			t.Errorf("%v: no decimal lies between its ends", f)
		}
	}
}

// firstTen is about the power of ten of the least normal float (end 0), and of the greatest one (end 1).
func firstTen(f api.Form, end int) int {
	d := allOf(f, normal(f))
	if end == 1 {
		d = allOf(f, infinite(f)-1)
	}
	return d.Exp + len(d.Digits)
}

// Decimals of Sure digits just within the ends: the least normal float rounded up, the greatest one rounded down.
func TestP176SureAtTheEnds(t *testing.T) {
	t.Parallel()
	for _, f := range allForms() {
		for digits := 1; digits <= sureOf(f); digits++ {
			low := someOf(f, normal(f), digits, api.Up).d
			high := someOf(f, infinite(f)-1, digits, api.Zero).d
			for _, d := range []api.Dec{low, high} {
				if !staysItself(t, f, d) {
					t.Errorf("%v: %s does not lie between the ends", f, show(d))
				}
			}
		}
	}
}

// someDecimal is one of at most so many digits, between the ends or somewhat beyond.
func someDecimal(r *rand.Rand, f api.Form, most int) api.Dec {
	size := most
	if r.IntN(3) == 0 {
		size = 1 + r.IntN(most)
	}
	b := make([]byte, size)
	for i := range b {
		b[i] = '0' + byte(r.IntN(10))
		if r.IntN(4) == 0 {
			b[i] = "09"[r.IntN(2)]
		}
	}
	b[0], b[size-1] = '1'+byte(r.IntN(9)), '1'+byte(r.IntN(9))
	low, high := firstTen(f, 0), firstTen(f, 1)
	return dc(string(b), low+r.IntN(high-low+1)-size)
}

func TestP176SureOfSomeDecimals(t *testing.T) {
	t.Parallel()
	r := source(11)
	held := 0
	for range 6000 {
		f := form(2+r.IntN(10), 4+r.IntN(49)) // of fewer bits no digit is sure
		if staysItself(t, f, someDecimal(r, f, sureOf(f))) {
			held++
		}
	}
	for range 2000 {
		for _, f := range []api.Form{double, single} {
			staysItself(t, f, someDecimal(r, f, sureOf(f)))
		}
	}
	if held < 3000 {
		t.Errorf("only %d decimals lay between the ends", held)
	}
}

// With one digit more some decimals of these forms would not come back.
func TestP176MoreAreNotSure(t *testing.T) {
	for _, f := range []api.Form{half, brain, single, double, form(8, 3), form(5, 4), form(6, 13)} {
		r, lost := source(12), 0
		more := sureOf(f) + 1
		low, high := ends(f)
		for range 4000 {
			d := someDecimal(r, f, more)
			if x := worthOfDec(d); x.Cmp(low) < 0 || x.Cmp(high) > 0 {
				continue
			}
			if mustSome(t, f, rounded(t, f, d), more) != d {
				lost++
			}
		}
		if lost == 0 {
			t.Errorf("%v: one digit more than Sure would be sure", f)
		}
	}
}

// A decimal that All tells is worth the float, and its float by every mode; dec's fraction of it is the library's.
func TestP171AllIsWorthTheFloat(t *testing.T) {
	r := source(13)
	for range 1500 {
		f := someForm(r)
		float := someFloat(r, f)
		d := mustAll(t, f, float)
		if x := signed(f, float); x.Sign() != 0 && worthOfDec(d).Cmp(x.Abs(x)) != 0 {
			t.Errorf("All(%v, %#x): %s is not what it is worth", f, float, show(d))
		}
		if bits := rounded(t, f, d); bits != float {
			t.Errorf("All(%v, %#x): %s rounds to %#x", f, float, show(d), bits)
		}
		if e := dec.Check(d); e != api.OK {
			t.Errorf("All(%v, %#x): %s may not be: error %d", f, float, show(d), int(e))
		}
	}
}
