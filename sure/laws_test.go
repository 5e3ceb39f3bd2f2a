package sure

import (
	"math"
	"math/rand/v2"
	"strconv"
	"strings"
	"testing"

	"numeral/api"
	"numeral/digits"
	"numeral/near"
	"numeral/short"
)

// sureIsRight wants that what is sure of a float is what the layers say that take their time: short.Digits and digits.Some, both by Even. It answers how many answers were sure.
func sureIsRight(t *testing.T, f api.Form, float uint64) int {
	t.Helper()
	n := 0
	if got := digitsOf(f, float); got.sure {
		n++
		if want, e := short.Digits(f, float, api.Even); got.d != want || e != api.OK {
			t.Errorf("Digits(%v, %#x): %v; short has %v, error %d", f, float, got, want, int(e))
		}
	}
	for count := 1; count <= mostAsked; count++ {
		got := someDigits(f, float, count)
		if !got.sure {
			continue
		}
		n++
		if want, _, e := digits.Some(f, float, count, api.Even); got.d != want || e != api.OK {
			t.Errorf("Some(%v, %#x, %d): %v; digits has %v, error %d", f, float, count, got, want, int(e))
		}
	}
	return n
}

func TestP193SureIsRightOfHalf(t *testing.T) {
	t.Parallel()
	n := 0
	for float := range infinite(half) {
		n += sureIsRight(t, half, float+minus(half)*(float%2))
	}
	if n < 17*int(infinite(half)) {
		t.Errorf("of Half just %d answers are sure", n)
	}
}

func TestP193SureIsRightOfSmallForms(t *testing.T) {
	t.Parallel()
	for _, f := range smallForms() {
		for float := range infinite(f) {
			sureIsRight(t, f, float)
			sureIsRight(t, f, float+minus(f))
		}
	}
}

func TestP193SureIsRight(t *testing.T) {
	t.Parallel()
	for i, f := range someForms() {
		t.Run("", func(t *testing.T) {
			t.Parallel()
			r := source(uint64(40 + i))
			for _, float := range someOf(r, f, 20, 60) {
				sureIsRight(t, f, float+minus(f)*r.Uint64N(2))
			}
		})
	}
}

func TestP193SureIsRightOfSomeForm(t *testing.T) {
	t.Parallel()
	r := source(60)
	for range 1500 {
		f := someForm(r)
		sureIsRight(t, f, someFloat(r, f))
	}
}

// What the words here call the reach is near's, of the float without its sign.
func TestP193Reach(t *testing.T) {
	for _, f := range someForms() {
		for _, float := range edges(f) {
			if float == 0 {
				continue
			}
			n, e := numberOf(f, float+minus(f))
			low, high, lowIn, highIn, e2 := near.Reach(f, float, api.Even)
			if e != api.OK || e2 != api.OK || !n.neg || lowIn != n.closed || highIn != n.closed {
				t.Errorf("%#x of %v: %v, errors %d and %d; the ends are in it: %v and %v", float, f, n, int(e), int(e2), lowIn, highIn)
			}
			if !isWorth(low, n.low, n.exp) || !isWorth(high, n.high, n.exp) {
				t.Errorf("%#x of %v: %v; the reach is %v to %v", float, f, n, low, high)
			}
		}
	}
}

// surelyWhole wants that both calls are sure of a whole number of Double: Digits tells it, and Some as soon as there are as many digits as it has.
func surelyWhole(t *testing.T, n uint64) {
	t.Helper()
	text := strconv.FormatUint(n, 10)
	want := only(false, text, 0)
	float := math.Float64bits(float64(n))
	bothSigns(t, double, float, want)
	for count := len(text); count <= mostAsked; count++ {
		bothSome(t, double, float, count, want)
	}
}

func TestP193WholeNumbersAreSure(t *testing.T) {
	t.Parallel()
	for n := uint64(1); n < 3000; n++ {
		surelyWhole(t, n)
		surelyWhole(t, 1<<53-n)
	}
	for two := uint64(2); two < 1<<53; two *= 2 {
		for _, n := range []uint64{two - 1, two, two + 1, two + two/2} {
			surelyWhole(t, n)
		}
	}
	for ten := uint64(10); ten < 1e15; ten *= 10 {
		for n := uint64(1); n <= 90 && n*ten < 1<<53; n++ {
			surelyWhole(t, n*ten-1)
			surelyWhole(t, n*ten)
			surelyWhole(t, n*ten+1)
		}
	}
	r := source(61)
	for range 3000 {
		surelyWhole(t, 1+r.Uint64N(1<<(1+r.IntN(53))-1))
	}
}

// A number of 16 digits below 2^53, told in fewer of them, is half way now and then; that is all of which Some is not sure.
func TestP193WholeNumbersInFewerDigits(t *testing.T) {
	t.Parallel()
	r := source(62)
	for range 3000 {
		n := 1 + r.Uint64N(1<<(1+r.IntN(53))-1)
		if r.IntN(2) == 0 {
			n -= n%1000 - 500*min(n/1000, 1)
		}
		text := strconv.FormatUint(max(n, 1), 10)
		float := math.Float64bits(float64(max(n, 1)))
		for count := 1; count < len(text); count++ {
			half := strings.TrimRight(text[count:], "0") == "5"
			if got := someDigits(double, float, count); got.sure == half {
				t.Errorf("Some(Double, %s, %d): %v", text, count, got)
			}
		}
	}
}

// The float with the other sign is as sure, and has the same digits with the other sign.
func TestP193TheOtherSign(t *testing.T) {
	t.Parallel()
	r := source(63)
	for _, f := range someForms() {
		for _, float := range someOf(r, f, 20, 100) {
			want := digitsOf(f, float)
			if want.d.Neg {
				t.Errorf("Digits(%v, %#x): %v", f, float, want)
			}
			want.d.Neg = want.sure
			digitsAre(t, f, float+minus(f), want)
			for n := 1; n <= mostAsked; n++ {
				want := someDigits(f, float, n)
				if want.d.Neg {
					t.Errorf("Some(%v, %#x, %d): %v", f, float, n, want)
				}
				want.d.Neg = want.sure
				someAre(t, f, float+minus(f), n, want)
			}
		}
	}
}

// native is the number of one of Go's own forms, and how many bits it has.
func native(f api.Form, float uint64) (v float64, size int) {
	if f == double {
		return math.Float64frombits(float), 64
	}
	return float64(math.Float32frombits(uint32(float))), 32
}

// written is a decimal that strconv wrote, with an exponent.
func written(t *testing.T, text string) api.Dec {
	t.Helper()
	mant, tens, _ := strings.Cut(text, "e")
	exp, err := strconv.Atoi(tens)
	if err != nil {
		t.Fatalf("strconv wrote %s", text)
	}
	mant, neg := strings.CutPrefix(mant, "-")
	ahead, behind, _ := strings.Cut(mant, ".")
	return only(neg, ahead+behind, exp-len(behind))
}

// In Go's own forms strconv tells the same of what is sure: as many digits, which are read back, and the same ones to each count.
func TestP193Strconv(t *testing.T) {
	t.Parallel()
	for i, f := range []api.Form{double, single} {
		r := rand.New(rand.NewPCG(uint64(i), 64))
		for _, float := range someOf(r, f, 200, 2000) {
			v, size := native(f, float)
			if v == 0 {
				continue
			}
			if got := digitsOf(f, float); got.sure {
				want := written(t, strconv.FormatFloat(v, 'e', -1, size))
				back, err := strconv.ParseFloat(got.d.Digits+"e"+strconv.Itoa(got.d.Exp), size)
				if len(got.d.Digits) != len(want.Digits) || err != nil || back != v {
					t.Errorf("Digits(%v, %#x): %v, which strconv reads as %v; it has %v", f, float, got, back, want)
				}
			}
			for n := 1; n <= mostAsked; n++ {
				if got := someDigits(f, float, n); got.sure && got.d != written(t, strconv.FormatFloat(v, 'e', n-1, size)) {
					t.Errorf("Some(%v, %#x, %d): %v; strconv has %s", f, float, n, got, strconv.FormatFloat(v, 'e', n-1, size))
				}
			}
		}
	}
}
