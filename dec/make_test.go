package dec

import (
	"math/big"
	"strconv"
	"testing"

	"numeral/api"
)

// mayBe is the chapter's words for digits alone.
func mayBe(digits string) bool {
	for _, b := range []byte(digits) {
		if b < 48 || b > 57 {
			return false
		}
	}
	return digits == "" || digits[0] != '0' && digits[len(digits)-1] != '0'
}

func checkCheck(t *testing.T, digits string) {
	t.Helper()
	want := api.OK
	if !mayBe(digits) {
		want = api.ErrDec
	}
	for _, neg := range []bool{false, true} {
		if e := Check(api.Dec{Neg: neg, Digits: digits}); e != want {
			t.Errorf("Check of %q: error %d; want %d", digits, int(e), int(want))
		}
	}
}

// All texts of up to two bytes, and of three bytes of those that matter.
func TestP101CheckOfShortTexts(t *testing.T) {
	checkCheck(t, "")
	for first := range 256 {
		checkCheck(t, string([]byte{byte(first)}))
		for second := range 256 {
			checkCheck(t, string([]byte{byte(first), byte(second)}))
		}
	}
	const bytes = "0159/:-+.ex \x00\xff"
	for i := range len(bytes) {
		for j := range len(bytes) {
			for k := range len(bytes) {
				checkCheck(t, string([]byte{bytes[i], bytes[j], bytes[k]}))
			}
		}
	}
}

func TestP101CheckOfExponents(t *testing.T) {
	for _, exp := range farInts() {
		for _, digits := range []string{"1", "-1", "99", again("7", most)} {
			want := api.OK
			if exp > far || exp < -far {
				want = api.ErrDec
			}
			if e := Check(dc(digits, exp)); e != want {
				t.Errorf("Check of %s: error %d; want %d", show(dc(digits, exp)), int(e), int(want))
			}
		}
		for _, digits := range []string{"", "-"} {
			want := api.OK
			if exp != 0 {
				want = api.ErrDec
			}
			if e := Check(dc(digits, exp)); e != want {
				t.Errorf("Check of nought with the exponent %d: error %d; want %d", exp, int(e), int(want))
			}
		}
	}
}

func TestP101CheckOfWrongDecimals(t *testing.T) {
	for _, w := range wrongDecimals() {
		if e := Check(w.d); e != w.e {
			t.Errorf("Check of %s: error %d; want %d", w.what, int(e), int(w.e))
		}
	}
	for _, d := range edges() {
		if e := Check(d); e != api.OK {
			t.Errorf("Check of %s: error %d", show(d), int(e))
		}
	}
	if e := Check(dc(again("1", most), 0)); e != api.OK {
		t.Errorf("Check of MaxText digits: error %d", int(e))
	}
}

// checkMake holds Make of digits, of both signs, against the number that they are.
func checkMake(t *testing.T, digits string, exp int) {
	t.Helper()
	n := new(big.Int)
	if digits != "" {
		n.SetString(digits, 10)
	}
	for _, neg := range []bool{false, true} {
		want, wantErr := api.Dec{Neg: neg}, api.OK
		if n.Sign() != 0 {
			want = only(n, 0, false)
			// The exponents of the test's own may wrap.
			sum := new(big.Int).Add(big.NewInt(int64(want.Exp)), big.NewInt(int64(exp)))
			if sum.CmpAbs(big.NewInt(far)) > 0 {
				wantErr = api.ErrMany
			}
			want.Neg, want.Exp = neg, int(sum.Int64())
		}
		got, e := Make(neg, digits, exp)
		what := "Make of " + show(api.Dec{Neg: neg, Digits: digits, Exp: exp})
		wants(t, what, got, e, want, wantErr)
		if e == api.OK && Check(got) != api.OK {
			t.Errorf("%s may not be", what)
		}
	}
}

// All texts of up to five bytes of these.
func TestP101MakeOfShortTexts(t *testing.T) {
	texts := []string{""}
	for range 5 {
		for _, s := range texts {
			for _, digit := range []string{"0", "1", "9"} {
				texts = append(texts, s+digit)
			}
		}
	}
	for _, s := range texts {
		checkMake(t, s, 0)
		checkMake(t, s, 3)
		checkMake(t, s, -7)
	}
}

func TestP101MakeOfSome(t *testing.T) {
	r := source(1)
	for range 2000 {
		checkMake(t, again("0", r.IntN(5))+someDigits(r, 1+r.IntN(80))+again("0", r.IntN(5)), r.IntN(200)-100)
	}
	for i := range 100000 {
		if i < 1000 || i%997 == 0 {
			checkMake(t, strconv.Itoa(i), i%13-6)
		}
	}
}

// The noughts behind count for the exponent, whatever int was handed in.
func TestP101MakeAtTheEndsOfExponents(t *testing.T) {
	for _, behind := range []int{0, 1, 2, 9, most - 1} {
		for _, at := range farInts() {
			checkMake(t, "1"+again("0", behind), at)
			if at-behind < at { // else it has wrapped
				checkMake(t, "1"+again("0", behind), at-behind)
				checkMake(t, "1"+again("0", behind), at-behind-1)
			}
		}
	}
	for _, exp := range farInts() {
		checkMake(t, "", exp)
		checkMake(t, "000", exp)
		checkMake(t, "00250", exp)
	}
}

func TestP101MakeOfManyDigits(t *testing.T) {
	for _, digits := range []string{again("9", most), again("0", most), "1" + again("0", most-1), again("0", most-1) + "1", "1" + again("0", most-2) + "1"} {
		checkMake(t, digits, 0)
		checkMake(t, digits, far)
		checkMake(t, digits, -far)
		for _, more := range []string{"0" + digits, digits + "0", "1" + digits, "x" + digits, digits + "\xff"} {
			got, e := Make(true, more, 0)
			wants(t, "Make of one byte more than MaxText", got, e, api.Dec{}, api.ErrMany)
		}
	}
}

// A byte that is no digit is told ahead of exponents that may not be, and of noughts.
func TestP101MakeOfOtherBytes(t *testing.T) {
	for _, exp := range []int{0, far + 1, 1 << 62, -1 << 62} {
		for b := range 256 {
			if b >= '0' && b <= '9' {
				continue
			}
			other := string([]byte{byte(b)})
			for _, digits := range []string{other, other + "1", "1" + other, "1" + other + "1", "00" + other, other + "00", "0" + other + "0"} {
				got, e := Make(true, digits, exp)
				wants(t, "Make of "+strconv.Quote(digits), got, e, api.Dec{}, api.ErrDec)
			}
		}
	}
	for _, place := range []int{0, 1, most / 2, most - 2, most - 1} {
		got, e := Make(false, again("3", place)+"/"+again("3", most-1-place), 0)
		wants(t, "Make of MaxText bytes with one that is no digit", got, e, api.Dec{}, api.ErrDec)
	}
}
