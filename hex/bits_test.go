package hex

import (
	"fmt"
	"strings"
	"testing"

	"numeral/api"
)

// dumped is the bits in sixteens, by the chapter's words.
func dumped(f api.Form, bits uint64) string {
	sixteens := size(f) / 4
	if size(f)%4 > 0 {
		sixteens++
	}
	return fmt.Sprintf("0x%0*x", sixteens, bits)
}

// dumpedAs wants Dump to answer so, and Load to bring the bits back, of great letters too.
func dumpedAs(t *testing.T, f api.Form, bits uint64, want string) {
	t.Helper()
	if s, e := Dump(f, bits); s != want || e != api.OK {
		t.Errorf("Dump(%v, %#x): %s, error %d; want %s", f, bits, s, int(e), want)
	}
	loadedAs(t, f, want, bits, 0, api.OK)
	loadedAs(t, f, strings.ToUpper(want), bits, 0, api.OK)
}

func TestP124EveryFloatOfSmallForms(t *testing.T) {
	for _, f := range smallForms() {
		for _, bits := range everyBits(f) {
			dumpedAs(t, f, bits, dumped(f, bits))
		}
	}
}

// Every kind of float of every form, what is no number too.
func TestP124EdgesOfEveryForm(t *testing.T) {
	r := source(9)
	for _, f := range allForms() {
		for _, bits := range append(edges(f), notFinite(f)...) {
			dumpedAs(t, f, bits, dumped(f, bits))
		}
		for range 20 {
			bits := r.Uint64() & last(f) >> r.IntN(size(f))
			dumpedAs(t, f, bits, dumped(f, bits))
		}
	}
}

func TestP124WrittenOut(t *testing.T) {
	for _, c := range []struct {
		f    api.Form
		bits uint64
		want string
	}{
		{double, 0, "0x0000000000000000"}, {double, 1, "0x0000000000000001"}, {double, 1<<64 - 1, "0xffffffffffffffff"}, {double, 0x0123456789abcdef, "0x0123456789abcdef"}, {double, 0x7ff8000000000000, "0x7ff8000000000000"},
		{single, 0xffc00001, "0xffc00001"}, {single, 0x7f800000, "0x7f800000"}, {single, 0xa, "0x0000000a"}, {half, 0xfc01, "0xfc01"}, {brain, 0x8000, "0x8000"},
		{least, 0, "0x0"}, {least, 9, "0x9"}, {form(2, 2), 0x1f, "0x1f"}, {form(2, 2), 0, "0x00"}, {form(2, 4), 0x7f, "0x7f"}, {form(2, 5), 0xff, "0xff"}, {form(2, 6), 0x1ff, "0x1ff"}, {form(11, 50), 0x3fffffffffffffff, "0x3fffffffffffffff"}, {form(11, 49), 1 << 60, "0x1000000000000000"}, {form(11, 48), 1<<60 - 1, "0xfffffffffffffff"},
	} {
		dumpedAs(t, c.f, c.bits, c.want)
	}
	loadedAs(t, double, "0xFfEeDdCcBbAa9876", 0xffeeddccbbaa9876, 0, api.OK)
	loadedAs(t, double, "0X0123456789aBcDeF", 0x0123456789abcdef, 0, api.OK)
}

// may is the bytes that may stand at a place of a text of bits.
func may(at int) string {
	switch at {
	case 0:
		return "0"
	case 1:
		return "xX"
	}
	return "0123456789abcdefABCDEF"
}

// Every byte at every place.
func TestP124EachWrongByte(t *testing.T) {
	for _, f := range []api.Form{half, least, single, double, form(2, 5)} {
		text := dumped(f, 0)
		for at := range text {
			for b := range 256 {
				s := text[:at] + string([]byte{byte(b)}) + text[at+1:]
				if _, _, e := Load(f, s); strings.IndexByte(may(at), byte(b)) >= 0 {
					if e != api.OK {
						t.Errorf("Load(%v, %s): error %d", f, shortened(s), int(e))
					}
					continue
				}
				loadedAs(t, f, s, 0, at, api.ErrSyntax)
				// What is wrong behind it, or comes too early or too late, is not told.
				loadedAs(t, f, s+"0", 0, at, api.ErrSyntax)
				loadedAs(t, f, s[:at+1], 0, at, api.ErrSyntax)
				loadedAs(t, f, s[:at+1]+again("?", len(text)-at), 0, at, api.ErrSyntax)
			}
		}
	}
}

// Each digit is worth what it is, at each place.
func TestP124EachDigit(t *testing.T) {
	for at := range 16 {
		for worth, d := range []byte("0123456789abcdef") {
			s := "0x" + again("0", at) + string([]byte{d}) + again("0", 15-at)
			bits := uint64(worth) << (4 * (15 - at))
			loadedAs(t, double, s, bits, 0, api.OK)
			loadedAs(t, double, strings.ToUpper(s), bits, 0, api.OK)
		}
	}
}

func TestP124TooShortAndTooLong(t *testing.T) {
	for _, f := range append(smallForms(), namedForms()...) {
		for _, text := range []string{dumped(f, 0), dumped(f, minus(f)-1), dumped(f, last(f))} {
			for end := range text {
				loadedAs(t, f, text[:end], 0, end, api.ErrSyntax)
			}
			for b := range 256 {
				loadedAs(t, f, text+string([]byte{byte(b)}), 0, len(text), api.ErrSyntax)
			}
			loadedAs(t, f, text+text, 0, len(text), api.ErrSyntax)
			loadedAs(t, f, " "+text, 0, 0, api.ErrSyntax)
			loadedAs(t, f, "-"+text, 0, 0, api.ErrSyntax)
		}
	}
	loadedAs(t, half, "7e01", 0, 0, api.ErrSyntax)
	loadedAs(t, half, "007e01", 0, 1, api.ErrSyntax)
	loadedAs(t, half, "00x7e01", 0, 1, api.ErrSyntax)
	loadedAs(t, half, "0xx7e01", 0, 2, api.ErrSyntax)
}

// Numbers of as many sixteens that the form's bits can't be; a wrong byte comes ahead of that.
func TestP124NumbersBeyondTheForm(t *testing.T) {
	beyond := 0
	for _, f := range smallForms() {
		text := dumped(f, 0)
		for n := last(f) + 1; n < 1<<(4*(len(text)-2)); n++ {
			beyond++
			s := fmt.Sprintf("0x%x", n)
			loadedAs(t, f, s, 0, 2, api.ErrBits)
			loadedAs(t, f, strings.ToUpper(s), 0, 2, api.ErrBits)
			loadedAs(t, f, s+"0", 0, len(s), api.ErrSyntax)
			loadedAs(t, f, s[:len(s)-1], 0, len(s)-1, api.ErrSyntax)
			loadedAs(t, f, s[:len(s)-1]+"g", 0, len(s)-1, api.ErrSyntax)
		}
	}
	if beyond < 1000 {
		t.Error("only so many numbers were tried:", beyond)
	}
	for _, f := range allForms() {
		text := dumped(f, 0)
		loadedAs(t, f, dumped(f, last(f)), last(f), 0, api.OK)
		if size(f)%4 == 0 {
			loadedAs(t, f, "0x"+again("f", len(text)-2), last(f), 0, api.OK)
			continue
		}
		loadedAs(t, f, dumped(f, last(f)+1), 0, 2, api.ErrBits)
		loadedAs(t, f, "0x"+again("f", len(text)-2), 0, 2, api.ErrBits)
		loadedAs(t, f, "0x"+again("F", len(text)-3)+"g", 0, len(text)-1, api.ErrSyntax)
	}
}

// Texts of just MaxText bytes are looked at; one byte more is refused, whatever stands there.
func TestP124LongTexts(t *testing.T) {
	for _, f := range namedForms() {
		text := dumped(f, last(f))
		loadedAs(t, f, text+again("0", most-len(text)), 0, len(text), api.ErrSyntax)
		loadedAs(t, f, text+again("0", most+1-len(text)), 0, 0, api.ErrText)
		loadedAs(t, f, again("x", most), 0, 0, api.ErrSyntax)
		loadedAs(t, f, again("x", most+1), 0, 0, api.ErrText)
		loadedAs(t, f, again("0", most), 0, 1, api.ErrSyntax)
		loadedAs(t, f, again("0", 3*most), 0, 0, api.ErrText)
	}
}
