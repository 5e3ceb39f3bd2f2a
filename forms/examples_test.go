package forms

import (
	"testing"

	"numeral/api"
)

// told holds one answer of bits to what the chapter's table says of it.
func told(t *testing.T, call string, bits uint64, e api.Errno, want uint64, wantErr api.Errno) {
	t.Helper()
	if bits != want || e != wantErr {
		t.Errorf("%s = %#x, error %d; want %#x, error %d", call, bits, int(e), want, int(wantErr))
	}
}

func TestExamplesOfCheckAndFits(t *testing.T) {
	for _, x := range []struct {
		f    api.Form
		want api.Errno
	}{
		{form(1, 5), api.ErrForm}, {form(12, 5), api.ErrForm}, {form(5, 0), api.ErrForm}, {form(5, 53), api.ErrForm},
		{form(2, 1), api.OK}, {form(11, 52), api.OK},
	} {
		if e := Check(x.f); e != x.want {
			t.Errorf("Check(%v): error %d", x.f, int(e))
		}
	}
	for _, x := range []struct {
		f    api.Form
		bits uint64
		want api.Errno
	}{{Half(), 65535, api.OK}, {Half(), 65536, api.ErrBits}, {form(2, 1), 16, api.ErrBits}} {
		if e := Fits(x.f, x.bits); e != x.want {
			t.Errorf("Fits(%v, %d): error %d", x.f, x.bits, int(e))
		}
	}
}

func TestExamplesOfSplitAndJoin(t *testing.T) {
	if p, e := Split(Single(), 0xc0490fdb); p != (api.Parts{Neg: true, Exp: 128, Frac: 0x490fdb}) || e != api.OK {
		t.Errorf("Split(Single, 0xc0490fdb) = %v, error %d", p, int(e))
	}
	for _, x := range []struct {
		p    api.Parts
		want uint64
		e    api.Errno
	}{
		{api.Parts{Exp: 31, Frac: 1}, 0x7c01, api.OK},
		{api.Parts{Exp: 32}, 0, api.ErrParts},
		{api.Parts{Frac: 1024}, 0, api.ErrParts},
		{api.Parts{Exp: -1}, 0, api.ErrParts},
	} {
		bits, e := Join(Half(), x.p)
		told(t, "Join of Half", bits, e, x.want, x.e)
	}
}

func TestExamplesOfClass(t *testing.T) {
	for i, bits := range []uint64{0, 1, 0x0010000000000000, 0x7ff0000000000000, 0x7ff0000000000001} {
		if c, e := Class(Double(), bits); c != uint8(i+1) || e != api.OK {
			t.Errorf("Class(Double, %#x) = %d, error %d", bits, c, int(e))
		}
	}
	for bits, want := range []uint8{1, 2, 3, 3, 3, 3, 4, 5} {
		if c, e := Class(form(2, 1), uint64(bits)); c != want || e != api.OK {
			t.Errorf("Class({2, 1}, %d) = %d, error %d", bits, c, int(e))
		}
	}
}

func TestExamplesOfKnownFloats(t *testing.T) {
	bits, e := Nought(Half(), true)
	told(t, "Nought(Half, yes)", bits, e, 0x8000, api.OK)
	bits, e = Inf(Half(), true)
	told(t, "Inf(Half, yes)", bits, e, 0xfc00, api.OK)
	bits, e = NaN(Half(), false, 3)
	told(t, "NaN(Half, no, 3)", bits, e, 0x7e03, api.OK)
	bits, e = Greatest(Half(), false)
	told(t, "Greatest(Half, no)", bits, e, 0x7bff, api.OK)
	bits, e = Normal(Half(), true)
	told(t, "Normal(Half, yes)", bits, e, 0x8400, api.OK)
	bits, e = Least(Half(), false)
	told(t, "Least(Half, no)", bits, e, 1, api.OK)
	bits, e = NaN(Half(), false, 512)
	told(t, "NaN(Half, no, 512)", bits, e, 0, api.ErrParts)
	bits, e = NaN(form(2, 1), true, 0)
	told(t, "NaN({2, 1}, yes, 0)", bits, e, 15, api.OK)
	bits, e = NaN(form(2, 1), false, 1)
	told(t, "NaN({2, 1}, no, 1)", bits, e, 0, api.ErrParts)
}

func TestExamplesOfPayloadAndRange(t *testing.T) {
	for _, x := range []struct {
		bits, payload uint64
		quiet         bool
		e             api.Errno
	}{{0x7e03, 3, true, api.OK}, {0xfc03, 3, false, api.OK}, {0x7c00, 0, false, api.ErrArg}} {
		if payload, quiet, e := Payload(Half(), x.bits); payload != x.payload || quiet != x.quiet || e != x.e {
			t.Errorf("Payload(Half, %#x) = %d, %v, error %d", x.bits, payload, quiet, int(e))
		}
	}
	if least, greatest, e := Range(Double()); least != -1074 || greatest != 1023 || e != api.OK {
		t.Errorf("Range(Double) = %d, %d, error %d", least, greatest, int(e))
	}
	if least, greatest, e := Range(form(2, 1)); least != -1 || greatest != 1 || e != api.OK {
		t.Errorf("Range({2, 1}) = %d, %d, error %d", least, greatest, int(e))
	}
}
