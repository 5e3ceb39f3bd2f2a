package nat

import (
	"fmt"
	"math"
	"math/big"
	"slices"
	"testing"

	"numeral/api"
)

func TestP11Of(t *testing.T) {
	for _, n := range []uint64{0, 1, 1<<32 - 1, 1 << 32, 1<<32 + 1, 1 << 63, 1<<64 - 1} {
		same(t, fmt.Sprint("Of ", n), Of(n), api.OK, new(big.Int).SetUint64(n))
	}
	if a := Of(1 << 32); !slices.Equal(a.Limbs, []uint32{0, 1}) {
		t.Error("2^32 has the limbs 0, 1; got", a.Limbs)
	}
}

func TestP11Check(t *testing.T) {
	long := make([]uint32, api.MaxLimbs+1)
	long[api.MaxLimbs] = 1
	for _, c := range []struct {
		what string
		a    api.Nat
		want api.Errno
	}{
		{"nil", api.Nat{}, api.OK},
		{"empty", limbs([]uint32{}...), api.OK},
		{"one limb", limbs(1), api.OK},
		{"low limbs 0", limbs(0, 0, 1), api.OK},
		{"one limb 0", limbs(0), api.ErrNat},
		{"5, 0", limbs(5, 0), api.ErrNat},
		{"just MaxLimbs", greatest(), api.OK},
		{"just MaxLimbs, the last one 0", filled(api.MaxLimbs, 0), api.ErrNat},
		{"one limb too many", api.Nat{Limbs: long}, api.ErrMany},
		{"one limb too many, all 0", filled(api.MaxLimbs+1, 0), api.ErrMany},
	} {
		if got := Check(c.a); got != c.want {
			t.Errorf("Check, %s: %d, want %d", c.what, int(got), int(c.want))
		}
	}
}

// call tells of a call that is handed numbers whether all that it answers beside its error is zero.
type call struct {
	name string
	do   func(a, b api.Nat) (zero bool, e api.Errno)
}

func none(l ...api.Nat) bool {
	for _, a := range l {
		if len(a.Limbs) != 0 {
			return false
		}
	}
	return true
}

func callsOfTwo() []call {
	return []call{
		{"Cmp", func(a, b api.Nat) (bool, api.Errno) { n, e := Cmp(a, b); return n == 0, e }},
		{"Add", func(a, b api.Nat) (bool, api.Errno) { s, e := Add(a, b); return none(s), e }},
		{"Sub", func(a, b api.Nat) (bool, api.Errno) { d, ok, e := Sub(a, b); return none(d) && !ok, e }},
		{"Mul", func(a, b api.Nat) (bool, api.Errno) { p, e := Mul(a, b); return none(p), e }},
		{"Div", func(a, b api.Nat) (bool, api.Errno) { q, r, e := Div(a, b); return none(q, r), e }},
		{"Gcd", func(a, b api.Nat) (bool, api.Errno) { g, e := Gcd(a, b); return none(g), e }},
	}
}

func callsOfOne(n int) []call {
	return []call{
		{"Up", func(a, _ api.Nat) (bool, api.Errno) { s, e := Up(a, n); return none(s), e }},
		{"Down", func(a, _ api.Nat) (bool, api.Errno) { s, e := Down(a, n); return none(s), e }},
		{"Bits", func(a, _ api.Nat) (bool, api.Errno) { i, e := Bits(a); return i == 0, e }},
		{"Bit", func(a, _ api.Nat) (bool, api.Errno) { ok, e := Bit(a, n); return !ok, e }},
		{"Text", func(a, _ api.Nat) (bool, api.Errno) { s, e := Text(a); return s == "", e }},
	}
}

func TestP11WrongNumbers(t *testing.T) {
	short, long := limbs(5, 0), filled(api.MaxLimbs+1, 1)
	pairs := []struct {
		a, b api.Nat
		want api.Errno
	}{
		{short, Of(7), api.ErrNat}, {Of(7), short, api.ErrNat},
		{long, Of(7), api.ErrMany}, {Of(7), long, api.ErrMany},
		{short, long, api.ErrNat}, {long, short, api.ErrMany},
		{short, api.Nat{}, api.ErrNat}, {api.Nat{}, short, api.ErrNat},
		{long, api.Nat{}, api.ErrMany}, {api.Nat{}, long, api.ErrMany},
		{limbs(0), api.Nat{}, api.ErrNat}, {api.Nat{}, limbs(0), api.ErrNat},
		{greatest(), long, api.ErrMany}, {greatest(), short, api.ErrNat}, {short, greatest(), api.ErrNat},
	}
	for i, p := range pairs {
		for _, c := range callsOfTwo() {
			if zero, e := c.do(p.a, p.b); e != p.want || !zero {
				t.Errorf("%s, pair %d: error %d, all else zero %t; want error %d", c.name, i, int(e), zero, int(p.want))
			}
		}
	}
	for _, n := range []int{-1, 0, 1, 1 << 40, math.MinInt, math.MaxInt} {
		for _, c := range callsOfOne(n) {
			for _, w := range []struct {
				a    api.Nat
				want api.Errno
			}{{short, api.ErrNat}, {limbs(0), api.ErrNat}, {filled(api.MaxLimbs, 0), api.ErrNat}, {long, api.ErrMany}, {filled(api.MaxLimbs+1, 0), api.ErrMany}} {
				if zero, e := c.do(w.a, w.a); e != w.want || !zero {
					t.Errorf("%s with %d: error %d, all else zero %t; want error %d", c.name, n, int(e), zero, int(w.want))
				}
			}
		}
	}
}

func TestP12Cmp(t *testing.T) {
	r := source(12)
	all := append(edges(2), greatest(), bit(524287), some(r, 9), some(r, 9))
	for _, a := range all {
		for _, b := range all {
			if got, e := Cmp(a, b); e != api.OK || got != asBig(a).Cmp(asBig(b)) {
				t.Errorf("Cmp(%v, %v): %d, error %d", a, b, got, int(e))
			}
		}
	}
}

func TestP15Bits(t *testing.T) {
	for n, want := range map[uint64]int{0: 0, 1: 1, 2: 2, 3: 2, 1<<32 - 1: 32, 1 << 32: 33, 1<<64 - 1: 64} {
		if got, e := Bits(Of(n)); got != want || e != api.OK {
			t.Errorf("Bits(%d): %d, error %d; want %d", n, got, int(e), want)
		}
	}
	for _, a := range append(edges(3), greatest(), bit(524287)) {
		if got, e := Bits(a); got != asBig(a).BitLen() || e != api.OK {
			t.Errorf("Bits: %d, error %d; want %d", got, int(e), asBig(a).BitLen())
		}
	}
}

func TestP15Bit(t *testing.T) {
	for _, a := range append(edges(2), limbs(0xdeadbeef, 0x12345678, 0x9abcdef0)) {
		want := asBig(a)
		for i := range 140 {
			if got, e := Bit(a, i); got != (want.Bit(i) == 1) || e != api.OK {
				t.Errorf("Bit(%v, %d): %t, error %d", a, i, got, int(e))
			}
		}
	}
	for _, c := range []struct {
		a    api.Nat
		i    int
		want bool
		e    api.Errno
	}{
		{Of(5), 2, true, api.OK}, {Of(5), 1, false, api.OK}, {Of(5), 1 << 40, false, api.OK}, {Of(5), math.MaxInt, false, api.OK},
		{Of(5), -1, false, api.ErrArg}, {Of(5), math.MinInt, false, api.ErrArg}, {api.Nat{}, 0, false, api.OK}, {api.Nat{}, -1, false, api.ErrArg},
		{greatest(), 524287, true, api.OK}, {greatest(), 524288, false, api.OK},
	} {
		if got, e := Bit(c.a, c.i); got != c.want || e != c.e {
			t.Errorf("Bit number %d: %t, error %d; want %t, %d", c.i, got, int(e), c.want, int(c.e))
		}
	}
}

func TestP15Low(t *testing.T) {
	for _, n := range []uint64{0, 1, 1<<32 - 1, 1 << 32, 1 << 63, 1<<64 - 1} {
		if got, ok := Low(fromBig(new(big.Int).SetUint64(n))); got != n || !ok {
			t.Errorf("Low(%d): %d %t", n, got, ok)
		}
	}
	for i, a := range []api.Nat{limbs(0, 0, 1), limbs(1, 1, 1), greatest(), limbs(0), limbs(5, 0), limbs(5, 6, 0), filled(api.MaxLimbs+1, 1), filled(api.MaxLimbs+1, 0)} {
		if got, ok := Low(a); got != 0 || ok {
			t.Errorf("Low, wrong number %d: %d %t", i, got, ok)
		}
	}
}
