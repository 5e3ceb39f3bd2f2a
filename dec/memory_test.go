package dec

import (
	"runtime"
	"slices"
	"strings"
	"testing"
	"unsafe"

	"numeral/api"
)

const mark = 0x5a5a5a5a

// roomy has the same limbs and room behind them, which is marked.
func roomy(a api.Nat) api.Nat {
	l := append(slices.Clone(a.Limbs), mark, mark, mark)
	return api.Nat{Limbs: l[:len(a.Limbs)]}
}

// whole is a number's limbs with the room behind them.
func whole(a api.Nat) []uint32 { return a.Limbs[:cap(a.Limbs)] }

// A fraction that is handed in stays as it was, its spare room too.
func TestMemoryOfFractions(t *testing.T) {
	for _, c := range [][2]int{{1, 1}, {1200, 1}, {1, 8}, {3, 25}, {7, 1000}, {1, 3}, {0, 1}, {2, 4}} {
		r := api.Ratio{Num: roomy(natOf(power(c[0], 9))), Den: roomy(natOf(power(c[1], 9)))}
		num, den := slices.Clone(whole(r.Num)), slices.Clone(whole(r.Den))
		Of(r)
		if !slices.Equal(whole(r.Num), num) || !slices.Equal(whole(r.Den), den) {
			t.Errorf("Of a fraction of %d and %d has changed it", c[0], c[1])
		}
	}
}

// Two fractions that are answered share no memory, nor do the two numbers of one.
func TestMemoryOfAnsweredFractions(t *testing.T) {
	for _, d := range []api.Dec{{}, dc("1", 0), dc("-12", 30), dc("7", -30), dc("5", -1)} {
		one, _ := Ratio(d)
		other, _ := Ratio(d)
		lists := [][]uint32{whole(one.Num), whole(one.Den), whole(other.Num), whole(other.Den)}
		for i, l := range lists {
			was := make([][]uint32, len(lists))
			for j := range lists {
				was[j] = slices.Clone(lists[j])
			}
			for k := range l {
				l[k] ^= 0xffffffff
			}
			for j := range lists {
				if j != i && !slices.Equal(lists[j], was[j]) {
					t.Errorf("Ratio(%s): the numbers %d and %d share memory", show(d), i, j)
				}
			}
		}
	}
}

// within is whether a text's bytes lie in another's.
func within(s, in string) bool {
	if s == "" || in == "" {
		return false
	}
	at, from := uintptr(unsafe.Pointer(unsafe.StringData(s))), uintptr(unsafe.Pointer(unsafe.StringData(in)))
	return at >= from && at < from+uintptr(len(in))
}

// Digits that are answered are no piece of what was handed in: a long text is not held by a few digits of it.
func TestMemoryOfDigits(t *testing.T) {
	text := strings.Repeat("0", 100) + "12345" + strings.Repeat("0", 100)
	made, _ := Make(false, text, 0)
	if within(made.Digits, text) {
		t.Error("Make answers a piece of the text")
	}
	long, none := dc(strings.Repeat("12345", 10), -3), api.Dec{}
	answers := func(name string, d api.Dec) {
		t.Helper()
		if within(d.Digits, long.Digits) {
			t.Errorf("%s answers a piece of the digits", name)
		}
	}
	rounded, _, _ := Round(long, 5, api.Zero)
	answers("Round", rounded)
	rounded, _, _ = Round(long, 100, api.Zero)
	answers("Round of few digits", rounded)
	rounded, _, _ = Places(long, 1, api.Zero)
	answers("Places", rounded)
	rounded, _, _ = Places(long, 9, api.Zero)
	answers("Places of few places", rounded)
	sum, _ := Add(long, none)
	answers("Add of nought", sum)
	sum, _ = Add(none, long)
	answers("Add to nought", sum)
	moved, _ := Shift(long, 1)
	answers("Shift", moved)
	plain, _ := Plain(dc(long.Digits, 0))
	answers("Plain", api.Dec{Digits: plain})
	one := strings.Repeat("7", 1)
	told, _ := Scientific(dc(one, 0))
	if within(told, one) {
		t.Error("Scientific answers a piece of the digits")
	}
}

// What is far apart, or far from 1, is neither laid out nor waited for.
func TestFarExponentsTakeNoMemory(t *testing.T) {
	var before, after runtime.MemStats
	runtime.ReadMemStats(&before)
	for range 20 {
		for _, d := range []api.Dec{dc("1", far), dc("-7", -far), dc("123", far), dc("9", 1-far)} {
			for _, other := range []api.Dec{dc("1", 0), dc("-3", -far), dc("3", far)} {
				Cmp(d, other)
				Add(d, other)
				Mul(d, other)
			}
			Ratio(d)
			Plain(d)
			Scientific(d)
			Round(d, 1, api.Up)
			Places(d, 0, api.Up)
			Places(d, api.MaxPlaces, api.Down)
			Shift(d, -d.Exp)
			Make(true, d.Digits, d.Exp)
		}
	}
	runtime.ReadMemStats(&after)
	// The digits of one number of 2^30 digits would be 2^30 bytes.
	if took := after.TotalAlloc - before.TotalAlloc; took > 1<<24 {
		t.Errorf("%d bytes for nothing", took)
	}
}
