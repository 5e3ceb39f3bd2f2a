package read

import (
	"slices"
	"strings"
	"sync"
	"testing"

	"numeral/api"
)

// What is handed in stays as it was, its spare room too, and the next call answers the same.
func TestP161NothingHandedInChanges(t *testing.T) {
	room := []uint32{0xffffffff, 0x12345678, 5, 99, 98}
	kept := slices.Clone(room)
	n := api.Number{Kind: api.NumHex, Neg: true, Hex: api.Dyadic{Neg: true, Mant: api.Nat{Limbs: room[:3]}, Exp: -80}}
	for _, f := range someForms() {
		for _, mode := range everyMode {
			bits, flags, e := Number(f, n, mode)
			numberIs(t, f, n, mode, told{bits, flags}, e)
		}
	}
	if !slices.Equal(room, kept) || n.Hex.Exp != -80 || !n.Neg || !n.Hex.Neg {
		t.Error("a number was changed:", show(n), room)
	}
}

func TestP162TextsStayAsTheyWere(t *testing.T) {
	for _, s := range []string{"1_0.50E-3", "0X1.8P3", "-Infinity", "\u2212\u0661", "nan(7)", "1x", "-0"} {
		kept := strings.Clone(s)
		first := readingOf(t, half, s, api.Up)
		if s != kept || readingOf(t, half, s, api.Up) != first {
			t.Errorf("%s became %s, or is read otherwise", kept, s)
		}
	}
}

// Each error is one of its own: changing the fault of one changes no other one.
func TestP162ErrorsAreNew(t *testing.T) {
	for _, c := range []struct {
		f    api.Form
		s    string
		mode uint8
	}{{half, "1x", 0}, {half, "nan(512)", 0}, {half, "1", 9}, {form(1, 5), "1", 0}, {half, again("1", most+1), 0}} {
		one, other := faultOf(t, c.s, errorOf(c.f, c.s, c.mode)), faultOf(t, c.s, errorOf(c.f, c.s, c.mode))
		kept := *other
		*one = api.Fault{Code: 99, At: 99}
		if *other != kept {
			t.Errorf("%s: two errors share a fault", shortened(c.s))
		}
		bitsRefuse(t, c.f, c.s, c.mode, kept.Code, kept.At)
	}
}

// Nothing hangs on what was asked before, nor on who else asks at the time.
func TestP162TheSameAgain(t *testing.T) {
	r := source(90)
	var texts []string
	var want []reading
	for range 300 {
		s := anyText(r)
		texts, want = append(texts, s), append(want, readingOf(t, single, s, api.Even))
	}
	got := make([][]reading, 4)
	var all sync.WaitGroup
	for i := range got {
		all.Go(func() {
			for _, s := range texts {
				bits, flags, err := Bits(single, s, api.Even)
				code := api.OK
				if err != nil {
					code = api.ErrPayload // the only error of these texts
				}
				got[i] = append(got[i], reading{told{bits, flags}, code})
			}
		})
	}
	all.Wait()
	for _, g := range got {
		if !slices.Equal(g, want) {
			t.Error("several at a time read otherwise than one")
		}
	}
}
