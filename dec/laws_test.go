package dec

import (
	"math/big"
	"testing"

	"numeral/api"
	"numeral/ratio"
)

// must takes what a call answers where no error may come.
func must(t *testing.T) func(d api.Dec, e api.Errno) api.Dec {
	return func(d api.Dec, e api.Errno) api.Dec {
		t.Helper()
		if e != api.OK {
			t.Fatal("error", int(e))
		}
		return d
	}
}

// mustRatio is likewise for fractions.
func mustRatio(t *testing.T) func(r api.Ratio, e api.Errno) api.Ratio {
	return func(r api.Ratio, e api.Errno) api.Ratio {
		t.Helper()
		if e != api.OK {
			t.Fatal("error", int(e))
		}
		return r
	}
}

// lawful is decimals that laws are held against, the edges and some others.
func lawful(seed uint64, n int) []api.Dec {
	all := near()
	r := source(seed)
	for range n {
		all = append(all, some(r, 40))
	}
	return all
}

func TestP107OfAndRatio(t *testing.T) {
	fraction := mustRatio(t)
	for _, d := range lawful(11, 1000) {
		r := fraction(Ratio(d))
		want := d
		if d.Digits == "" {
			want.Neg = false
		}
		back, ok, e := Of(r)
		wantsTold(t, "Of of Ratio("+show(d)+")", back, ok, e, want, true, api.OK)
		if again := fraction(Ratio(back)); !sameRatio(again, r) {
			t.Errorf("Ratio of Of of the fraction of %s is another one", show(d))
		}
	}
	r := source(12)
	for range 500 {
		den := new(big.Int).Mul(power(2, r.IntN(90)), power(5, r.IntN(90)))
		x := ratioOf(frac(asInt(some(r, 40)), den))
		d, ok, e := Of(x)
		if !ok || e != api.OK {
			t.Fatal("no decimal, error", int(e))
		}
		if again := fraction(Ratio(d)); !sameRatio(again, x) {
			t.Errorf("Ratio of Of: another fraction than that of %s", show(d))
		}
	}
}

// Cmp, Add and Mul are those of the fractions.
func TestP107TheFractionsOwn(t *testing.T) {
	ok, fraction := must(t), mustRatio(t)
	all := lawful(13, 60)
	for i, a := range all {
		x := fraction(Ratio(a))
		for _, b := range all[i:] {
			y := fraction(Ratio(b))
			order, e := ratio.Cmp(x, y)
			if n, f := Cmp(a, b); n != order || e != api.OK || f != api.OK {
				t.Errorf("Cmp(%s, %s): %d; of the fractions %d", show(a), show(b), n, order)
			}
			if got, want := fraction(Ratio(ok(Add(a, b)))), fraction(ratio.Add(x, y)); !sameRatio(got, want) {
				t.Errorf("Add(%s, %s) is not that of the fractions", show(a), show(b))
			}
			if got, want := fraction(Ratio(ok(Mul(a, b)))), fraction(ratio.Mul(x, y)); !sameRatio(got, want) {
				t.Errorf("Mul(%s, %s) is not that of the fractions", show(a), show(b))
			}
		}
	}
}

type rounding struct {
	name  string
	least int
	do    func(d api.Dec, n int, mode uint8) (api.Dec, bool, api.Errno)
	unit  func(d api.Dec, n int) int // the exponent of the last place that is left
}

func roundings() []rounding {
	return []rounding{
		{"Round", 1, Round, func(d api.Dec, n int) int { return d.Exp + len(d.Digits) - n }},
		{"Places", 0, Places, func(d api.Dec, n int) int { return -n }},
	}
}

func TestP107HowFarRoundingGoes(t *testing.T) {
	ok := must(t)
	for _, c := range roundings() {
		for _, d := range lawful(14, 300) {
			for n := c.least; n < 12; n++ {
				unit := shifted(big.NewInt(1), c.unit(d, n))
				for _, mode := range everyMode {
					got, same, e := c.do(d, n, mode)
					less := new(big.Rat).Sub(asRat(ok(got, e)), asRat(d))
					if same != (less.Sign() == 0) {
						t.Errorf("%s(%s, %d, %d): told %v, and %s", c.name, show(d), n, mode, same, show(got))
					}
					if mode == api.Up && less.Sign() < 0 || mode == api.Down && less.Sign() > 0 {
						t.Errorf("%s(%s, %d, %d) went the wrong way: %s", c.name, show(d), n, mode, show(got))
					}
					less.Abs(less)
					if mode == api.Even || mode == api.Away {
						less.Add(less, less)
					}
					if less.Cmp(unit) > 0 {
						t.Errorf("%s(%s, %d, %d) went too far: %s", c.name, show(d), n, mode, show(got))
					}
				}
			}
		}
	}
}

// mirrored is a mode with Up and Down exchanged.
func mirrored(mode uint8) uint8 {
	switch mode {
	case api.Up:
		return api.Down
	case api.Down:
		return api.Up
	}
	return mode
}

func TestP107MirroredAndTwice(t *testing.T) {
	ok := must(t)
	for _, c := range roundings() {
		for _, d := range append(lawful(15, 300), dc("15", -far), dc("-95", -far), dc("999", far-3)) {
			for n := c.least; n < 12; n++ {
				for _, mode := range everyMode {
					got, same, e := c.do(d, n, mode)
					ok(got, e)
					other, alike, e := c.do(turned(d), n, mirrored(mode))
					if ok(other, e) != turned(got) || alike != same {
						t.Errorf("%s(%s, %d, %d): %s, and mirrored %s", c.name, show(d), n, mode, show(got), show(other))
					}
					twice, kept, e := c.do(got, n, mode)
					if ok(twice, e) != got || !kept {
						t.Errorf("%s(%s, %d, %d): %s, and again %s", c.name, show(d), n, mode, show(got), show(twice))
					}
				}
			}
		}
	}
}
